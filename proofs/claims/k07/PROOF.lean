import PyProof.Rows.All
import Wide.All
import OpenK.AllK
import Wide.FinOn
import Lean
import PyProof.EqAt
import PyProof.EqKinds
import PyProof.TupleCall
import PySem.Challenge.RW_roomweek_k07_whole_fewest_rooms
set_option Elab.async false
set_option linter.all false
set_option maxRecDepth 100000
set_option maxHeartbeats 4000000
namespace L2
open PySem PySem.Spec PyProof.Rows

/-- a key: an int or a str -/
abbrev Key := Sum Int Str
def keyIs : Key → Value → Bool
  | .inl k, v => Value.isInt k v
  | .inr x, v => Value.isStrOf x v
def keyH (w : World) : Key → Int
  | .inl k => hashInt k
  | .inr x => hashStr w x
theorem keyIs_shape : ∀ {k : Key} {v : Value}, keyIs k v = true → (∃ i t, k = Sum.inl i ∧ v = Value.int i t) ∨ (∃ x t, k = Sum.inr x ∧ v = Value.str x t)
  | .inl i, v, h => by
    obtain ⟨t, e⟩ := Value.isInt_shape (k := i) (v := v) h
    exact .inl ⟨i, t, rfl, e⟩
  | .inr x, v, h => by
    obtain ⟨t, e⟩ := Value.isStrOf_shape (x := x) (v := v) h
    exact .inr ⟨x, t, rfl, e⟩
theorem keyIs_int (i : Int) (t : Tok) : keyIs (.inl i) (.int i t) = true := by simp [keyIs, Value.isInt]
theorem keyIs_str (x : Str) (t : Tok) : keyIs (.inr x) (.str x t) = true := by simp [keyIs, Value.isStrOf]
theorem key_ll (a b : Int) : decide ((Sum.inl a : Key) = Sum.inl b) = (a == b) := by
  by_cases e : a = b
  · subst e; simp
  · have h : ¬ (Sum.inl a : Key) = Sum.inl b := fun q => e (Sum.inl.inj q)
    rw [decide_eq_false h]
    exact (beq_eq_false_iff_ne.mpr e).symm
theorem key_rr (a b : Str) : decide ((Sum.inr a : Key) = Sum.inr b) = decide (a = b) := by
  by_cases e : a = b
  · subst e; simp
  · have h : ¬ (Sum.inr a : Key) = Sum.inr b := fun q => e (Sum.inr.inj q)
    rw [decide_eq_false h, decide_eq_false e]
theorem key_lr (a : Int) (b : Str) : decide ((Sum.inl a : Key) = Sum.inr b) = false := decide_eq_false (fun q => nomatch q)
theorem key_rl (a : Str) (b : Int) : decide ((Sum.inr a : Key) = Sum.inl b) = false := decide_eq_false (fun q => nomatch q)

def mixKind (prog : Program) (w : World) : PySem.KeyKind prog w Key where
  is := keyIs
  hash := keyH w
  inj := fun v a b ha hb => by
    rcases keyIs_shape ha with ⟨i, t, rfl, rfl⟩ | ⟨x, t, rfl, rfl⟩
    · rcases keyIs_shape hb with ⟨j, u, rfl, e⟩ | ⟨y, u, rfl, e⟩
      · injection e with e1 _; rw [e1]
      · exact nomatch e
    · rcases keyIs_shape hb with ⟨j, u, rfl, e⟩ | ⟨y, u, rfl, e⟩
      · exact nomatch e
      · injection e with e1 _; rw [e1]
  byValue := fun k v h => by
    rcases keyIs_shape h with ⟨i, t, rfl, rfl⟩ | ⟨x, t, rfl, rfl⟩ <;> rfl
  pyHash := fun hv h => by
    rcases keyIs_shape hv with ⟨i, t, rfl, rfl⟩ | ⟨x, t, rfl, rfl⟩
    · exact wpAny_pyHash_int h
    · exact wpAny_pyHash_str h
  eqBool := fun hu hv h => by
    rcases keyIs_shape hu with ⟨i, t, rfl, rfl⟩ | ⟨x, t, rfl, rfl⟩
    · rcases keyIs_shape hv with ⟨j, u, rfl, rfl⟩ | ⟨y, u, rfl, rfl⟩
      · rw [key_ll] at h; exact wpAny_eqBool_int h
      · rw [key_lr] at h; exact SeqAt.EqAt.int_str i t y u _ _ _ _ h
    · rcases keyIs_shape hv with ⟨j, u, rfl, rfl⟩ | ⟨y, u, rfl, rfl⟩
      · rw [key_rl] at h; exact SeqAt.EqAt.str_int x t j u _ _ _ _ h
      · rw [key_rr] at h; exact wpAny_eqBool_str h
  «strs» := fun k x t v h => by
    rcases keyIs_shape h with ⟨i, u, rfl, e⟩ | ⟨y, u, rfl, e⟩
    · exact nomatch e
    · injection e with e1 _
      subst e1
      cases v <;> rfl

theorem mixKind_is (prog : Program) (w : World) (k : Key) (v : Value) : (mixKind prog w).is k v = keyIs k v := rfl
theorem mixKind_int (prog : Program) (w : World) (i : Int) (t : Tok) : (mixKind prog w).is (.inl i) (.int i t) = true := keyIs_int i t
theorem mixKind_str (prog : Program) (w : World) (x : Str) (t : Tok) : (mixKind prog w).is (.inr x) (.str x t) = true := keyIs_str x t
end L2

namespace L2
open PySem PySem.Spec PyProof.Rows

/-- a value, without the heap -/
inductive V where
  | non | bl (b : Bool) | int (i : Int) | str (x : Str) | byt (b : Array UInt8) | flt (b : UInt64) | ref (a : Addr) | ty (n : String)
  deriving DecidableEq

def RelV : V → Value → Prop
  | .non, u => u = Value.none
  | .bl b, u => u = Value.bool b
  | .int i, u => ∃ t, u = Value.int i t
  | .str x, u => ∃ t, u = Value.str x t
  | .byt b, u => ∃ t, u = Value.bytes b t
  | .flt b, u => ∃ t, u = Value.float b t
  | .ref a, u => u = Value.ref a
  | .ty n, u => u = Value.type n

abbrev Vals : List V → List Value → Prop := Paired RelV
theorem Vals.length {xs : List V} {us : List Value} (r : Vals xs us) : xs.length = us.length := Paired.length r
theorem Vals.get : ∀ {xs : List V} {us : List Value} {i : Nat} {x : V}, Vals xs us → xs[i]? = some x → ∃ u, us[i]? = some u ∧ RelV x u
  | _, _, _, _, .nil, e => by simp at e
  | _, _, 0, _, .cons r _, e => by simp at e; subst e; exact ⟨_, rfl, r⟩
  | _, _, i + 1, x, .cons _ t, e => by
    obtain ⟨u, h1, h2⟩ := Vals.get (i := i) (x := x) t (by simpa using e)
    exact ⟨u, by simpa using h1, h2⟩
theorem Vals.set {x : V} {u : Value} (r : RelV x u) : ∀ {xs : List V} {us : List Value} (i : Nat), Vals xs us → Vals (xs.set i x) (us.set i u)
  | _, _, _, .nil => .nil
  | _, _, 0, .cons _ t => .cons r t
  | _, _, i + 1, .cons q t => .cons q (Vals.set r i t)
theorem Vals.append : ∀ {xs ys : List V} {us ws : List Value}, Vals xs us → Vals ys ws → Vals (xs ++ ys) (us ++ ws)
  | _, _, _, _, .nil, s => s
  | _, _, _, _, .cons r t, s => .cons r (Vals.append t s)
theorem Vals.take : ∀ {xs : List V} {us : List Value} (n : Nat), Vals xs us → Vals (xs.take n) (us.take n)
  | _, _, 0, _ => .nil
  | _, _, _ + 1, .nil => .nil
  | _, _, n + 1, .cons r t => .cons r (Vals.take n t)
theorem Vals.drop : ∀ {xs : List V} {us : List Value} (n : Nat), Vals xs us → Vals (xs.drop n) (us.drop n)
  | _, _, 0, r => r
  | _, _, _ + 1, .nil => .nil
  | _, _, n + 1, .cons _ t => Vals.drop n t
theorem Vals.none_of : ∀ {xs : List V} {us : List Value} {i : Nat}, Vals xs us → xs[i]? = none → us[i]? = none := fun {xs us i} r e => by
  have h1 := r.length
  have h2 : xs.length ≤ i := List.getElem?_eq_none_iff.mp e
  exact List.getElem?_eq_none_iff.mpr (by omega)

def RelO : Option V → Option Value → Prop
  | some v, some u => RelV v u
  | none, none => True
  | _, _ => False
def KV {κ : Type} : List (κ × V) → List (κ × Value) → Prop := Paired fun (p : κ × V) (q : κ × Value) => p.1 = q.1 ∧ RelV p.2 q.2

/-- a key of a dict (00_mix): an int or a text -/
def kV : Key → V
  | .inl i => .int i
  | .inr x => .str x

/-- what stands at a tracked address -/
inductive HO where
  /-- a list -/
  | lst (xs : List V)
  /-- a tuple (never changes) -/
  | tup (xs : List V)
  /-- a dict whose keys are ints and texts; one whose keys are tuples of ints and texts (the empty one is both) -/
  | dK (kvs : List (Key × V)) | dT (kvs : List (List Key × V))
  /-- a set of ints: its members, its size -/
  | set (S : Int → Bool) (n : Nat)
  /-- an instance of the class at C, its dict at dx, its attributes -/
  | ins (C dx : Addr) (fs : List (Str × V))
  /-- the dict of the instance at x -/
  | own (x : Addr)
  /-- the dict of an exception -/
  | xd (fs : List (Str × V))
  /-- a bound method, f of x -/
  | met (f x : Addr)
  /-- a range object lo, lo + 1, .. below hi -/
  | rng (lo hi : Int)
  /-- a thing that is known to the object (the script; a dict while a loop walks it): read, never written while it is so -/
  | frz (o : Obj) (u : HO)
  /-- a code object's table -/
  | tbl (ps : Array Value)
  /-- any other thing, by what is true of its one object (a def of one's own: SetO a S n := HO.ext fun h => ..) -/
  | ext (φ : Heap → Prop)

abbrev Hp := Addr → Option HO
def upd (H : Hp) (a : Addr) (o : HO) : Hp := fun b => if b = a then some o else H b
theorem upd_same {H : Hp} {a : Addr} {o : HO} : upd H a o a = some o := by unfold upd; rw [if_pos rfl]
theorem upd_ne {H : Hp} {a b : Addr} {o : HO} (h : b ≠ a) : upd H a o b = H b := by unfold upd; rw [if_neg h]
theorem upd_upd {H : Hp} {a : Addr} {o u : HO} : upd (upd H a o) a u = upd H a u := by
  funext b; unfold upd; split <;> rfl
/-- two objects of different content stand apart -/
theorem ne_of {H : Hp} {a b : Addr} {o u : HO} (h : H a = some o) (h' : H b = some u) (d : o ≠ u) : a ≠ b := by
  intro e; subst e; rw [h] at h'; exact d (Option.some.inj h')
theorem ne_of_none {H : Hp} {a b : Addr} {o : HO} (h : H a = some o) (h' : H b = none) : a ≠ b := by
  intro e; subst e; rw [h] at h'; cases h'

section
variable (P : Program) (w : World)
def ObjOk (H : Hp) (h : Heap) (a : Addr) : HO → Prop
  | .lst xs => xs.length ≤ sizeLine ∧ ∃ (its : List Value) (n : Nat), Vals xs its ∧ h.get? a = some { cls := .type "list", data := .seq its.toArray n }
  | .tup xs => xs.length ≤ sizeLine ∧ ∃ its : List Value, Vals xs its ∧ IsTup h a its.toArray
  | .dK kvs => kvs.length ≤ sizeLine ∧ (a == sysModules) = false ∧ ∃ vs, KV kvs vs ∧ h.DictOf (mixKind P w) a vs
  | .dT kvs => kvs.length ≤ sizeLine ∧ (a == sysModules) = false ∧ ∃ xs : List (List Key × Addr × Value),
      Paired (fun (p : List Key × V) (q : List Key × Addr × Value) => p.1 = q.1 ∧ H q.2.1 = some (.tup (p.1.map kV)) ∧ RelV p.2 q.2.2) kvs xs ∧
      ∃ o es ep, h.get? a = some o ∧ o.ExactDict ∧ o.data = .dict es ep ∧ es.toList = xs.map (entryOfKey (tupleKind (mixKind P w))) ∧ (xs.map (·.1)).Nodup
  | .set S n => h.SetOf (intKind P w) a S n
  | .ins C dx fs => H dx = some (.own a) ∧ fs.length ≤ 1000 ∧ dx ≠ a ∧ h.get? a = some (PySem.W.instObj C dx) ∧
      ∃ mA, h.Ns1 dx mA ∧ (∀ f, RelO (fs.lookup f) (mA f)) ∧ PySem.Within mA (fs.map (·.1))
  | .own _ => ∃ o, h.get? a = some o
  | .xd fs => ∃ mA, h.Ns1 a mA ∧ ∀ f, RelO (fs.lookup f) (mA f)
  | .rng lo hi => ∃ t u v, h.get? a = some { cls := .type "range", data := .fields #[.int lo t, .int hi u, .int 1 v] }
  | .frz o u => h.get? a = some o ∧ ObjOk H h a u
  | .tbl ps => h.get? a = some { cls := .none, data := .fields ps }
  | .met f x => h.get? a = some (PySem.W.methodObj (.ref f) (.ref x))
  | .ext φ => φ h ∧ (∃ o, h.get? a = some o) ∧ ∀ h1 h2 : Heap, φ h1 → (∀ o, h1.get? a = some o → h2.get? a = some o) → φ h2
/-- the abstract heap is held -/
def HOk (H : Hp) (h : Heap) : Prop := ∀ a o, H a = some o → ObjOk P w H h a o
end

section
variable {P : Program} {w : World} {H H' : Hp} {h h' : Heap} {a : Addr} {o : HO}
theorem ObjOk.lt (x : ObjOk P w H h a o) : a < h.objs.size := by
  cases o with
  | lst xs => obtain ⟨_, _, _, _, e⟩ := x; exact Heap.lt_size e
  | tup xs => obtain ⟨_, _, _, p⟩ := x; exact p.lt
  | dK kvs => obtain ⟨_, _, _, _, o, _, _, e, _⟩ := x; exact Heap.lt_size e
  | dT kvs => obtain ⟨_, _, _, _, o, _, _, e, _⟩ := x; exact Heap.lt_size e
  | set S n => obtain ⟨o, _, _, _, e, _⟩ := x; exact Heap.lt_size e
  | ins C dx fs => obtain ⟨_, _, _, e, _⟩ := x; exact Heap.lt_size e
  | own y => obtain ⟨_, e⟩ := x; exact Heap.lt_size e
  | xd fs => obtain ⟨_, ⟨_, _, _, e, _⟩, _⟩ := x; exact Heap.lt_size e
  | rng lo hi => obtain ⟨_, _, _, e⟩ := x; exact Heap.lt_size e
  | frz ob u => obtain ⟨e, _⟩ := x; exact Heap.lt_size e
  | tbl ps => exact Heap.lt_size (show h.get? a = some _ from x)
  | met f y => exact Heap.lt_size (show h.get? a = some _ from x)
  | ext φ => obtain ⟨_, ⟨_, e⟩, _⟩ := x; exact Heap.lt_size e
theorem Paired.mapP {α β : Type} {F G : α → β → Prop} : ∀ {l₁ : List α} {l₂ : List β}, Paired F l₁ l₂ → (∀ a b, F a b → G a b) → Paired G l₁ l₂
  | _, _, .nil, _ => .nil
  | _, _, .cons r t, f => .cons (f _ _ r) (Paired.mapP t f)
theorem Paired.imp' {α β : Type} {F G : α → β → Prop} (f : ∀ a b, F a b → G a b) {l₁ : List α} {l₂ : List β} (r : Paired F l₁ l₂) : Paired G l₁ l₂ := Paired.mapP r f
/-- what an object's description leans on: its own object, its own dict, the tuples -/
theorem ObjOk.stay (x : ObjOk P w H h a o) (k : ∀ b u, (b = a ∨ H b = some (.own a)) → h.get? b = some u → h'.get? b = some u)
    (ho : ∀ b, H b = some (.own a) → H' b = some (.own a)) (ht : ∀ b xs, H b = some (.tup xs) → H' b = some (.tup xs)) : ObjOk P w H' h' a o := by
  induction o with
  | lst xs => obtain ⟨z, its, n, r, e⟩ := x; exact ⟨z, its, n, r, k _ _ (.inl rfl) e⟩
  | tup xs => obtain ⟨z, its, r, ob, e, c⟩ := x; exact ⟨z, its, r, ob, k _ _ (.inl rfl) e, c⟩
  | dK kvs => obtain ⟨z, y, vs, r, ob, es, ep, e, c⟩ := x; exact ⟨z, y, vs, r, ob, es, ep, k _ _ (.inl rfl) e, c⟩
  | dT kvs =>
    obtain ⟨z, y, xs, r, ob, es, ep, e, c⟩ := x
    exact ⟨z, y, xs, Paired.mapP r fun p q z => ⟨z.1, ht _ _ z.2.1, z.2.2⟩, ob, es, ep, k _ _ (.inl rfl) e, c⟩
  | set S n => obtain ⟨ob, es, ep, t, e, c⟩ := x; exact ⟨ob, es, ep, t, k _ _ (.inl rfl) e, c⟩
  | ins C dx fs =>
    obtain ⟨d, z, ne, e, mA, ⟨od, es, ep, e2, c⟩, r⟩ := x
    exact ⟨ho _ d, z, ne, k _ _ (.inl rfl) e, mA, ⟨od, es, ep, k _ _ (.inr d) e2, c⟩, r⟩
  | own y => obtain ⟨ob, e⟩ := x; exact ⟨ob, k _ _ (.inl rfl) e⟩
  | xd fs => obtain ⟨mA, ⟨od, es, ep, e, c⟩, r⟩ := x; exact ⟨mA, ⟨od, es, ep, k _ _ (.inl rfl) e, c⟩, r⟩
  | rng lo hi => obtain ⟨t, u, v, e⟩ := x; exact ⟨t, u, v, k _ _ (.inl rfl) e⟩
  | frz ob u ih => obtain ⟨e, q⟩ := x; exact ⟨k _ _ (.inl rfl) e, ih q⟩
  | tbl ps =>
    have e : h.get? a = some { cls := .none, data := .fields ps } := x
    show h'.get? a = some { cls := .none, data := .fields ps }
    exact k a _ (.inl rfl) e
  | met f y =>
    have e : h.get? a = some (PySem.W.methodObj (.ref f) (.ref y)) := x
    show h'.get? a = some (PySem.W.methodObj (.ref f) (.ref y))
    exact k a _ (.inl rfl) e
  | ext φ => obtain ⟨p, ⟨o, e⟩, st⟩ := x; exact ⟨st _ _ p fun o q => k _ _ (.inl rfl) q, ⟨o, k _ _ (.inl rfl) e⟩, st⟩
theorem HOk.lt (x : HOk P w H h) (e : H a = some o) : a < h.objs.size := (x a o e).lt
theorem HOk.fresh (x : HOk P w H h) (e : h.objs.size ≤ a) : H a = none := by
  cases q : H a with
  | none => rfl
  | some u => exact absurd (Nat.lt_of_lt_of_le (x.lt q) e) (Nat.lt_irrefl _)
/-- every object of the heap is kept -/
theorem HOk.kept (x : HOk P w H h) (k : ∀ b u, h.get? b = some u → h'.get? b = some u) : HOk P w H h' := fun a o e =>
  (x a o e).stay (fun b u _ q => k b u q) (fun _ q => q) fun _ _ q => q
/-- a new object is laid and tracked -/
theorem HOk.laid (x : HOk P w H h) (k : ∀ b u, h.get? b = some u → h'.get? b = some u) (hp : h.objs.size ≤ a) (new : ObjOk P w (upd H a o) h' a o) : HOk P w (upd H a o) h' := fun b u e => by
  have hn := x.fresh hp
  by_cases hb : b = a
  · subst hb; rw [upd_same] at e; cases e; exact new
  · rw [upd_ne hb] at e
    exact (x b u e).stay (fun c v _ q => k c v q) (fun c q => by rw [upd_ne (ne_of_none q hn)]; exact q) fun c xs q => by rw [upd_ne (ne_of_none q hn)]; exact q
end

/-- what may be read as u: it is u, or a known u -/
def Rd (H : Hp) (a : Addr) (u : HO) : Prop := H a = some u ∨ ∃ o, H a = some (.frz o u)
theorem Rd.of {H : Hp} {a : Addr} {u : HO} (h : H a = some u) : Rd H a u := .inl h
theorem Rd.ok {P : Program} {w : World} {H : Hp} {h : Heap} {a : Addr} {u : HO} (r : Rd H a u) (x : HOk P w H h) : ObjOk P w H h a u := by
  rcases r with r | ⟨o, r⟩
  · exact x a u r
  · obtain ⟨_, q⟩ := x a _ r
    exact q
/-- what may be written -/
def Mut : Option HO → Prop
  | some (.lst _) => True
  | some (.dK _) => True
  | some (.dT _) => True
  | some (.set _ _) => True
  | some (.ins _ _ _) => True
  | some (.ext _) => True
  | _ => False
section
variable {P : Program} {w : World} {H : Hp} {h h' : Heap} {x e : Addr} {o' : HO}
/-- the object at e is changed: x itself, or the dict of the instance x -/
theorem HOk.write (ok : HOk P w H h) (mu : Mut (H x)) (he : e = x ∨ H e = some (.own x)) (k : ∀ b u, b ≠ e → h.get? b = some u → h'.get? b = some u) (heo : ∃ u, h'.get? e = some u)
    (new : ObjOk P w (upd H x o') h' x o') : HOk P w (upd H x o') h' := fun b u q => by
  have nown : ∀ c y, H c = some (.own y) → c ≠ x := fun c y r z => by subst z; rw [r] at mu; exact mu
  have ntup : ∀ c xs, H c = some (.tup xs) → c ≠ x := fun c xs r z => by subst z; rw [r] at mu; exact mu
  by_cases hb : b = x
  · subst hb; rw [upd_same] at q; cases q; exact new
  · rw [upd_ne hb] at q
    by_cases hbe : b = e
    · have q' : H b = some (.own x) := by
        rcases he with z | z
        · exact absurd (hbe.trans z) hb
        · rw [hbe]; exact z
      rw [q] at q'; cases q'
      obtain ⟨v, hv⟩ := heo
      exact ⟨v, by rw [hbe]; exact hv⟩
    · refine (ok b u q).stay (fun c v hc r => k c v ?_ r) (fun c r => by rw [upd_ne (nown c b r)]; exact r) fun c xs r => by rw [upd_ne (ntup c xs r)]; exact r
      rcases hc with rfl | hc
      · exact hbe
      · rintro rfl
        rcases he with z | z
        · exact nown c b hc z
        · rw [hc] at z; cases z; exact hb rfl
end

/-! ### kept unless tracked; of the frames at fs (the callers') the slots may change (an exception that passes writes there); of the records at ex (iterators) nothing is said -/
structure Un (fs ex : List Addr) (H H' : Hp) (h h' : Heap) : Prop where
  keep : ∀ b o, h.get? b = some o → H b = none → b ∉ fs → b ∉ ex → h'.get? b = some o
  slot : ∀ b o, h.get? b = some o → H b = none → b ∈ fs → b ∉ ex → ∃ sl, h'.get? b = some { o with slots := sl }
  free : ∀ b o, h.get? b = some o → H b = none → b ∉ ex → H' b = none
  there : ∀ b o, h.get? b = some o → b ∉ ex → ∃ o', h'.get? b = some o'
  tups : ∀ b xs, H b = some (.tup xs) → H' b = some (.tup xs)
  frzs : ∀ b o u, H b = some (.frz o u) → H' b = some (.frz o u)
  tbls : ∀ b ps, H b = some (.tbl ps) → ∃ more, H' b = some (.tbl (ps ++ more))
section
variable {fs fs' ex ex' : List Addr} {H H1 H2 : Hp} {h h1 h2 h' : Heap} {a x e : Addr} {o : HO}
theorem Un.any (u : Un fs ex H H1 h h1) {b : Addr} {ob : Obj} (q : h.get? b = some ob) (n : H b = none) (hx : b ∉ ex) : ∃ sl, h1.get? b = some { ob with slots := sl } := by
  by_cases hb : b ∈ fs
  · exact u.slot b ob q n hb hx
  · exact ⟨ob.slots, u.keep b ob q n hb hx⟩
theorem Un.trans (a : Un fs ex H H1 h h1) (b : Un fs ex H1 H2 h1 h2) : Un fs ex H H2 h h2 where
  keep := fun c ob q n hc hx => b.keep c ob (a.keep c ob q n hc hx) (a.free c ob q n hx) hc hx
  slot := fun c ob q n hc hx => by
    obtain ⟨sl, e1⟩ := a.slot c ob q n hc hx
    obtain ⟨sl', e2⟩ := b.slot c _ e1 (a.free c ob q n hx) hc hx
    exact ⟨sl', e2⟩
  free := fun c ob q n hx => by
    obtain ⟨o', e1⟩ := a.there c ob q hx
    exact b.free c o' e1 (a.free c ob q n hx) hx
  there := fun c ob q hx => by
    obtain ⟨o', e1⟩ := a.there c ob q hx
    exact b.there c o' e1 hx
  tups := fun c xs q => b.tups c xs (a.tups c xs q)
  frzs := fun c ob xs q => b.frzs c ob xs (a.frzs c ob xs q)
  tbls := fun c ps q => by
    obtain ⟨m1, e1⟩ := a.tbls c ps q
    obtain ⟨m2, e2⟩ := b.tbls c _ e1
    exact ⟨m1 ++ m2, by rw [e2, Array.append_assoc]⟩
theorem Un.kept (k : ∀ b u, h.get? b = some u → h'.get? b = some u) : Un fs ex H H h h' :=
  ⟨fun b ob q _ _ _ => k b ob q, fun b ob q _ _ _ => ⟨ob.slots, k b ob q⟩, fun _ _ _ n _ => n, fun b ob q _ => ⟨ob, k b ob q⟩, fun _ _ q => q, fun _ _ _ q => q, fun _ ps q => ⟨#[], by rw [q]; simp⟩⟩
theorem Un.refl : Un fs ex H H h h := Un.kept fun _ _ q => q
theorem Un.laid (k : ∀ b u, h.get? b = some u → h'.get? b = some u) (hp : h.objs.size ≤ a) (hn : H a = none) : Un fs ex H (upd H a o) h h' where
  keep := fun b u q _ _ _ => k b u q
  slot := fun b u q _ _ _ => ⟨u.slots, k b u q⟩
  free := fun b u q n _ => by rw [upd_ne (Nat.ne_of_lt (Nat.lt_of_lt_of_le (Heap.lt_size q) hp))]; exact n
  there := fun b u q _ => ⟨u, k b u q⟩
  tups := fun b xs q => by rw [upd_ne (ne_of_none q hn)]; exact q
  frzs := fun b u xs q => by rw [upd_ne (ne_of_none q hn)]; exact q
  tbls := fun b ps q => ⟨#[], by rw [upd_ne (ne_of_none q hn), q]; simp⟩
theorem Un.write (mu : Mut (H x)) (he : e = x ∨ H e = some (.own x)) (k : ∀ b u, b ≠ e → h.get? b = some u → h'.get? b = some u) (heo : ∃ u, h'.get? e = some u) : Un fs ex H (upd H x o) h h' := by
  have hx : ∀ b, H b = none → b ≠ x := fun b n z => by subst z; rw [n] at mu; exact mu
  have hb : ∀ b, H b = none → b ≠ e := fun b n z => by
    subst z
    rcases he with r | r
    · exact hx b n r
    · rw [n] at r; cases r
  have hm : ∀ b u, H b = some u → ¬ Mut (some u) → b ≠ x := fun b u q nm z => by subst z; rw [q] at mu; exact nm mu
  refine ⟨fun b u q n _ _ => k b u (hb b n) q, fun b u q n _ _ => ⟨u.slots, k b u (hb b n) q⟩, fun b u q n _ => by rw [upd_ne (hx b n)]; exact n, fun b u q _ => ?_,
    fun b xs q => by rw [upd_ne (hm b _ q fun z => z)]; exact q, fun b u xs q => by rw [upd_ne (hm b _ q fun z => z)]; exact q, fun b ps q => ⟨#[], by rw [upd_ne (hm b _ q fun z => z), q]; simp⟩⟩
  by_cases hbe : b = e
  · subst hbe; exact heo
  · exact ⟨u, k b u hbe q⟩
theorem Un.mono (u : Un fs ex H H1 h h1) (hs : ∀ b ∈ fs, b ∈ fs') (hx : ∀ b ∈ ex, b ∈ ex') : Un fs' ex' H H1 h h1 :=
  ⟨fun b ob q n hb he => u.keep b ob q n (fun z => hb (hs b z)) fun z => he (hx b z), fun _ _ q n _ he => u.any q n fun z => he (hx _ z), fun b ob q n he => u.free b ob q n fun z => he (hx b z), fun b ob q he => u.there b ob q fun z => he (hx b z), u.tups, u.frzs, u.tbls⟩
end

/-! ### the heap without what is tracked -/
def trk (h : Heap) (H : Hp) : List Addr := (List.range h.objs.size).filter fun a => (H a).isSome
def hidT (h : Heap) (H : Hp) : Heap := PySem.W.hideAll h (trk h H)
theorem hidT_size (h : Heap) (H : Hp) : (hidT h H).objs.size = h.objs.size := PySem.W.hideAll_size _ _
theorem hidT_get {h : Heap} {H : Hp} {b : Addr} {o : Obj} (e : h.get? b = some o) (n : H b = none) : (hidT h H).get? b = some o :=
  PySem.W.hideAll_get _ e fun hm => by
    have q : (H b).isSome = true := (List.mem_filter.mp hm).2
    rw [n] at q; simp at q
theorem of_hidT {h : Heap} {H : Hp} {b : Addr} {o : Obj} (e : (hidT h H).get? b = some o) : h.get? b = some o ∧ H b = none := by
  have e' : h.get? b = some o := PySem.W.of_hideAll (trk h H) e
  refine ⟨e', ?_⟩
  cases q : H b with
  | none => rfl
  | some x =>
    have hm : b ∈ trk h H := List.mem_filter.mpr ⟨List.mem_range.mpr (Heap.lt_size e'), by simp [q]⟩
    have z : (hidT h H).get? b = none := PySem.W.hideAll_none (trk h H) hm
    rw [z] at e; cases e

/-! ### OpenK's ledger, filled with every new object but one -/
def allNews (g h : Heap) (L : Addr) : List (Addr × Obj) := (List.range h.objs.size).filterMap fun a => if a = L ∨ (g.get? a).isSome = true then none else (h.get? a).map fun o => (a, o)
theorem mem_allNews {g h : Heap} {L a : Addr} {o : Obj} (h1 : a ≠ L) (h2 : g.get? a = none) (h3 : h.get? a = some o) : (a, o) ∈ allNews g h L :=
  List.mem_filterMap.mpr ⟨a, List.mem_range.mpr (Heap.lt_size h3), by simp [h1, h2, h3]⟩
theorem of_mem_allNews {g h : Heap} {L : Addr} {p : Addr × Obj} (hp : p ∈ allNews g h L) : p.1 ≠ L ∧ g.get? p.1 = none ∧ h.get? p.1 = some p.2 := by
  obtain ⟨b, _, e⟩ := List.mem_filterMap.mp hp
  split at e
  · cases e
  · rename_i hn
    cases q : h.get? b with
    | none => rw [q] at e; simp at e
    | some u =>
      rw [q] at e
      simp only [Option.map_some, Option.some.injEq] at e
      subst e
      refine ⟨fun z => hn (.inl z), ?_, q⟩
      show g.get? b = none
      cases r : g.get? b with
      | none => rfl
      | some v => exact (hn (.inr (by simp [r]))).elim
def rest (g h : Heap) (L d : Addr) : List (Addr × Obj) := (allNews g h L).filter fun p => decide (p.1 ≠ d)
theorem rest_ne {g h : Heap} {L d : Addr} : ∀ p ∈ rest g h L d, p.1 ≠ d := fun p hp => of_decide_eq_true (List.mem_filter.mp hp).2
theorem mem_rest {g h : Heap} {L d a : Addr} {o : Obj} (h1 : a ≠ L) (h2 : g.get? a = none) (h3 : h.get? a = some o) (h4 : a ≠ d) : (a, o) ∈ rest g h L d :=
  List.mem_filter.mpr ⟨mem_allNews h1 h2 h3, decide_eq_true h4⟩
theorem news_all {g h : Heap} {L : Addr} : News g L h (allNews g h L) := fun p hp => let ⟨a, b, c⟩ := of_mem_allNews hp; ⟨c, a, b⟩
theorem news_at {g h : Heap} {L d : Addr} {o : Obj} (h1 : d ≠ L) (h2 : g.get? d = none) (h3 : h.get? d = some o) : News g L h ((d, o) :: rest g h L d) := fun p hp => by
  rcases List.mem_cons.mp hp with rfl | hp
  · exact ⟨h3, h1, h2⟩
  · exact news_all p (List.mem_filter.mp hp).1
/-- behind a rule that changed d alone: all else but the frame is kept -/
theorem kept_of_news {g h h' : Heap} {L d : Addr} {m : Str → Option Value} (k : ∀ b o, g.get? b = some o → h.get? b = some o) (F : Fr g L h' m) (N : News g L h' (rest g h L d)) :
    ∀ b o, b ≠ L → b ≠ d → h.get? b = some o → h'.get? b = some o := fun b o h1 h2 e => by
  cases q : g.get? b with
  | some u =>
    have := k b u q
    rw [e] at this; cases this
    exact F.keep b _ q
  | none => exact (N (b, o) (mem_rest h1 q e h2)).1
end L2

namespace L2
open PySem PySem.Spec PyProof.Rows

/-- the module's facts, over the base: the heap at the law's entry without what is tracked there -/
structure Mod (K : PySem.W.Frag) (mg : Str → Option Value) (base : Heap) : Prop where
  kin : K.In base
  glob : base.Ns mainGlobals mg
  blt : ∃ mb, base.Ns builtinsNs mb ∧ ∀ x : Str, x ≠ "__name__" → mb x = bootBuiltins x
  nolimit : base.NoLimit

/-- the context: a def's body (or a comprehension's block) running. base: fixed through the whole law; s₀, H₀: the entry; outer: the frames whose slots others may change (a def's callers); stack: all frames that run;
   ex: iterators that were made ahead of the entry and are walked here (a comprehension's); fn: the names whose cells were made at the entry (a def: all; a comprehension's block: its own); calm: not within an except suite; pn: pins that every state bears; xe: what is wanted of an exception that leaves the code -/
structure Cx where
  prog : Program
  w : World
  K : PySem.W.Frag
  mg : Str → Option Value
  base : Heap
  A : Around
  N : List Str
  s₀ : Shared
  H₀ : Hp
  env : Env
  outer : List Env
  stack : List Env
  ex : List Addr
  fn : Str → Bool
  calm : Bool
  pn : List (Addr × Obj)
  xe : Value → Shared → Prop
/-- the callers' frames -/
def frs (l : List Env) : List Addr := l.filterMap (·.frame)
abbrev Cx.fs (X : Cx) : List Addr := frs X.outer

def Vis (sc : Scope) (x : Str) : Prop := sc.names.lookup x = some .local ∨ sc.names.lookup x = some .cell ∨ sc.names.lookup x = some .free
def Loc (sc : Scope) (x : Str) : Prop := sc.names.lookup x = some .local ∨ sc.names.lookup x = some .cell
def Look (env : Env) (h : Heap) (m : Str → Option Value) (x : Str) (u : Value) : Prop :=
  (env.kindOf x = some .local ∧ m x = some u) ∨ ((env.kindOf x = some .cell ∨ env.kindOf x = some .free) ∧ ∃ c, env.cells.lookup x = some c ∧ h.IsCell c (some u))

structure Cx.Ok (X : Cx) : Prop where
  mod : Mod X.K X.mg X.base
  kind : X.env.scope.kind = .function
  glob : X.env.globals = mainGlobals
  blt : X.env.builtins = builtinsNs
  above : X.s₀.heap.objs.size ≤ X.env.locals
  inj : ∀ x y c, X.env.cells.lookup x = some c → X.env.cells.lookup y = some c → x = y
  has : ∀ x, (X.env.kindOf x = some .cell ∨ X.env.kindOf x = some .free) → ∃ c, X.env.cells.lookup x = some c
  cab : ∀ x c, X.fn x = true → X.env.cells.lookup x = some c → X.s₀.heap.objs.size ≤ c
  hd : X.calm = true → X.A.handled = none
  frames : X.A.frames = some X.stack
  stk : X.stack = X.outer ∨ (X.stack = X.env :: X.outer ∧ X.env.frame = some X.env.locals)
  exf : ∀ b ∈ X.ex, b ≠ X.env.locals ∧ ∀ x c, X.env.cells.lookup x = some c → c ≠ b
  bs : ∀ b o, X.base.get? b = some o → X.s₀.heap.get? b = some o ∧ X.H₀ b = none
  bsz : X.base.objs.size ≤ X.s₀.heap.objs.size
  noex : ∀ b o, X.base.get? b = some o → b ∉ X.ex
  exfs : ∀ b ∈ X.ex, b ∉ X.fs
  funs : X.s₀.heap.FunFrames X.base X.outer
  frf : ∀ b ∈ X.fs, X.H₀ b = none

structure Inv (X : Cx) (pins : List (Addr × Obj)) (σ : List (Option V)) (H : Hp) (s : Shared) : Prop where
  ok : X.Ok
  os : s.os = X.s₀.os
  bare : AllBare s.gens
  base : Un X.fs X.ex X.H₀ H X.s₀.heap s.heap
  loc : ∃ m, s.heap.Ns X.env.locals m ∧ ∀ (i : Nat) (x : Str) (v : V), X.N[i]? = some x → σ[i]? = some (some v) → Vis X.env.scope x → ∃ u, RelV v u ∧ Look X.env s.heap m x u
  cell : ∀ x c, X.env.cells.lookup x = some c → ∃ v, s.heap.IsCell c v
  free : H X.env.locals = none
  freeC : ∀ x c, X.env.cells.lookup x = some c → H c = none
  pin : ∀ p ∈ X.pn ++ pins, s.heap.get? p.1 = some p.2 ∧ H p.1 = none ∧ p.1 ≠ X.env.locals ∧ p.1 ∉ X.fs ∧ ∀ v, p.2.data ≠ .cell v
  hok : HOk X.prog X.w H s.heap
  len : σ.length = X.N.length

section
variable {X : Cx} {pins : List (Addr × Obj)} {σ : List (Option V)} {H H' : Hp} {s : Shared} {h' : Heap}

theorem Cx.Ok.nofr (ok : X.Ok) {b : Addr} {o : Obj} (e : X.base.get? b = some o) : b ∉ X.fs := fun hb => by
  have := (ok.funs.mem hb).1
  rw [e] at this; cases this
theorem Inv.bs (I : Inv X pins σ H s) : ∀ b o, X.base.get? b = some o → s.heap.get? b = some o ∧ H b = none := fun b o e =>
  ⟨I.base.keep b o (I.ok.bs b o e).1 (I.ok.bs b o e).2 (I.ok.nofr e) (I.ok.noex b o e), I.base.free b o (I.ok.bs b o e).1 (I.ok.bs b o e).2 (I.ok.noex b o e)⟩
theorem Inv.bk (I : Inv X pins σ H s) : ∀ b o, X.base.get? b = some o → s.heap.get? b = some o := fun b o e => (I.bs b o e).1
theorem Inv.mod (I : Inv X pins σ H s) : Mod X.K X.mg X.base := I.ok.mod
theorem Inv.kIn (I : Inv X pins σ H s) : X.K.In s.heap := I.ok.mod.kin.keeps I.bk
theorem Inv.nolimit (I : Inv X pins σ H s) : s.heap.NoLimit := I.ok.mod.nolimit.keeps I.bk
/-- the frame over the base: for OpenK's rules (K.In X.base is I.mod.kin) -/
theorem Inv.fr (I : Inv X pins σ H s) : ∃ m, Fr X.base X.env.locals s.heap m :=
  let ⟨m, hn, _⟩ := I.loc
  ⟨m, hn, I.bk, Nat.le_trans I.ok.bsz I.ok.above⟩
theorem Inv.lt (I : Inv X pins σ H s) : X.env.locals < s.heap.objs.size := let ⟨_, hn, _⟩ := I.loc; hn.lt
theorem Inv.sz (I : Inv X pins σ H s) : X.s₀.heap.objs.size ≤ s.heap.objs.size := Nat.le_trans I.ok.above (Nat.le_of_lt I.lt)
theorem Inv.nofs (I : Inv X pins σ H s) {a : Addr} (h : s.heap.objs.size ≤ a) : a ∉ X.fs := fun hb => by
  obtain ⟨_, o, ho, _⟩ := I.ok.funs.mem hb
  exact absurd (Nat.lt_of_lt_of_le (Heap.lt_size ho) (Nat.le_trans I.sz h)) (Nat.lt_irrefl _)
theorem Inv.cne (I : Inv X pins σ H s) : ∀ x c, X.env.cells.lookup x = some c → c ≠ X.env.locals := fun x c e z => by
  obtain ⟨v, o, ho, hd⟩ := I.cell x c e
  obtain ⟨m, ⟨o', es, ep, ho', hd', _⟩, _⟩ := I.loc
  rw [z, ho'] at ho; cases ho; rw [hd'] at hd; cases hd
theorem Inv.funs (I : Inv X pins σ H s) : s.heap.FunFrames X.base X.outer := by
  have all : ∀ (l : List Env), (∀ b ∈ frs l, b ∈ X.fs) → X.s₀.heap.FunFrames X.base l → s.heap.FunFrames X.base l := by
    intro l
    induction l with
    | nil => intro _ _; trivial
    | cons env r ih =>
      intro hs hl
      obtain ⟨hk, ⟨L, o, hf, hn, ho, hd⟩, hr⟩ := hl
      have hL : L ∈ X.fs := hs L (by unfold frs; rw [List.filterMap_cons, hf]; exact List.mem_cons_self)
      obtain ⟨sl, e⟩ := I.base.slot L o ho (I.ok.frf L hL) hL fun z => I.ok.exfs L z hL
      exact ⟨hk, ⟨L, _, hf, hn, e, hd⟩, ih (fun b hb => hs b (by unfold frs; rw [List.filterMap_cons, hf]; exact List.mem_cons_of_mem _ hb)) hr⟩
  exact all X.outer (fun _ hb => hb) I.ok.funs

/-- the frames that run, for a call -/
theorem Inv.stack (I : Inv X pins σ H s) : s.heap.FunFrames X.base X.stack := by
  rcases I.ok.stk with e | ⟨e, hf⟩
  · rw [e]; exact I.funs
  · rw [e]
    obtain ⟨m, hn, _⟩ := I.loc
    refine .cons (by rw [I.ok.kind]; decide) hf hn ?_ I.funs
    exact Heap.get?_none_of_le (Nat.le_trans I.ok.bsz I.ok.above)
theorem Inv.stkSub (I : Inv X pins σ H s) : ∀ b ∈ frs X.stack, b ∈ X.env.locals :: X.fs := fun b hb => by
  rcases I.ok.stk with e | ⟨e, hf⟩
  · rw [e] at hb; exact List.mem_cons_of_mem _ hb
  · rw [e] at hb
    unfold frs at hb
    rw [List.filterMap_cons, hf] at hb
    exact hb
theorem Inv.stkFree (I : Inv X pins σ H s) : ∀ b ∈ frs X.stack, H b = none := fun b hb => by
  rcases List.mem_cons.mp (I.stkSub b hb) with e | hb
  · rw [e]; exact I.free
  · obtain ⟨_, o, ho, _⟩ := I.ok.funs.mem hb
    exact I.base.free b o ho (I.ok.frf b hb) fun z => I.ok.exfs b z hb

/-- THE STEP: the untracked objects but the frame and the records at ch are kept (the callers' frames up to slots), the frame's map is kept, the new abstract heap is held -/
theorem Inv.step {g' : Array GenState} {t' : Nat} {d' : Drawn} {ch : List Addr} (I : Inv X pins σ H s)
    (hch : ∀ b ∈ ch, (b ∈ X.ex ∨ X.s₀.heap.objs.size ≤ b) ∧ b ≠ X.env.locals ∧ (∀ x c, X.env.cells.lookup x = some c → c ≠ b) ∧ ∀ p ∈ X.pn ++ pins, p.1 ≠ b)
    (keep : ∀ b o, b ≠ X.env.locals → b ∉ X.fs → b ∉ ch → s.heap.get? b = some o → H b = none → h'.get? b = some o)
    (slot : ∀ b o, b ≠ X.env.locals → b ∈ X.fs → b ∉ ch → s.heap.get? b = some o → H b = none → ∃ sl, h'.get? b = some { o with slots := sl }) (free : ∀ b o, b ∉ ch → s.heap.get? b = some o → H b = none → H' b = none)
    (there : ∀ b o, b ∉ ch → s.heap.get? b = some o → ∃ o', h'.get? b = some o')
    (tups : ∀ b xs, H b = some (.tup xs) → H' b = some (.tup xs)) (frzs : ∀ b o u, H b = some (.frz o u) → H' b = some (.frz o u)) (tbls : ∀ b ps, H b = some (.tbl ps) → ∃ more, H' b = some (.tbl (ps ++ more)))
    (ns : ∀ m, s.heap.Ns X.env.locals m → h'.Ns X.env.locals m) (hok : HOk X.prog X.w H' h') (hg : AllBare g') :
    Inv X pins σ H' { s with heap := h', gens := g', drawn := d', toks := t' } := by
  have neL : ∀ b o, X.s₀.heap.get? b = some o → b ≠ X.env.locals := fun b o e => Nat.ne_of_lt (Nat.lt_of_lt_of_le (Heap.lt_size e) I.ok.above)
  have neC : ∀ b o, X.s₀.heap.get? b = some o → b ∉ X.ex → b ∉ ch := fun b o e hx hb => by
    rcases (hch b hb).1 with z | z
    · exact hx z
    · exact absurd (Nat.lt_of_lt_of_le (Heap.lt_size e) z) (Nat.lt_irrefl _)
  have cellK : ∀ x c, X.env.cells.lookup x = some c → ∀ v, s.heap.IsCell c v → h'.IsCell c v := fun x c e v ⟨o, ho, hd⟩ => by
    have nch : c ∉ ch := fun z => (hch c z).2.2.1 x c e rfl
    by_cases hc : c ∈ X.fs
    · obtain ⟨sl, q⟩ := slot c o (I.cne x c e) hc nch ho (I.freeC x c e)
      exact ⟨_, q, hd⟩
    · exact ⟨o, keep c o (I.cne x c e) hc nch ho (I.freeC x c e), hd⟩
  refine ⟨I.ok, I.os, hg, ⟨fun b o e n hb hx => ?_, fun b o e n hb hx => ?_, fun b o e n hx => ?_, fun b o e hx => ?_, fun b xs e => tups b xs (I.base.tups b xs e), fun b o xs e => frzs b o xs (I.base.frzs b o xs e), fun b ps e => ?_⟩, ?_, fun x c e => ?_, ?_, fun x c e => ?_, fun p hp => ?_, hok, I.len⟩
  · exact keep b o (neL b o e) hb (neC b o e hx) (I.base.keep b o e n hb hx) (I.base.free b o e n hx)
  · obtain ⟨sl, e1⟩ := I.base.slot b o e n hb hx
    obtain ⟨sl', e2⟩ := slot b _ (neL b o e) hb (neC b o e hx) e1 (I.base.free b o e n hx)
    exact ⟨sl', e2⟩
  · obtain ⟨o', e1⟩ := I.base.there b o e hx
    exact free b o' (neC b o e hx) e1 (I.base.free b o e n hx)
  · obtain ⟨o', e1⟩ := I.base.there b o e hx
    exact there b o' (neC b o e hx) e1
  · obtain ⟨m1, e1⟩ := I.base.tbls b ps e
    obtain ⟨m2, e2⟩ := tbls b _ e1
    exact ⟨m1 ++ m2, by rw [e2, Array.append_assoc]⟩
  · obtain ⟨m, hn, hl⟩ := I.loc
    refine ⟨m, ns m hn, fun i x v e1 e2 e3 => ?_⟩
    obtain ⟨u, r, l⟩ := hl i x v e1 e2 e3
    refine ⟨u, r, ?_⟩
    rcases l with l | ⟨k, c, e, z⟩
    · exact .inl l
    · exact .inr ⟨k, c, e, cellK x c e _ z⟩
  · obtain ⟨v, z⟩ := I.cell x c e
    exact ⟨v, cellK x c e v z⟩
  · obtain ⟨m, ⟨o, _, _, ho, _⟩, _⟩ := I.loc
    exact free _ o (fun z => (hch _ z).2.1 rfl) ho I.free
  · obtain ⟨v, o, ho, hd⟩ := I.cell x c e
    exact free c o (fun z => (hch c z).2.2.1 x c e rfl) ho (I.freeC x c e)
  · obtain ⟨e, n, ne, nf, d⟩ := I.pin p hp
    have nch : p.1 ∉ ch := fun z => (hch p.1 z).2.2.2 p hp rfl
    exact ⟨keep p.1 p.2 ne nf nch e n, free p.1 p.2 nch e n, ne, nf, d⟩
/-- .. where the frame's own object is kept too -/
theorem Inv.un {t' : Nat} (I : Inv X pins σ H s) (u : Un X.fs [] H H' s.heap h') (hok : HOk X.prog X.w H' h') : Inv X pins σ H' { s with heap := h', toks := t' } := by
  obtain ⟨m, ⟨o, es, ep, ho, r⟩, _⟩ := id I.loc
  obtain ⟨sl, hL⟩ := u.any ho I.free (by simp)
  exact I.step (g' := s.gens) (d' := s.drawn) (ch := []) (fun _ z => nomatch z) (fun b o _ hb _ e n => u.keep b o e n hb (by simp)) (fun b o _ hb _ e n => u.slot b o e n hb (by simp)) (fun b o _ e n => u.free b o e n (by simp)) (fun b o _ e => u.there b o e (by simp)) u.tups u.frzs u.tbls (fun m' hm => by
    obtain ⟨o', es', ep', ho', r'⟩ := hm
    rw [ho] at ho'; cases ho'
    exact ⟨_, es', ep', hL, r'⟩) hok I.bare
/-- behind a call (or a comprehension's block): the slots of this frame may have changed too, the records at ch may have turned -/
theorem Inv.call {g' : Array GenState} {t' : Nat} {d' : Drawn} {ch : List Addr} (I : Inv X pins σ H s) (u : Un (frs X.stack) ch H H' s.heap h') (hok : HOk X.prog X.w H' h') (hg : AllBare g')
    (hch : ∀ b ∈ ch, (b ∈ X.ex ∨ X.s₀.heap.objs.size ≤ b) ∧ b ≠ X.env.locals ∧ (∀ x c, X.env.cells.lookup x = some c → c ≠ b) ∧ ∀ p ∈ X.pn ++ pins, p.1 ≠ b) :
    Inv X pins σ H' { s with heap := h', gens := g', drawn := d', toks := t' } := by
  obtain ⟨m, ⟨o, es, ep, ho, r⟩, _⟩ := id I.loc
  obtain ⟨sl, hL⟩ := u.any ho I.free fun z => (hch _ z).2.1 rfl
  exact I.step (ch := ch) hch (fun b o hL hb hc e n => u.keep b o e n (fun z => (List.mem_cons.mp (I.stkSub b z)).elim hL hb) hc) (fun b o _ _ hc e n => u.any e n hc) (fun b o hc e n => u.free b o e n hc) (fun b o hc e => u.there b o e hc) u.tups u.frzs u.tbls (fun m' hm => by
    obtain ⟨o', es', ep', ho', r'⟩ := hm
    rw [ho] at ho'; cases ho'
    exact ⟨_, es', ep', hL, r'⟩) hok hg
/-- an untracked record of ours (an iterator) has turned -/
theorem Inv.turned {t' : Nat} {it : Addr} (I : Inv X pins σ H s) (k : ∀ b o, b ≠ it → s.heap.get? b = some o → h'.get? b = some o) (hn : H it = none) (hL : it ≠ X.env.locals)
    (h1 : it ∈ X.ex ∨ X.s₀.heap.objs.size ≤ it) (h2 : ∀ x c, X.env.cells.lookup x = some c → c ≠ it) (h3 : ∀ p ∈ X.pn ++ pins, p.1 ≠ it) : Inv X pins σ H { s with heap := h', toks := t' } := by
  have nit : ∀ b u, H b = some u → b ≠ it := fun b u e z => by rw [z, hn] at e; cases e
  refine I.step (g' := s.gens) (d' := s.drawn) (ch := [it]) (fun b hb => ?_) (fun b o _ _ hc e _ => k b o (fun z => hc (by simp [z])) e) (fun b o _ _ hc e _ => ⟨o.slots, k b o (fun z => hc (by simp [z])) e⟩) (fun _ _ _ _ n => n)
    (fun b o hc e => ⟨o, k b o (fun z => hc (by simp [z])) e⟩) (fun _ _ e => e) (fun _ _ _ e => e) (fun b ps e => ⟨#[], by rw [e]; simp⟩) (fun m hm => ?_) (fun b u e => ?_) I.bare
  · have e : b = it := by simpa using hb
    subst e
    exact ⟨h1, hL, h2, h3⟩
  · obtain ⟨o, es, ep, ho, r⟩ := hm
    exact ⟨o, es, ep, k _ o (Ne.symm hL) ho, r⟩
  · refine (I.hok b u e).stay (fun c v hc q => k c v ?_ q) (fun _ q => q) fun _ _ q => q
    rcases hc with z | z
    · rw [z]; exact nit b u e
    · exact nit c _ z
theorem Inv.tok (I : Inv X pins σ H s) (t : Nat) : Inv X pins σ H { s with toks := t } := I.un (h' := s.heap) (t' := t) Un.refl I.hok
/-- all objects kept -/
theorem Inv.kept {t' : Nat} (I : Inv X pins σ H s) (k : ∀ b u, s.heap.get? b = some u → h'.get? b = some u) : Inv X pins σ H { s with heap := h', toks := t' } := I.un (Un.kept k) (I.hok.kept k)
/-- a new object laid and tracked -/
theorem Inv.laid {a : Addr} {o : HO} {t' : Nat} (I : Inv X pins σ H s) (k : ∀ b u, s.heap.get? b = some u → h'.get? b = some u) (hp : s.heap.objs.size ≤ a) (new : ObjOk X.prog X.w (upd H a o) h' a o) :
    Inv X pins σ (upd H a o) { s with heap := h', toks := t' } := I.un (Un.laid k hp (I.hok.fresh hp)) (I.hok.laid k hp new)
/-- an object written -/
theorem Inv.write {x e : Addr} {o : HO} {t' : Nat} (I : Inv X pins σ H s) (mu : Mut (H x)) (he : e = x ∨ H e = some (.own x)) (k : ∀ b u, b ≠ e → s.heap.get? b = some u → h'.get? b = some u) (heo : ∃ u, h'.get? e = some u)
    (new : ObjOk X.prog X.w (upd H x o) h' x o) : Inv X pins σ (upd H x o) { s with heap := h', toks := t' } := I.un (Un.write mu he k heo) (I.hok.write mu he k heo new)
/-- forgetting slots, pins -/
theorem Inv.weak {σ' : List (Option V)} (I : Inv X pins σ H s) (hl : σ'.length = σ.length) (w : ∀ (i : Nat) v, σ'[i]? = some (some v) → σ[i]? = some (some v)) : Inv X pins σ' H s :=
  ⟨I.ok, I.os, I.bare, I.base, let ⟨m, hn, hl'⟩ := I.loc; ⟨m, hn, fun i x v e1 e2 e3 => hl' i x v e1 (w i v e2) e3⟩, I.cell, I.free, I.freeC, I.pin, I.hok, hl.trans I.len⟩
theorem Inv.pins_of {pins' : List (Addr × Obj)} (I : Inv X pins σ H s) (h : ∀ p ∈ pins', s.heap.get? p.1 = some p.2 ∧ H p.1 = none ∧ p.1 ≠ X.env.locals ∧ p.1 ∉ X.fs ∧ ∀ v, p.2.data ≠ .cell v) : Inv X pins' σ H s :=
  ⟨I.ok, I.os, I.bare, I.base, I.loc, I.cell, I.free, I.freeC, fun p hp => (List.mem_append.mp hp).elim (fun z => I.pin p (List.mem_append_left _ z)) (h p), I.hok, I.len⟩

theorem nodup_ix {N : List Str} (hN : N.Nodup) {i j : Nat} {x : Str} (a : N[i]? = some x) (b : N[j]? = some x) : i = j := by
  obtain ⟨h1, e1⟩ := List.getElem?_eq_some_iff.mp a
  obtain ⟨h2, e2⟩ := List.getElem?_eq_some_iff.mp b
  exact (List.getElem_inj hN).mp (e1.trans e2.symm)

/-- a name is stored; what changed -/
theorem store_ok2 {M : Model} {A : Around} {E : Value → Shared → Prop} {i : Nat} {x : Str} {v : V} {u : Value} {Q : Unit → Shared → Prop} (I : Inv X pins σ H s) (hN : X.N.Nodup) (hi : X.N[i]? = some x) (hx : Loc X.env.scope x) (r : RelV v u)
    (h : ∀ s', Inv X pins (σ.set i (some v)) H s' → (∃ a, Heap.SameBut a s.heap s'.heap ∧ (a = X.env.locals ∨ X.env.cells.lookup x = some a)) → Q () s') (hf : X.fn x = true ∨ X.env.scope.names.lookup x = some .local := by first | exact .inl rfl | exact .inr rfl | assumption) : wpAny M A (storeName X.env x u) Q E s := by
  obtain ⟨m, hn, hl⟩ := id I.loc
  have hcls : (X.env.scope.kind == .class || (X.env.scope.kind == .module && X.env.locals != X.env.globals)) = false := by rw [I.ok.kind]; rfl
  have hiσ : i < σ.length := by rw [I.len]; exact (List.getElem?_eq_some_iff.mp hi).1
  have cne := I.cne
  have tracked : ∀ {a : Addr} {h' : Heap}, (∃ o, s.heap.get? a = some o ∧ H a = none) → Heap.SameBut a s.heap h' → HOk X.prog X.w H h' := fun {a h'} ha hs b ob e => by
    obtain ⟨_, _, hfree⟩ := ha
    refine (I.hok b ob e).stay (fun c w' hc q => (hs.2 c ?_).trans q) (fun _ q => q) fun _ _ q => q
    rintro rfl
    rcases hc with rfl | hc
    · rw [hfree] at e; cases e
    · rw [hfree] at hc; cases hc
  rcases hx with hk | hk
  · refine wpAny_storeName_local hk hn (fun h' hn' hs => ?_) hcls
    obtain ⟨oL, _, _, hoL, _⟩ := id hn
    refine h _ ⟨I.ok, I.os, I.bare, ⟨fun b o e n hb hx => ?_, fun b o e n hb hx => ?_, I.base.free, fun b o e hx => ?_, I.base.tups, I.base.frzs, I.base.tbls⟩, ⟨_, hn', fun j y v' e1 e2 e3 => ?_⟩, fun y c e => ?_, I.free, I.freeC, fun p hp => ?_, tracked ⟨oL, hoL, I.free⟩ hs, by simpa using I.len⟩ ⟨_, hs, .inl rfl⟩
    · exact (hs.2 b (Nat.ne_of_lt (Nat.lt_of_lt_of_le (Heap.lt_size e) I.ok.above))).trans (I.base.keep b o e n hb hx)
    · obtain ⟨sl, e1⟩ := I.base.slot b o e n hb hx
      exact ⟨sl, (hs.2 b (Nat.ne_of_lt (Nat.lt_of_lt_of_le (Heap.lt_size e) I.ok.above))).trans e1⟩
    · obtain ⟨o', e1⟩ := I.base.there b o e hx
      exact ⟨o', (hs.2 b (Nat.ne_of_lt (Nat.lt_of_lt_of_le (Heap.lt_size e) I.ok.above))).trans e1⟩
    · by_cases hj : j = i
      · subst hj
        rw [hi] at e1; cases e1
        rw [List.getElem?_set_self hiσ] at e2
        cases e2
        exact ⟨u, r, .inl ⟨hk, by simp⟩⟩
      · rw [List.getElem?_set_ne (Ne.symm hj)] at e2
        obtain ⟨u', r', q⟩ := hl j y v' e1 e2 e3
        refine ⟨u', r', ?_⟩
        rcases q with ⟨k, e⟩ | ⟨k, c, e, z⟩
        · refine .inl ⟨k, ?_⟩
          have : y ≠ x := fun e => hj (nodup_ix hN e1 (e ▸ hi))
          simp [this, e]
        · exact .inr ⟨k, c, e, z.sameBut hs (cne y c e)⟩
    · obtain ⟨w', z⟩ := I.cell y c e
      exact ⟨w', z.sameBut hs (cne y c e)⟩
    · obtain ⟨e, n, ne, nf, d⟩ := I.pin p hp
      exact ⟨(hs.2 p.1 ne).trans e, n, ne, nf, d⟩
  · have hfn : X.fn x = true := by
      rcases hf with z | z
      · exact z
      · rw [z] at hk; cases hk
    obtain ⟨c, hc⟩ := I.ok.has x (.inl hk)
    obtain ⟨w', z⟩ := I.cell x c hc
    refine wpAny_storeName_cell I.ok.kind hk hc z (fun h' hc' hs => ?_)
    obtain ⟨oc, hoc, hocd⟩ := id z
    refine h { s with heap := h' } ⟨I.ok, I.os, I.bare, ⟨fun b o e n hb hx => ?_, fun b o e n hb hx => ?_, I.base.free, fun b o e hx => ?_, I.base.tups, I.base.frzs, I.base.tbls⟩, ⟨m, hn.sameBut hs (Ne.symm (cne x c hc)), fun j y v' e1 e2 e3 => ?_⟩, fun y c' e => ?_, I.free, I.freeC, fun p hp => ?_, tracked ⟨oc, hoc, I.freeC x c hc⟩ hs, by simpa using I.len⟩ ⟨c, hs, .inr hc⟩
    · exact (hs.2 b (Nat.ne_of_lt (Nat.lt_of_lt_of_le (Heap.lt_size e) (I.ok.cab x c hfn hc)))).trans (I.base.keep b o e n hb hx)
    · obtain ⟨sl, e1⟩ := I.base.slot b o e n hb hx
      exact ⟨sl, (hs.2 b (Nat.ne_of_lt (Nat.lt_of_lt_of_le (Heap.lt_size e) (I.ok.cab x c hfn hc)))).trans e1⟩
    · obtain ⟨o', e1⟩ := I.base.there b o e hx
      exact ⟨o', (hs.2 b (Nat.ne_of_lt (Nat.lt_of_lt_of_le (Heap.lt_size e) (I.ok.cab x c hfn hc)))).trans e1⟩
    · by_cases hj : j = i
      · subst hj
        rw [hi] at e1; cases e1
        rw [List.getElem?_set_self hiσ] at e2
        cases e2
        exact ⟨u, r, .inr ⟨.inl hk, c, hc, hc'⟩⟩
      · rw [List.getElem?_set_ne (Ne.symm hj)] at e2
        obtain ⟨u', r', q⟩ := hl j y v' e1 e2 e3
        refine ⟨u', r', ?_⟩
        rcases q with q | ⟨k, c', e, z'⟩
        · exact .inl q
        · refine .inr ⟨k, c', e, z'.sameBut hs ?_⟩
          rintro rfl
          exact hj (nodup_ix hN e1 (I.ok.inj _ _ _ e hc ▸ hi))
    · by_cases hcc : c' = c
      · subst hcc; exact ⟨_, hc'⟩
      · obtain ⟨w2, z2⟩ := I.cell y c' e
        exact ⟨w2, z2.sameBut hs hcc⟩
    · obtain ⟨e, n, ne, nf, d⟩ := I.pin p hp
      refine ⟨(hs.2 p.1 ?_).trans e, n, ne, nf, d⟩
      intro q
      rw [q, hoc] at e
      have q' : oc = p.2 := Option.some.inj e
      exact d w' (by rw [← q']; exact hocd)
theorem store_ok {M : Model} {A : Around} {E : Value → Shared → Prop} {i : Nat} {x : Str} {v : V} {u : Value} {Q : Unit → Shared → Prop} (I : Inv X pins σ H s) (hN : X.N.Nodup) (hi : X.N[i]? = some x) (hx : Loc X.env.scope x) (r : RelV v u)
    (h : ∀ s', Inv X pins (σ.set i (some v)) H s' → Q () s') (hf : X.fn x = true ∨ X.env.scope.names.lookup x = some .local := by first | exact .inl rfl | exact .inr rfl | assumption) : wpAny M A (storeName X.env x u) Q E s :=
  store_ok2 I hN hi hx r (fun s' I' _ => h s' I') hf
/-- behind a call or a block, the state as it is -/
theorem Inv.call' {s' : Shared} {ch : List Addr} (I : Inv X pins σ H s) (ho : s'.os = s.os) (u : Un (frs X.stack) ch H H' s.heap s'.heap) (hok : HOk X.prog X.w H' s'.heap) (hg : AllBare s'.gens)
    (hch : ∀ b ∈ ch, (b ∈ X.ex ∨ X.s₀.heap.objs.size ≤ b) ∧ b ≠ X.env.locals ∧ (∀ x c, X.env.cells.lookup x = some c → c ≠ b) ∧ ∀ p ∈ X.pn ++ pins, p.1 ≠ b) : Inv X pins σ H' s' := by
  obtain ⟨h', g', d', t', o'⟩ := s'
  have e : o' = s.os := ho
  subst e
  exact I.call (g' := g') (t' := t') (d' := d') u hok hg hch
end

/-! ### the judgements -/
/-- an exception: its class, its own dict's address (where it has one), the abstract heap behind it -/
abbrev XK := Value → Option Addr → Hp → Prop
abbrev St := List (Option V)
abbrev VK := V → Hp → Prop
/-- an expression's reading; a test's; an argument list's -/
abbrev TE := St → Hp → VK → Prop
abbrev TT := St → Hp → (Bool → Hp → Prop) → Prop
abbrev TA := St → Hp → (List V → Hp → Prop) → Prop
/-- what is wanted behind a statement -/
structure Ends where
  nx : St → Hp → Prop
  rt : VK
  bk : St → Hp → Prop := fun _ _ => False
  ct : St → Hp → Prop := fun _ _ => False
abbrev TS := Ends → St → Hp → Prop

def EP (X : Cx) (pins : List (Addr × Obj)) (σ : St) (Q : VK) (u : Value) (s' : Shared) : Prop := ∃ v H', Inv X pins σ H' s' ∧ RelV v u ∧ Q v H'
def TP (X : Cx) (pins : List (Addr × Obj)) (σ : St) (Q : Bool → Hp → Prop) (b : Bool) (s' : Shared) : Prop := ∃ H', Inv X pins σ H' s' ∧ Q b H'
def AP (X : Cx) (pins : List (Addr × Obj)) (σ : St) (Q : List V → Hp → Prop) (us : List Value) (s' : Shared) : Prop := ∃ vs H', Inv X pins σ H' s' ∧ Vals vs us ∧ Q vs H'
def SP (X : Cx) (pins : List (Addr × Obj)) (D : Ends) (f : Flow) (s' : Shared) : Prop :=
  match f with
  | .next => ∃ σ' H', Inv X pins σ' H' s' ∧ D.nx σ' H'
  | .brk => ∃ σ' H', Inv X pins σ' H' s' ∧ D.bk σ' H'
  | .cont => ∃ σ' H', Inv X pins σ' H' s' ∧ D.ct σ' H'
  | .ret u => ∃ v σ' H', Inv X pins σ' H' s' ∧ RelV v u ∧ D.rt v H'

def PE (X : Cx) (e : Expr) (t : TE) : Prop :=
  ∀ (pins : List (Addr × Obj)) (s : Shared) (σ : St) (H : Hp) (Q : VK), Inv X pins σ H s → t σ H Q → wpAny (model X.prog X.w) X.A (eval e X.env) (EP X pins σ Q) X.xe s
def PT (X : Cx) (e : Expr) (t : TT) : Prop :=
  ∀ (pins : List (Addr × Obj)) (s : Shared) (σ : St) (H : Hp) (Q : Bool → Hp → Prop), Inv X pins σ H s → t σ H Q → wpAny (model X.prog X.w) X.A (isTrue e X.env (eval e X.env)) (TP X pins σ Q) X.xe s
/-- a test whatever its 'whole' is (and, or) -/
def PW (X : Cx) (e : Expr) (t : TT) : Prop :=
  ∀ (whole : Sem Value) (pins : List (Addr × Obj)) (s : Shared) (σ : St) (H : Hp) (Q : Bool → Hp → Prop), Inv X pins σ H s → t σ H Q → wpAny (model X.prog X.w) X.A (isTrue e X.env whole) (TP X pins σ Q) X.xe s
theorem PW.pt {X : Cx} {e : Expr} {t : TT} (h : PW X e t) : PT X e t := h _
/-- an argument list (no star), from the left -/
def PA (X : Cx) (es : List Expr) (t : TA) : Prop :=
  ∀ (pos : Pos) (pins : List (Addr × Obj)) (s : Shared) (σ : St) (H : Hp) (Q : List V → Hp → Prop), Inv X pins σ H s → t σ H Q → wpAny (model X.prog X.w) X.A (spliced (backTo pos (starEach es X.env))) (AP X pins σ Q) X.xe s
def PS (X : Cx) (st : Stmt) (t : TS) : Prop :=
  ∀ (pins : List (Addr × Obj)) (s : Shared) (σ : St) (H : Hp) (D : Ends), Inv X pins σ H s → t D σ H → wpAny (model X.prog X.w) X.A (exec st X.env) (SP X pins D) X.xe s
def PSs (X : Cx) (st : List Stmt) (t : TS) : Prop :=
  ∀ (pins : List (Addr × Obj)) (s : Shared) (σ : St) (H : Hp) (D : Ends), Inv X pins σ H s → t D σ H → wpAny (model X.prog X.w) X.A (execs st X.env) (SP X pins D) X.xe s
/-- weaken the end -/
theorem thn {α : Type} {t : Sem α} {Q Q' : α → Shared → Prop} {M : Model} {A : Around} {E : Value → Shared → Prop} {s : Shared} (h : wpAny M A t Q E s) (hQ : ∀ a s, Q a s → Q' a s) : wpAny M A t Q' E s := wpAny_mono h hQ fun _ _ x => x
end L2

namespace L2
open PySem PySem.Spec PyProof.Rows
section
variable {X : Cx}

/-- two expressions in a row -/
theorem bin {a b : Expr} {ta tb : TE} (ha : PE X a ta) (hb : PE X b tb) {pins : List (Addr × Obj)} {s : Shared} {σ : St} {H : Hp} {R : V → V → Hp → Prop} (I : Inv X pins σ H s) (h : ta σ H fun x H1 => tb σ H1 fun y H2 => R x y H2)
    {α : Type} {Q : α → Shared → Prop} {f : Value → Value → Sem α}
    (hf : ∀ v u s2 x y H2, Inv X pins σ H2 s2 → RelV x v → RelV y u → R x y H2 → wpAny (model X.prog X.w) X.A (f v u) Q X.xe s2) :
    wpAny (model X.prog X.w) X.A (eval a X.env) (fun v s₁ => wpAny (model X.prog X.w) X.A (eval b X.env) (fun u s₂ => wpAny (model X.prog X.w) X.A (f v u) Q X.xe s₂) X.xe s₁) X.xe s := by
  refine thn (ha pins s σ H _ I h) fun v s1 ⟨x, H1, I1, r1, q1⟩ => ?_
  refine thn (hb pins s1 σ H1 _ I1 q1) fun u s2 ⟨y, H2, I2, r2, q2⟩ => ?_
  exact hf v u s2 x y H2 I2 r1 r2 q2

/-! ### names and constants -/
def tVar (i : Nat) : TE := fun σ H Q => ∃ v, σ[i]? = some (some v) ∧ Q v H
def tC (v : V) : TE := fun _ H Q => Q v H
theorem pe_var {i : Nat} {x : Str} {pos : Pos} (hN : X.N[i]? = some x) (hv : Vis X.env.scope x) (hd : (x == ("__debug__" : Str)) = false := by decide) (hcd : (x == ("__classdict__" : Str)) = false := by decide) : PE X (.Name x pos) (tVar i) := by
  intro pins s σ H Q I h
  obtain ⟨v, e, h⟩ := h
  obtain ⟨m, hn, hl⟩ := I.loc
  obtain ⟨u, r, l⟩ := hl i x v hN e hv
  have fin : EP X pins σ Q u s := ⟨v, H, I, r, h⟩
  rcases l with ⟨hk, hm⟩ | ⟨hk, c, hc, hcell⟩
  · exact wpAny_Name (wpAny_loadName_local I.ok.kind hk hn hm fin) hd
  · rcases hk with hk | hk
    · exact wpAny_Name (wpAny_loadName_cell I.ok.kind hk hc hcell fin) hd
    · exact wpAny_Name (wpAny_loadName_free I.ok.kind hk hc hcell fin hcd) hd
theorem pe_int {i j pos} : PE X (.Constant (.int i) j pos) (tC (.int i)) := fun _ _ _ H _ I h => wpAny_Constant_int ⟨.int i, H, I.tok _, ⟨_, rfl⟩, h⟩
theorem pe_bl {b j pos} : PE X (.Constant (.bool b) j pos) (tC (.bl b)) := fun _ _ _ H _ I h => Constant_bool ⟨.bl b, H, I, rfl, h⟩
theorem pe_non {j pos} : PE X (.Constant .none j pos) (tC .non) := fun _ _ _ H _ I h => Constant_none ⟨.non, H, I, rfl, h⟩
theorem pe_str {x j pos} : PE X (.Constant (.str x) j pos) (tC (.str x)) := fun _ _ _ H _ I h => Calls.Constant_str ⟨.str x, H, I.tok _, ⟨_, rfl⟩, h⟩

/-- a global name of the def -/
def Gl (X : Cx) (x : Str) : Prop := X.env.kindOf x = some .globalImplicit
theorem ld_glob {E : Value → Shared → Prop} {pins : List (Addr × Obj)} {s : Shared} {σ : St} {H : Hp} {x : Str} {u : Value} {pos : Pos} {Q : Value → Shared → Prop} (I : Inv X pins σ H s) (hg : Gl X x) (hm : X.mg x = some u) (h : Q u s)
    (hd : (x == ("__debug__" : Str)) = false := by decide) : wpAny (model X.prog X.w) X.A (eval (.Name x pos) X.env) Q E s :=
  Calls.Name_function_global I.ok.kind hg (Calls.loadGlobal_global (by rw [I.ok.glob]; exact I.mod.glob.keeps I.bk) hm h) hd
theorem ld_blt {E : Value → Shared → Prop} {pins : List (Addr × Obj)} {s : Shared} {σ : St} {H : Hp} {x : Str} {u : Value} {pos : Pos} {Q : Value → Shared → Prop} (I : Inv X pins σ H s) (hg : Gl X x) (hm : X.mg x = none) (hv : bootBuiltins x = some u) (h : Q u s)
    (hn : x ≠ "__name__" := by decide) (hd : (x == ("__debug__" : Str)) = false := by decide) : wpAny (model X.prog X.w) X.A (eval (.Name x pos) X.env) Q E s := by
  obtain ⟨mb, h1, h2⟩ := I.mod.blt
  exact Calls.Name_function_global I.ok.kind hg (Calls.loadGlobal_builtin (by rw [I.ok.glob]; exact I.mod.glob.keeps I.bk) hm (by rw [I.ok.blt]; exact h1.keeps I.bk) ((h2 x hn).trans hv) h) hd
/-- a module's constant, a class, a function, as a value -/
theorem pe_glob {x : Str} {v : V} {u : Value} {pos : Pos} (hg : Gl X x) (hm : X.mg x = some u) (r : RelV v u) (hd : (x == ("__debug__" : Str)) = false := by decide) : PE X (.Name x pos) (tC v) :=
  fun _ _ _ H _ I h => ld_glob I hg hm ⟨v, H, I, r, h⟩ hd
theorem pe_bltn {x : Str} {v : V} {u : Value} {pos : Pos} (hg : Gl X x) (hm : X.mg x = none) (hv : bootBuiltins x = some u) (r : RelV v u) (hn : x ≠ "__name__" := by decide) (hd : (x == ("__debug__" : Str)) = false := by decide) : PE X (.Name x pos) (tC v) :=
  fun _ _ _ H _ I h => ld_blt I hg hm hv ⟨v, H, I, r, h⟩ hn hd

/-! ### arithmetic -/
/-- two ints -/
def t2I (ta tb : TE) (k : Int → Int → Hp → Prop) : St → Hp → Prop := fun σ H => ta σ H fun x H1 => tb σ H1 fun y H2 => ∃ i j, x = .int i ∧ y = .int j ∧ k i j H2
def tAdd (ta tb : TE) : TE := fun σ H Q => t2I ta tb (fun i j H2 => Q (.int (i + j)) H2) σ H
def tSub (ta tb : TE) : TE := fun σ H Q => t2I ta tb (fun i j H2 => Q (.int (i - j)) H2) σ H
/-- the left factor below 2^64 -/
def tMul (ta tb : TE) : TE := fun σ H Q => t2I ta tb (fun i j H2 => (-(2 ^ 64) < i ∧ i < 2 ^ 64) ∧ Q (.int (i * j)) H2) σ H
variable {a b : Expr} {ta tb : TE} {pos : Pos}
theorem pe_add (ha : PE X a ta) (hb : PE X b tb) : PE X (.BinOp a .Add b pos) (tAdd ta tb) := by
  intro pins s σ H Q I h
  refine wpAny_BinOp (bin ha hb I h fun v u s2 x y H2 I2 rx ry q => ?_)
  obtain ⟨i, j, rfl, rfl, q⟩ := q
  obtain ⟨t, rfl⟩ := rx
  obtain ⟨t', rfl⟩ := ry
  exact add_int ⟨.int _, H2, I2.tok _, ⟨_, rfl⟩, q⟩
theorem pe_sub (ha : PE X a ta) (hb : PE X b tb) : PE X (.BinOp a .Sub b pos) (tSub ta tb) := by
  intro pins s σ H Q I h
  refine wpAny_BinOp (bin ha hb I h fun v u s2 x y H2 I2 rx ry q => ?_)
  obtain ⟨i, j, rfl, rfl, q⟩ := q
  obtain ⟨t, rfl⟩ := rx
  obtain ⟨t', rfl⟩ := ry
  exact sub_int ⟨.int _, H2, I2.tok _, ⟨_, rfl⟩, q⟩
theorem pe_mul (ha : PE X a ta) (hb : PE X b tb) : PE X (.BinOp a .Mult b pos) (tMul ta tb) := by
  intro pins s σ H Q I h
  refine wpAny_BinOp (bin ha hb I h fun v u s2 x y H2 I2 rx ry q => ?_)
  obtain ⟨i, j, rfl, rfl, ⟨q1, q2⟩, q⟩ := q
  obtain ⟨t, rfl⟩ := rx
  obtain ⟨t', rfl⟩ := ry
  exact mul_int ⟨.int _, H2, I2.tok _, ⟨_, rfl⟩, q⟩ (.of_left (intBits_le_64 q1 q2))

/-! ### comparisons -/
def PC (X : Cx) (op : CmpOp) (a b : Expr) (t : TE) : Prop :=
  ∀ (pins : List (Addr × Obj)) (s : Shared) (σ : St) (H : Hp) (Q : VK), Inv X pins σ H s → t σ H Q →
    wpAny (model X.prog X.w) X.A (eval a X.env) (fun v s₁ => wpAny (model X.prog X.w) X.A (eval b X.env) (fun u s₂ => wpAny (model X.prog X.w) X.A (compareOp op v u) (EP X pins σ Q) X.xe s₂) X.xe s₁) X.xe s
theorem nobehind (b : Expr) {op : CmpOp} (h : op ≠ .In) (h2 : op ≠ .NotIn) : behindInMarks op b = false := by
  have e1 : (op == CmpOp.In) = false := by cases op <;> first | rfl | exact absurd rfl h
  have e2 : (op == CmpOp.NotIn) = false := by cases op <;> first | rfl | exact absurd rfl h2
  cases b <;> simp [behindInMarks, e1, e2]
def tCmp (p : Int → Int → Bool) (ta tb : TE) : TE := fun σ H Q => t2I ta tb (fun i j H2 => Q (.bl (p i j)) H2) σ H
abbrev tLt : TE → TE → TE := tCmp fun i j => decide (i < j)
abbrev tLe : TE → TE → TE := tCmp fun i j => decide (i ≤ j)
abbrev tGt : TE → TE → TE := tCmp fun i j => decide (j < i)
abbrev tGe : TE → TE → TE := tCmp fun i j => decide (j ≤ i)
abbrev tEqI : TE → TE → TE := tCmp fun i j => decide (i = j)
abbrev tNeI : TE → TE → TE := tCmp fun i j => !decide (i = j)
/-- a comparison of two ints, by its rule -/
theorem pc_int {op : CmpOp} {p : Int → Int → Bool} (ha : PE X a ta) (hb : PE X b tb)
    (rule : ∀ (i j : Int) (t u : Tok) (Q : Value → Shared → Prop) (s : Shared), Q (.bool (p i j)) s → wpAny (model X.prog X.w) X.A (compareOp op (.int i t) (.int j u)) Q X.xe s) : PC X op a b (tCmp p ta tb) := by
  intro pins s σ H Q I h
  refine bin ha hb I h fun v u s2 x y H2 I2 rx ry q => ?_
  obtain ⟨i, j, rfl, rfl, q⟩ := q
  obtain ⟨t, rfl⟩ := rx
  obtain ⟨t', rfl⟩ := ry
  exact rule i j t t' _ s2 ⟨.bl _, H2, I2, rfl, q⟩
theorem pc_lt (ha : PE X a ta) (hb : PE X b tb) : PC X .Lt a b (tLt ta tb) := pc_int ha hb fun _ _ _ _ _ _ h => lt_int h
theorem pc_le (ha : PE X a ta) (hb : PE X b tb) : PC X .LtE a b (tLe ta tb) := pc_int ha hb fun _ _ _ _ _ _ h => le_int h
theorem pc_gt (ha : PE X a ta) (hb : PE X b tb) : PC X .Gt a b (tGt ta tb) := pc_int ha hb fun _ _ _ _ _ _ h => gt_int h
theorem pc_ge (ha : PE X a ta) (hb : PE X b tb) : PC X .GtE a b (tGe ta tb) := pc_int ha hb fun _ _ _ _ _ _ h => ge_int h
theorem pc_eqI (ha : PE X a ta) (hb : PE X b tb) : PC X .Eq a b (tEqI ta tb) := pc_int ha hb fun _ _ _ _ _ _ h => eq_int (by rw [Bool.beq_eq_decide_eq]; exact h)
theorem pc_neI (ha : PE X a ta) (hb : PE X b tb) : PC X .NotEq a b (tNeI ta tb) := pc_int ha hb fun _ _ _ _ _ _ h => ne_int (by rw [bne, Bool.beq_eq_decide_eq]; exact h)
/-- is None -/
def tIsN (ta : TE) : TE := fun σ H Q => ta σ H fun x H1 => Q (.bl (decide (x = .non))) H1
def tNotN (ta : TE) : TE := fun σ H Q => ta σ H fun x H1 => Q (.bl (!decide (x = .non))) H1
theorem RelV.none_iff {x : V} {v : Value} (r : RelV x v) : (v == Value.none) = decide (x = .non) := by
  cases x with
  | non => cases r; rfl
  | bl _ => cases r; rfl
  | int _ => obtain ⟨t, rfl⟩ := r; rfl
  | str _ => obtain ⟨t, rfl⟩ := r; rfl
  | byt _ => obtain ⟨t, rfl⟩ := r; rfl
  | flt _ => obtain ⟨t, rfl⟩ := r; rfl
  | ref _ => cases r; rfl
  | ty _ => cases r; rfl
theorem pc_isN {j pos'} (ha : PE X a ta) : PC X .Is a (.Constant .none j pos') (tIsN ta) := by
  intro pins s σ H Q I h
  refine thn (ha pins s σ H _ I h) fun v s1 ⟨x, H1, I1, r1, q1⟩ => ?_
  exact Constant_none (is_none_gen ⟨.bl _, H1, I1, by rw [r1.none_iff]; rfl, q1⟩)
theorem pc_notN {j pos'} (ha : PE X a ta) : PC X .IsNot a (.Constant .none j pos') (tNotN ta) := by
  intro pins s σ H Q I h
  refine thn (ha pins s σ H _ I h) fun v s1 ⟨x, H1, I1, r1, q1⟩ => ?_
  exact Constant_none (isnot_none_gen ⟨.bl _, H1, I1, by rw [r1.none_iff]; rfl, q1⟩)
/-- a comparison as a value, as a test -/
def tB (t : TE) : TT := fun σ H Q => t σ H fun x H1 => ∃ c, x = .bl c ∧ Q c H1
theorem pe_cmp {op : CmpOp} {t : TE} (h : PC X op a b t) (h1 : behindInMarks op b = false := by first | exact nobehind _ (by decide) (by decide) | rfl) : PE X (.Compare a [op] [b] pos) t := fun pins s σ H Q I hw => wpAny_Compare1 (h pins s σ H Q I hw) h1
theorem pt_cmp {op : CmpOp} {t : TE} (h : PC X op a b t) (h1 : behindInMarks op b = false := by first | exact nobehind _ (by decide) (by decide) | rfl) : PT X (.Compare a [op] [b] pos) (tB t) := by
  intro pins s σ H Q I hw
  refine wpAny_isTrue_Compare1 (thn (h pins s σ H _ I hw) fun v s1 h1 => thn h1 fun u s2 h2 => thn h2 fun c s3 ⟨x, H1, I1, r1, q1⟩ => ?_) h1
  obtain ⟨d, rfl, q⟩ := q1
  cases r1
  exact wpAny_truthy_bool ⟨H1, I1, q⟩
/-- an expression whose value is a bool, as a test -/
theorem pt_val {e : Expr} {t : TE} (h : PE X e t) (he : ∀ whole, isTrue e X.env whole = (do let v ← whole; standAt e.pos; holding [v] (truthy v)) := by intro _; rfl) : PT X e (tB t) := by
  intro pins s σ H Q I hw
  refine isTrue_plain (thn (h pins s σ H _ I hw) fun v s1 ⟨x, H1, I1, r1, q1⟩ => ?_) (he _)
  obtain ⟨d, rfl, q⟩ := q1
  cases r1
  exact wpAny_truthy_bool ⟨H1, I1, q⟩

/-! ### and, or, not -/
variable {tA tB' : TT} {rest : List Expr}
def tAnd (t u : TT) : TT := fun σ H Q => t σ H fun c H1 => if c = true then u σ H1 Q else Q false H1
def tOr (t u : TT) : TT := fun σ H Q => t σ H fun c H1 => if c = true then Q true H1 else u σ H1 Q
def tNot (t : TT) : TT := fun σ H Q => t σ H fun c H1 => Q (!c) H1
theorem pw_and1 (ha : PT X a tA) : PW X (.BoolOp .And [a] pos) tA := by
  intro wh pins s σ H Q I h
  refine isTrue_and (thn (ha pins s σ H Q I h) fun c s1 e => ?_)
  cases c with
  | true => exact isTrue_and_nil e
  | false => exact e
theorem pw_or1 (ha : PT X a tA) : PW X (.BoolOp .Or [a] pos) tA := by
  intro wh pins s σ H Q I h
  refine isTrue_or (thn (ha pins s σ H Q I h) fun c s1 e => ?_)
  cases c with
  | false => exact isTrue_or_nil e
  | true => exact e
theorem pw_and (ha : PT X a tA) (hb : PW X (.BoolOp .And (b :: rest) pos) tB') : PW X (.BoolOp .And (a :: b :: rest) pos) (tAnd tA tB') := by
  intro wh pins s σ H Q I h
  refine isTrue_and (thn (ha pins s σ H _ I h) fun c s1 ⟨H1, I1, q1⟩ => ?_)
  cases c with
  | true => exact hb wh pins s1 σ H1 Q I1 q1
  | false => exact ⟨H1, I1, q1⟩
theorem pw_or (ha : PT X a tA) (hb : PW X (.BoolOp .Or (b :: rest) pos) tB') : PW X (.BoolOp .Or (a :: b :: rest) pos) (tOr tA tB') := by
  intro wh pins s σ H Q I h
  refine isTrue_or (thn (ha pins s σ H _ I h) fun c s1 ⟨H1, I1, q1⟩ => ?_)
  cases c with
  | true => exact ⟨H1, I1, q1⟩
  | false => exact hb wh pins s1 σ H1 Q I1 q1
theorem pt_not (ha : PT X a tA) : PT X (.UnaryOp .Not a pos) (tNot tA) := by
  intro pins s σ H Q I h
  exact isTrue_not (ha pins s σ H (fun c H1 => Q (!c) H1) I h)
/-- .. as values (bools) -/
def tAndV (ta tb : TE) : TE := fun σ H Q => ta σ H fun x H1 => ∃ c, x = .bl c ∧ if c = true then tb σ H1 Q else Q (.bl false) H1
def tOrV (ta tb : TE) : TE := fun σ H Q => ta σ H fun x H1 => ∃ c, x = .bl c ∧ if c = true then Q (.bl true) H1 else tb σ H1 Q
def tNotV (ta : TE) : TE := fun σ H Q => ta σ H fun x H1 => ∃ c, x = .bl c ∧ Q (.bl (!c)) H1
theorem pe_one {op} {t : TE} (h : PE X a t) : PE X (.BoolOp op [a] pos) t := fun pins s σ H Q I hw => BoolOp_one (h pins s σ H Q I hw)
theorem pe_and (ha : PE X a ta) (hb : PE X (.BoolOp .And (b :: rest) pos) tb) : PE X (.BoolOp .And (a :: b :: rest) pos) (tAndV ta tb) := by
  intro pins s σ H Q I h
  refine BoolOp_and (thn (ha pins s σ H _ I h) fun v s1 ⟨x, H1, I1, r1, q1⟩ => ?_)
  obtain ⟨c, rfl, q1⟩ := q1
  cases r1
  refine wpAny_truthy_bool ?_
  cases c with
  | true => exact hb pins s1 σ H1 Q I1 q1
  | false => exact ⟨.bl false, H1, I1, rfl, q1⟩
theorem pe_or (ha : PE X a ta) (hb : PE X (.BoolOp .Or (b :: rest) pos) tb) : PE X (.BoolOp .Or (a :: b :: rest) pos) (tOrV ta tb) := by
  intro pins s σ H Q I h
  refine BoolOp_or (thn (ha pins s σ H _ I h) fun v s1 ⟨x, H1, I1, r1, q1⟩ => ?_)
  obtain ⟨c, rfl, q1⟩ := q1
  cases r1
  refine wpAny_truthy_bool ?_
  cases c with
  | false => exact hb pins s1 σ H1 Q I1 q1
  | true => exact ⟨.bl true, H1, I1, rfl, q1⟩
theorem pe_not (ha : PE X a ta) : PE X (.UnaryOp .Not a pos) (tNotV ta) := by
  intro pins s σ H Q I h
  refine UnaryOp_ (thn (ha pins s σ H _ I h) fun v s1 ⟨x, H1, I1, r1, q1⟩ => ?_)
  obtain ⟨c, rfl, q1⟩ := q1
  cases r1
  exact not_of (wpAny_truthy_bool ⟨.bl (!c), H1, I1, rfl, q1⟩)
/-- a if t else b -/
def tIf (t : TT) (ta tb : TE) : TE := fun σ H Q => t σ H fun c H1 => if c = true then ta σ H1 Q else tb σ H1 Q
theorem pe_ifExp {c : Expr} (hc : PT X c tA) (ha : PE X a ta) (hb : PE X b tb) : PE X (.IfExp c a b pos) (tIf tA ta tb) := by
  intro pins s σ H Q I h
  refine wpAny_IfExp (thn (hc pins s σ H _ I h) fun d s1 ⟨H1, I1, q1⟩ => ?_)
  cases d with
  | true => exact ha pins s1 σ H1 Q I1 q1
  | false => exact hb pins s1 σ H1 Q I1 q1
end
end L2

namespace L2
open PySem PySem.Spec PyProof.Rows

/-! ### a list, a tuple that is read: tracked, frozen, or an object of the module -/
def SqL (K : PySem.W.Frag) (H : Hp) (a : Addr) (xs : List V) : Prop :=
  Rd H a (.lst xs) ∨
    ∃ (o : Obj) (its : Array Value) (n : Nat), K.lookup a = some o ∧ o.cls = .type "list" ∧ o.dict = none ∧ o.data = .seq its n ∧ its.size ≤ sizeLine ∧ Vals xs its.toList
def SqT (K : PySem.W.Frag) (H : Hp) (a : Addr) (xs : List V) : Prop :=
  Rd H a (.tup xs) ∨
    ∃ (o : Obj) (its : Array Value) (n : Nat), K.lookup a = some o ∧ o.cls = .type "tuple" ∧ o.data = .seq its n ∧ its.size ≤ sizeLine ∧ Vals xs its.toList
def absV : Value → Option V
  | .none => some .non
  | .bool b => some (.bl b)
  | .int i _ => some (.int i)
  | .str x _ => some (.str x)
  | .bytes b _ => some (.byt b)
  | .float b _ => some (.flt b)
  | .ref a => some (.ref a)
  | .type n => some (.ty n)
  | _ => none
theorem RelV.abs {x : V} {u : Value} (r : RelV x u) : absV u = some x := by
  cases x with
  | non => cases r; rfl
  | bl _ => cases r; rfl
  | int _ => obtain ⟨t, rfl⟩ := r; rfl
  | str _ => obtain ⟨t, rfl⟩ := r; rfl
  | byt _ => obtain ⟨t, rfl⟩ := r; rfl
  | flt _ => obtain ⟨t, rfl⟩ := r; rfl
  | ref _ => cases r; rfl
  | ty _ => cases r; rfl
theorem RelV.inj {x y : V} {u : Value} (r : RelV x u) (q : RelV y u) : x = y := Option.some.inj (r.abs.symm.trans q.abs)
theorem Vals.inj : ∀ {xs ys : List V} {us : List Value}, Vals xs us → Vals ys us → xs = ys
  | _, _, _, .nil, .nil => rfl
  | _, _, _, .cons r t, .cons r' t' => by rw [r.inj r', Vals.inj t t']
section
variable {X : Cx} {pins : List (Addr × Obj)} {σ : St} {H : Hp} {s : Shared} {a : Addr} {xs ys : List V}
theorem SqL.of {K : PySem.W.Frag} (h : H a = some (.lst xs)) : SqL K H a xs := .inl (.inl h)
theorem SqT.of {K : PySem.W.Frag} (h : H a = some (.tup xs)) : SqT K H a xs := .inl (.inl h)
theorem Inv.list (I : Inv X pins σ H s) (h : SqL X.K H a xs) : ∃ its : List Value, Vals xs its ∧ PlainL s.heap a its.toArray ∧ xs.length ≤ sizeLine := by
  rcases h with h | ⟨o, its, n, hk, hc, hd, hs, hz, r⟩
  · obtain ⟨z, its, n, r, e⟩ := h.ok I.hok
    exact ⟨its, r, ⟨_, n, e, rfl, rfl, rfl⟩, z⟩
  · refine ⟨its.toList, r, ⟨o, n, I.kIn a o hk, hc, hd, by simpa using hs⟩, ?_⟩
    have e := r.length
    simp only [Array.length_toList] at e
    omega
theorem Inv.tuple (I : Inv X pins σ H s) (h : SqT X.K H a xs) : ∃ its : List Value, Vals xs its ∧ IsTup s.heap a its.toArray ∧ xs.length ≤ sizeLine := by
  rcases h with h | ⟨o, its, n, hk, hc, hs, hz, r⟩
  · obtain ⟨z, its, r, p⟩ := h.ok I.hok
    exact ⟨its, r, p, z⟩
  · refine ⟨its.toList, r, ⟨o, I.kIn a o hk, hc, n, by simpa using hs⟩, ?_⟩
    have e := r.length
    simp only [Array.length_toList] at e
    omega
theorem Inv.list_inj (I : Inv X pins σ H s) (h : SqL X.K H a xs) (h' : SqL X.K H a ys) : xs = ys := by
  obtain ⟨its, r, ⟨o, n, e, _, _, d⟩, _⟩ := I.list h
  obtain ⟨its', r', ⟨o', n', e', _, _, d'⟩, _⟩ := I.list h'
  rw [e] at e'; cases e'
  rw [d] at d'
  injection d' with d1 _
  have : its = its' := by simpa using congrArg Array.toList d1
  subst this
  exact r.inj r'
theorem Inv.tuple_inj (I : Inv X pins σ H s) (h : SqT X.K H a xs) (h' : SqT X.K H a ys) : xs = ys := by
  obtain ⟨its, r, ⟨o, e, _, n, d⟩, _⟩ := I.tuple h
  obtain ⟨its', r', ⟨o', e', _, n', d'⟩, _⟩ := I.tuple h'
  rw [e] at e'; cases e'
  rw [d] at d'
  injection d' with d1 _
  have : its = its' := by simpa using congrArg Array.toList d1
  subst this
  exact r.inj r'
end

/-! ### another wish about exceptions -/
abbrev Cx.wish (X : Cx) (E : Value → Shared → Prop) : Cx := { X with xe := E }
/-- no exception leaves -/
abbrev Cx.nox (X : Cx) : Cx := X.wish fun _ _ => False
theorem Cx.Ok.wish {X : Cx} (ok : X.Ok) (E : Value → Shared → Prop) : (X.wish E).Ok :=
  ⟨ok.mod, ok.kind, ok.glob, ok.blt, ok.above, ok.inj, ok.has, ok.cab, ok.hd, ok.frames, ok.stk, ok.exf, ok.bs, ok.bsz, ok.noex, ok.exfs, ok.funs, ok.frf⟩
theorem Cx.Ok.unwish {X : Cx} {E : Value → Shared → Prop} (ok : (X.wish E).Ok) : X.Ok :=
  ⟨ok.mod, ok.kind, ok.glob, ok.blt, ok.above, ok.inj, ok.has, ok.cab, ok.hd, ok.frames, ok.stk, ok.exf, ok.bs, ok.bsz, ok.noex, ok.exfs, ok.funs, ok.frf⟩
section
variable {X : Cx} {pins : List (Addr × Obj)} {σ : St} {H : Hp} {s : Shared} {E : Value → Shared → Prop}
theorem Inv.wish (I : Inv X pins σ H s) (E : Value → Shared → Prop) : Inv (X.wish E) pins σ H s := ⟨I.ok.wish E, I.os, I.bare, I.base, I.loc, I.cell, I.free, I.freeC, I.pin, I.hok, I.len⟩
theorem Inv.unwish (I : Inv (X.wish E) pins σ H s) : Inv X pins σ H s := ⟨I.ok.unwish, I.os, I.bare, I.base, I.loc, I.cell, I.free, I.freeC, I.pin, I.hok, I.len⟩
theorem SP.unwish {D : Ends} {f : Flow} {s' : Shared} (h : SP (X.wish E) pins D f s') : SP X pins D f s' := by
  cases f with
  | next => obtain ⟨σ', H', I, q⟩ := h; exact ⟨σ', H', I.unwish, q⟩
  | brk => obtain ⟨σ', H', I, q⟩ := h; exact ⟨σ', H', I.unwish, q⟩
  | cont => obtain ⟨σ', H', I, q⟩ := h; exact ⟨σ', H', I.unwish, q⟩
  | ret u => obtain ⟨v, σ', H', I, r, q⟩ := h; exact ⟨v, σ', H', I.unwish, r, q⟩
theorem PE.nox {e : Expr} {t : TE} (h : PE X.nox e t) : PE X e t := fun pins s σ H Q I hw =>
  wpAny_mono (h pins s σ H Q (I.wish _) hw) (fun _ _ ⟨v, H', I', r, q⟩ => ⟨v, H', I'.unwish, r, q⟩) fun _ _ z => False.elim z
theorem PT.nox {e : Expr} {t : TT} (h : PT X.nox e t) : PT X e t := fun pins s σ H Q I hw =>
  wpAny_mono (h pins s σ H Q (I.wish _) hw) (fun _ _ ⟨H', I', q⟩ => ⟨H', I'.unwish, q⟩) fun _ _ z => False.elim z
theorem PSs.nox {st : List Stmt} {t : TS} (h : PSs X.nox st t) : PSs X st t := fun pins s σ H D I hw =>
  wpAny_mono (h pins s σ H D (I.wish _) hw) (fun _ _ q => q.unwish) fun _ _ z => False.elim z
end

/-! ### blocks and small statements -/
section
variable {X : Cx} {st : Stmt} {rest : List Stmt} {t u : TS} {e : Expr} {te : TE} {pos : Pos}
def tNext : TS := fun D σ H => D.nx σ H
def tSeq (t u : TS) : TS := fun D σ H => t { D with nx := u D } σ H
theorem pss_nil : PSs X [] tNext := fun _ _ σ H _ I h => wpAny_execs_nil ⟨σ, H, I, h⟩
theorem pss_cons (h1 : PS X st t) (h2 : PSs X rest u) : PSs X (st :: rest) (tSeq t u) := by
  intro pins s σ H D I h
  refine wpAny_execs_cons (thn (h1 pins s σ H { D with nx := u D } I h) fun f s1 q => ?_)
  cases f with
  | next =>
    obtain ⟨σ', H', I', q⟩ := q
    exact h2 pins s1 σ' H' D I' q
  | ret v => exact q
  | brk => exact q
  | cont => exact q
theorem pss_one (h1 : PS X st t) : PSs X [st] t := by
  intro pins s σ H D I h
  refine wpAny_execs_cons (thn (h1 pins s σ H D I h) fun f s1 q => ?_)
  cases f with
  | next => exact wpAny_execs_nil q
  | ret v => exact q
  | brk => exact q
  | cont => exact q
def tBreak : TS := fun D σ H => D.bk σ H
def tCont : TS := fun D σ H => D.ct σ H
theorem ps_pass : PS X (.Pass pos) tNext := fun _ _ σ H _ I h => wpAny_Pass ⟨σ, H, I, h⟩
theorem ps_break : PS X (.Break pos) tBreak := fun _ _ σ H _ I h => wpAny_Break ⟨σ, H, I, h⟩
theorem ps_continue : PS X (.Continue pos) tCont := fun _ _ σ H _ I h => wpAny_Continue ⟨σ, H, I, h⟩
/-- in a def's body nothing is shown -/
theorem Inv.quiet {pins : List (Addr × Obj)} {σ : St} {H : Hp} {s : Shared} (I : Inv X pins σ H s) : interactive X.env = false := by simp [interactive, I.ok.kind]
/-- a docstring -/
theorem ps_doc {x j pos pos'} : PS X (.Expr (.Constant (.str x) j pos) pos') tNext := fun _ s σ H _ I h => wpAny_Expr (Calls.Constant_str (show SP X _ _ .next { s with toks := s.toks + 1 } from ⟨σ, H, I.tok _, h⟩)) I.quiet
/-- an expression whose value is dropped -/
def tDrop (te : TE) : TS := fun D σ H => te σ H fun _ H1 => D.nx σ H1
theorem ps_expr (he : PE X e te) (hs : swapsWith e none pos.line X.env = pure false := by rfl) : PS X (.Expr e pos) (tDrop te) := by
  intro pins s σ H D I h
  exact wpAny_Expr_any (thn (he pins s σ H _ I h) fun v s1 ⟨x, H1, I1, r1, q1⟩ => ⟨σ, H1, I1, q1⟩) I.quiet hs
def tRet (te : TE) : TS := fun D σ H => te σ H D.rt
theorem ps_ret (he : PE X e te) : PS X (.Return (some e) pos) (tRet te) := by
  intro pins s σ H D I h
  exact wpAny_Return_some (thn (he pins s σ H _ I h) fun v s1 ⟨x, H1, I1, r1, q1⟩ => ⟨x, σ, H1, I1, r1, q1⟩)
def tRetN : TS := fun D _ H => D.rt .non H
theorem ps_retN : PS X (.Return none pos) tRetN := fun _ _ σ H _ I h => wpAny_Return_none ⟨.non, σ, H, I, rfl, h⟩
def tIfS (c : TT) (t u : TS) : TS := fun D σ H => c σ H fun b H1 => if b = true then t D σ H1 else u D σ H1
theorem ps_if {c : Expr} {a b : List Stmt} {tc : TT} (hc : PT X c tc) (ha : PSs X a t) (hb : PSs X b u) : PS X (.If c a b pos) (tIfS tc t u) := by
  intro pins s σ H D I h
  refine wpAny_If (thn (hc pins s σ H _ I h) fun d s1 ⟨H1, I1, q1⟩ => ?_)
  cases d with
  | true => exact ha pins s1 σ H1 D I1 q1
  | false => exact hb pins s1 σ H1 D I1 q1
/-- code that the proof never comes to -/
def tNever : TS := fun _ _ _ => False
theorem ps_never : PS X st tNever := fun _ _ _ _ _ _ h => h.elim
theorem pss_never {sts : List Stmt} : PSs X sts tNever := fun _ _ _ _ _ _ h => h.elim
end

/-! ### targets -/
abbrev TG := V → St → Hp → (St → Hp → Prop) → Prop
abbrev TGs := List V → St → Hp → (St → Hp → Prop) → Prop
def PG (X : Cx) (target : Expr) (t : TG) : Prop :=
  ∀ (pins : List (Addr × Obj)) (s : Shared) (σ : St) (H : Hp) (v : V) (u : Value) (Q : St → Hp → Prop), Inv X pins σ H s → RelV v u → t v σ H Q →
    wpAny (model X.prog X.w) X.A (assign target X.env u) (fun _ s' => ∃ σ' H', Inv X pins σ' H' s' ∧ Q σ' H') X.xe s
/-- several targets, one after another -/
def PGs (X : Cx) (ts : List Expr) (t : TGs) : Prop :=
  ∀ (pins : List (Addr × Obj)) (s : Shared) (σ : St) (H : Hp) (vs : List V) (us : List Value) (Q : St → Hp → Prop), Inv X pins σ H s → Vals vs us → t vs σ H Q →
    wpAny (model X.prog X.w) X.A (assignInOrder ((assignEach ts X.env).map (·.2)) us) (fun _ s' => ∃ σ' H', Inv X pins σ' H' s' ∧ Q σ' H') X.xe s
/-- o[i] = v, by values -/
abbrev TSet := V → V → V → Hp → (Hp → Prop) → Prop
def PSet (X : Cx) (t : TSet) : Prop :=
  ∀ (pins : List (Addr × Obj)) (s : Shared) (σ : St) (H : Hp) (o i v : V) (ov iv u : Value) (Q : Hp → Prop), Inv X pins σ H s → RelV o ov → RelV i iv → RelV v u → t o i v H Q →
    wpAny (model X.prog X.w) X.A (setItem ov iv u) (fun _ s' => ∃ H', Inv X pins σ H' s' ∧ Q H') X.xe s
/-- a op= b, by values -/
abbrev TIp := V → V → Hp → VK → Prop
def PIp (X : Cx) (op : Operator) (t : TIp) : Prop :=
  ∀ (pins : List (Addr × Obj)) (s : Shared) (σ : St) (H : Hp) (x y : V) (v u : Value) (Q : VK), Inv X pins σ H s → RelV x v → RelV y u → t x y H Q →
    wpAny (model X.prog X.w) X.A (inplaceOp op v u) (EP X pins σ Q) X.xe s
section
variable {X : Cx} {pos : Pos}
def gName (i : Nat) : TG := fun v σ H Q => Q (σ.set i (some v)) H
theorem pg_name {i : Nat} {x : Str} (hN : X.N.Nodup) (hi : X.N[i]? = some x) (hx : Loc X.env.scope x) (hf : X.fn x = true ∨ X.env.scope.names.lookup x = some .local := by first | exact .inl rfl | exact .inr rfl | assumption) : PG X (.Name x pos) (gName i) := by
  intro pins s σ H v u Q I r h
  exact wpAny_assign_Name (store_ok I hN hi hx r (fun s' I' => ⟨_, H, I', h⟩) hf)
def gNil : TGs := fun vs σ H Q => vs = [] ∧ Q σ H
def gCons (t : TG) (u : TGs) : TGs := fun vs σ H Q => ∃ v r, vs = v :: r ∧ t v σ H fun σ' H' => u r σ' H' Q
theorem pgs_nil : PGs X [] gNil := by
  intro pins s σ H vs us Q I r h
  obtain ⟨e, h⟩ := h
  subst e
  cases r
  exact assignInOrder_nil ⟨σ, H, I, h⟩
theorem pgs_cons {e : Expr} {es : List Expr} {t : TG} {u : TGs} (h1 : PG X e t) (h2 : PGs X es u)
    (hs : (assignEach (e :: es) X.env).map (·.2) = assign e X.env :: (assignEach es X.env).map (·.2) := by rfl) : PGs X (e :: es) (gCons t u) := by
  intro pins s σ H vs us Q I r h
  obtain ⟨v, vr, e1, h⟩ := h
  subst e1
  cases r with
  | cons r rr =>
    rw [hs]
    refine assignInOrder_cons (thn (h1 pins s σ H _ _ _ I r h) fun _ s1 ⟨σ1, H1, I1, q1⟩ => ?_)
    exact h2 pins s1 σ1 H1 _ _ Q I1 rr q1
/-- (a, b, ..) = a tuple of that length -/
def gTup (K : PySem.W.Frag) (n : Nat) (t : TGs) : TG := fun v σ H Q => ∃ a xs, v = .ref a ∧ SqT K H a xs ∧ xs.length = n ∧ t xs σ H Q
theorem pg_tup {es : List Expr} {k : Nat} {t : TGs} {n : Nat} (hc : X.calm = true) (h : PGs X es t)
    (hn : (assignEach es X.env).length = n := by rfl) (hst : (assignEach es X.env).findIdx? (·.1) = none := by rfl) : PG X (.Tuple es k pos) (gTup X.K n t) := by
  intro pins s σ H v u Q I r hw
  obtain ⟨a, xs, e1, hq, hl, hw⟩ := hw
  subst e1
  cases r
  obtain ⟨its, rv, ht, hz⟩ := I.tuple hq
  refine assign_Tuple_tuple (I.ok.hd hc) ht (by simp [hn, ← hl, rv.length]) hst fun h' hx => ?_
  have I1 : Inv X pins σ H { s with heap := h' } := I.kept (t' := s.toks) fun b o e => hx b o (Nat.ne_of_lt (Heap.lt_size e)) e
  exact h pins _ σ H xs _ Q I1 (by simpa using rv) hw
/-- o[i] = .. -/
def gSub (to ti : TE) (t : TSet) : TG := fun v σ H Q => to σ H fun o H1 => ti σ H1 fun i H2 => t o i v H2 fun H3 => Q σ H3
theorem pg_sub {o i : Expr} {to ti : TE} {t : TSet} (ho : PE X o to) (hi : PE X i ti) (hs : PSet X t)
    (ha : ∀ v, assign (.Subscript o i pos) X.env v = (do
      let ov ← holding [v] (eval o X.env)
      let iv ← holding [v, ov] (eval i X.env)
      standAt pos
      holding [v, ov, iv] (setItem ov iv v)
      release [v, ov, iv] []) := by intro _; rfl) : PG X (.Subscript o i pos) (gSub to ti t) := by
  intro pins s σ H v u Q I r h
  rw [ha]
  refine wpAny_bind (wpAny_holding (thn (ho pins s σ H _ I h) fun ov s1 ⟨x, H1, I1, r1, q1⟩ => ?_))
  refine wpAny_bind (wpAny_holding (thn (hi pins s1 σ H1 _ I1 q1) fun iv s2 ⟨y, H2, I2, r2, q2⟩ => ?_))
  refine wpAny_bind (wpAny_standAt (wpAny_bind (wpAny_holding (thn (hs pins s2 σ H2 x y v ov iv u _ I2 r1 r2 r q2) fun _ s3 ⟨H3, I3, q3⟩ => ?_))))
  exact wpAny_release ⟨σ, H3, I3, q3⟩
/-- target = value -/
def tAsg (te : TE) (g : TG) : TS := fun D σ H => te σ H fun x H1 => g x σ H1 D.nx
theorem ps_asg {tg e : Expr} {te : TE} {g : TG} (he : PE X e te) (hg : PG X tg g) (hs : swapsWithSole [tg] e pos.line X.env = pure false := by rfl) (hw : swappedStores [tg] e X.env = pure none := by rfl)
    (h1 : (assignEach [tg] X.env).map (·.2) = [assign tg X.env] := by rfl) : PS X (.Assign [tg] e pos) (tAsg te g) := by
  intro pins s σ H D I h
  refine wpAny_Assign_stores (thn (he pins s σ H _ I h) fun v s1 ⟨x, H1, I1, r1, q1⟩ => ?_) hs hw
  rw [h1]
  exact thn (hg pins s1 σ H1 x v _ I1 r1 q1) fun _ s2 q => q
/-- name = value -/
theorem ps_set {i : Nat} {x : Str} {e : Expr} {te : TE} {pos' : Pos} (hN : X.N.Nodup) (hi : X.N[i]? = some x) (hx : Loc X.env.scope x) (he : PE X e te) (hs : swapsWith e (some (.Name x pos')) pos.line X.env = pure false := by rfl) (hf : X.fn x = true ∨ X.env.scope.names.lookup x = some .local := by first | exact .inl rfl | exact .inr rfl | assumption) :
    PS X (.Assign [.Name x pos'] e pos) (tAsg te (gName i)) := by
  intro pins s σ H D I h
  refine wpAny_Assign_Name (thn (he pins s σ H _ I h) fun v s1 ⟨y, H1, I1, r1, q1⟩ => ?_) hs
  exact store_ok I1 hN hi hx r1 (fun s2 I2 => ⟨_, H1, I2, q1⟩) hf
/-- a, b = x, y with plain local names: stored from the right; the pair itself is not tracked (the opening rows as in PyProof/Rows/TupAssign.lean:23) -/
def tPar (i j : Nat) (ta : TA) : TS := fun D σ H => ta σ H fun vs H1 => ∃ v w, vs = [v, w] ∧ D.nx ((σ.set i (some v)).set j (some w)) H1
theorem ps_par {i j : Nat} {x y : Str} {a b : Expr} {ta : TA} {px py pt : Pos} {kt k2 pt2} (hc : X.calm = true) (hN : X.N.Nodup) (hi : X.N[i]? = some x) (hj : X.N[j]? = some y) (hij : i ≠ j)
    (hx : X.env.scope.names.lookup x = some .local) (hy : X.env.scope.names.lookup y = some .local) (ha : PA X [a, b] ta)
    (hw : swappedStores [.Tuple [.Name x px, .Name y py] kt pt] (.Tuple [a, b] k2 pt2) X.env = pure (some [x, y]))
    (hs : swapsWithSole [.Tuple [.Name x px, .Name y py] kt pt] (.Tuple [a, b] k2 pt2) pos.line X.env = pure false := by rfl) :
    PS X (.Assign [.Tuple [.Name x px, .Name y py] kt pt] (.Tuple [a, b] k2 pt2) pos) (tPar i j ta) := by
  intro pins s σ H D I h
  rw [exec_Assign_arm]
  refine wpAny_bind (wpAny_standAt ?_)
  rw [hs]
  refine wpAny_bind (wpAny_pure ?_)
  rw [if_neg (by decide)]
  refine wpAny_bind (Tuple_ (thn (ha _ pins s σ H _ I h) fun us s1 ⟨vs, H1, I1, r1, q1⟩ => ?_))
  obtain ⟨v, w, e1, q1⟩ := q1
  subst e1
  obtain ⟨u1, u2, rfl, rv, rw'⟩ : ∃ u1 u2, us = [u1, u2] ∧ RelV v u1 ∧ RelV w u2 := by
    cases r1 with
    | cons p q =>
      cases q with
      | cons p' q' =>
        cases q'
        exact ⟨_, _, rfl, p, p'⟩
  refine wpAny_newObj_type ?_ (by show 2 ≤ sizeLine; decide)
  have I2 : Inv X pins σ H1 { s1 with heap := s1.heap.push { cls := .type "tuple", data := .seq [u1, u2].toArray } } := I1.kept (t' := s1.toks) fun b o e => Heap.get?_push_of_some _ e
  rw [hw]
  refine wpAny_bind (wpAny_pure ?_)
  show wpAny (model X.prog X.w) X.A (do rule "assign.swapped-stores"; let items ← unpackItems (.ref s1.heap.objs.size) 2 none; assignInOrder [fun v => bindName X.env y v, fun v => bindName X.env x v] items.reverse; pure Flow.next) _ _ _
  refine wpAny_bind (wpAny_rule (wpAny_bind (unpackItems_tuple (items := #[u1, u2]) (I.ok.hd hc) (IsTup.new s1.heap _) fun h' hx' => ?_)))
  have I3 := I2.kept (h' := h') (t' := s1.toks) fun b o e => hx' b o (Nat.ne_of_lt (Heap.lt_size e)) e
  show wpAny _ _ (assignInOrder [fun v => bindName X.env y v, fun v => bindName X.env x v] [u2, u1] >>= fun _ => pure Flow.next) _ _ _
  refine wpAny_bind (assignInOrder_cons (wpAny_bindName (store_ok I3 hN hj (.inl hy) rw' (fun s2 I4 => ?_) (.inr hy))))
  refine assignInOrder_cons (wpAny_bindName (store_ok I4 hN hi (.inl hx) rv (fun s3 I5 => assignInOrder_nil (wpAny_pure ?_)) (.inr hx)))
  rw [List.set_comm _ _ (Ne.symm hij)] at I5
  exact ⟨_, H1, I5, q1⟩
/-- name op= e -/
def tAug (i : Nat) (te : TE) (ti : TIp) : TS := fun D σ H => ∃ x, σ[i]? = some (some x) ∧ te σ H fun y H1 => ti x y H1 fun z H2 => D.nx (σ.set i (some z)) H2
theorem ps_aug {i : Nat} {x : Str} {e : Expr} {te : TE} {op : Operator} {ti : TIp} {pos' : Pos} (hN : X.N.Nodup) (hi : X.N[i]? = some x) (hx : Loc X.env.scope x) (he : PE X e te) (ho : PIp X op ti) (hf : X.fn x = true ∨ X.env.scope.names.lookup x = some .local := by first | exact .inl rfl | exact .inr rfl | assumption) :
    PS X (.AugAssign (.Name x pos') op e pos) (tAug i te ti) := by
  intro pins s σ H D I h
  obtain ⟨v, e1, h⟩ := h
  obtain ⟨m, hn, hl⟩ := I.loc
  have vis : Vis X.env.scope x := by rcases hx with k | k; exact .inl k; exact .inr (.inl k)
  obtain ⟨u, r, l⟩ := hl i x v hi e1 vis
  refine wpAny_AugAssign_Name ?_
  have go : wpAny (model X.prog X.w) X.A (eval e X.env) (fun w s₂ => wpAny (model X.prog X.w) X.A (inplaceOp op u w) (fun r s₃ => wpAny (model X.prog X.w) X.A (storeName X.env x r) (fun _ => SP X pins D .next) X.xe s₃) X.xe s₂) X.xe s := by
    refine thn (he pins s σ H _ I h) fun w s1 ⟨y, H1, I1, r1, q1⟩ => ?_
    refine thn (ho pins s1 σ H1 v y u w _ I1 r r1 q1) fun z s2 ⟨zv, H2, I2, r2, q2⟩ => ?_
    exact store_ok I2 hN hi hx r2 (fun s3 I3 => ⟨_, H2, I3, q2⟩) hf
  rcases l with ⟨hk, hm⟩ | ⟨hk, c, hc, hcell⟩
  · exact wpAny_loadName_local I.ok.kind hk hn hm go
  · rcases hk with hk | hk
    · exact wpAny_loadName_cell I.ok.kind hk hc hcell go
    · rcases hx with k | k
      · have : X.env.scope.names.lookup x = some .free := hk
        rw [k] at this; cases this
      · have : X.env.scope.names.lookup x = some .free := hk
        rw [k] at this; cases this
/-- o[i] op= e -/
def tAugS (to ti te : TE) (tget : V → V → Hp → VK → Prop) (tip : TIp) (tset : TSet) : TS := fun D σ H => to σ H fun o H1 => ti σ H1 fun i H2 => tget o i H2 fun x H3 => te σ H3 fun y H4 => tip x y H4 fun z H5 => tset o i z H5 fun H6 => D.nx σ H6
/-- o[i], by values -/
def PGet (X : Cx) (t : V → V → Hp → VK → Prop) : Prop :=
  ∀ (pins : List (Addr × Obj)) (s : Shared) (σ : St) (H : Hp) (o i : V) (ov iv : Value) (Q : VK), Inv X pins σ H s → RelV o ov → RelV i iv → t o i H Q →
    wpAny (model X.prog X.w) X.A (getItem ov iv) (EP X pins σ Q) X.xe s
theorem ps_augS {o i e : Expr} {to ti te : TE} {tget : V → V → Hp → VK → Prop} {tip : TIp} {tset : TSet} {op : Operator} {tpos : Pos} (ho : PE X o to) (hi : PE X i ti) (hg : PGet X tget) (he : PE X e te) (hp : PIp X op tip) (hs : PSet X tset)
    (ha : ∀ ov iv new, augStore i ov iv new = (do holding [new, ov, iv] (setItem ov iv new); release [new, ov, iv] []; pure .next) := by intros; rfl) : PS X (.AugAssign (.Subscript o i tpos) op e pos) (tAugS to ti te tget tip tset) := by
  intro pins s σ H D I h
  refine wpAny_AugAssign_SubscriptAny (thn (ho pins s σ H _ I h) fun ov s1 ⟨x1, H1, I1, r1, q1⟩ => ?_) ha
  refine thn (hi pins s1 σ H1 _ I1 q1) fun iv s2 ⟨x2, H2, I2, r2, q2⟩ => ?_
  refine thn (hg pins s2 σ H2 x1 x2 ov iv _ I2 r1 r2 q2) fun old s3 ⟨x3, H3, I3, r3, q3⟩ => ?_
  refine thn (he pins s3 σ H3 _ I3 q3) fun v s4 ⟨x4, H4, I4, r4, q4⟩ => ?_
  refine thn (hp pins s4 σ H4 x3 x4 old v _ I4 r3 r4 q4) fun new s5 ⟨x5, H5, I5, r5, q5⟩ => ?_
  exact thn (hs pins s5 σ H5 x1 x2 x5 ov iv new _ I5 r1 r2 r5 q5) fun _ s6 ⟨H6, I6, q6⟩ => ⟨σ, H6, I6, q6⟩
/-- ints -/
def ipI (f : Int → Int → Int) : TIp := fun x y H Q => ∃ i j, x = .int i ∧ y = .int j ∧ Q (.int (f i j)) H
theorem ip_add : PIp X .Add (ipI fun i j => i + j) := by
  intro pins s σ H x y v u Q I r1 r2 h
  obtain ⟨i, j, e1, e2, q⟩ := h
  subst e1; subst e2
  obtain ⟨t, rfl⟩ := r1
  obtain ⟨t', rfl⟩ := r2
  exact iadd_int ⟨.int _, H, I.tok _, ⟨_, rfl⟩, q⟩
theorem ip_sub : PIp X .Sub (ipI fun i j => i - j) := by
  intro pins s σ H x y v u Q I r1 r2 h
  obtain ⟨i, j, e1, e2, q⟩ := h
  subst e1; subst e2
  obtain ⟨t, rfl⟩ := r1
  obtain ⟨t', rfl⟩ := r2
  exact isub_int ⟨.int _, H, I.tok _, ⟨_, rfl⟩, q⟩
end

/-! ### while -/
section
variable {X : Cx} {pos : Pos}
/-- the invariant W with its measure -/
def tWhile (c : TT) (tb : TS) : TS := fun D σ H => ∃ W : Nat → St → Hp → Prop, (∃ m, W m σ H) ∧ ∀ m σ H, W m σ H →
  c σ H fun b H1 => if b = true then ∃ N : St → Hp → Prop, (∀ σ' H', N σ' H' → ∃ m', m' < m ∧ W m' σ' H') ∧ tb { D with nx := N, ct := N, bk := D.nx } σ H1 else D.nx σ H1
theorem ps_while {c : Expr} {body : List Stmt} {tc : TT} {tb : TS} (hp : PassesOwn (model X.prog X.w) X.A X.env X.xe) (hc : PT X c tc) (hb : PSs X body tb) : PS X (.While c body [] pos) (tWhile tc tb) := by
  intro pins s σ H D I h
  obtain ⟨W, ⟨m0, w0⟩, turn⟩ := h
  refine wpAny_While (codeAny_whileLoop (fun n s' => ∃ σ' H', Inv X pins σ' H' s' ∧ W n σ' H') ?_ m0 ⟨σ, H, I, w0⟩)
  rintro n s1 ⟨σ1, H1, I1, w1⟩
  refine wpAny_passesOwn hp (thn (hc pins s1 σ1 H1 _ I1 (turn n σ1 H1 w1)) fun b s2 ⟨H2, I2, q2⟩ => ?_)
  cases b with
  | true =>
    obtain ⟨N, hN, q2⟩ := q2
    rw [if_pos rfl]
    refine wpAny_passesOwn hp (thn (hb pins s2 σ1 H2 _ I2 q2) fun f s3 q3 => ?_)
    cases f with
    | next =>
      obtain ⟨σ3, H3, I3, n3⟩ := q3
      obtain ⟨m', hm, w3⟩ := hN σ3 H3 n3
      exact ⟨m', hm, σ3, H3, I3, w3⟩
    | cont =>
      obtain ⟨σ3, H3, I3, n3⟩ := q3
      obtain ⟨m', hm, w3⟩ := hN σ3 H3 n3
      exact ⟨m', hm, σ3, H3, I3, w3⟩
    | brk => exact q3
    | ret v => exact q3
  | false =>
    rw [if_neg Bool.false_ne_true]
    exact wpAny_execs_nil ⟨σ1, H2, I2, q2⟩
end

/-! ### what a loop or a comprehension walks -/
/-- at turn i: it yields x (the heap may grow), or it stops -/
structure It where
  go : Nat → Hp → Prop
  yld : Nat → Hp → V → Hp → Prop
  stop : Nat → Hp → Prop
/-- the iterator's own objects may turn: they are not the frame's, not pinned, younger than the entry (or a comprehension's own) -/
def FpOk (X : Cx) (pins : List (Addr × Obj)) (H : Hp) (b : Addr) : Prop :=
  H b = none ∧ b ≠ X.env.locals ∧ b ∉ X.fs ∧ (b ∈ X.ex ∨ X.s₀.heap.objs.size ≤ b) ∧ (∀ x c, X.env.cells.lookup x = some c → c ≠ b) ∧ ∀ p ∈ X.pn ++ pins, p.1 ≠ b
theorem Inv.fpOk {X : Cx} {pins : List (Addr × Obj)} {σ : St} {H H' : Hp} {s : Shared} {b : Addr} (I : Inv X pins σ H s) (hb : s.heap.objs.size ≤ b) (hn : H' b = none) : FpOk X pins H' b := by
  refine ⟨hn, Nat.ne_of_gt (Nat.lt_of_lt_of_le I.lt hb), I.nofs hb, .inr (Nat.le_trans I.sz hb), fun x c e z => ?_, fun p hp z => ?_⟩
  · obtain ⟨v, q⟩ := I.cell x c e
    exact absurd (Nat.lt_of_lt_of_le q.lt (by rw [z]; exact hb)) (Nat.lt_irrefl _)
  · exact absurd (Nat.lt_of_lt_of_le (Heap.lt_size (I.pin p hp).1) (by rw [z]; exact hb)) (Nat.lt_irrefl _)
structure Turn (P : Program) (w : World) (K : PySem.W.Frag) (tg : Expr) (J : It) (fp : List Addr) (it : Addr) (tn : Nat → Heap → Prop) : Prop where
  mem : it ∈ fp
  obj : ∀ i h, tn i h → ∀ b ∈ fp, ∃ o, h.get? b = some o ∧ ∀ v, o.data ≠ .cell v
  keep : ∀ i h h', tn i h → (∀ b ∈ fp, ∀ o, h.get? b = some o → h'.get? b = some o) → tn i h'
  item : ∀ (X : Cx), X.prog = P → X.w = w → X.K = K → X.calm = true → ∀ (i : Nat) (pins : List (Addr × Obj)) (s : Shared) (σ : St) (H : Hp) (E : Value → Shared → Prop), Inv X pins σ H s → (∀ b ∈ fp, FpOk X pins H b) → tn i s.heap → J.go i H →
    wpAny (model P w) X.A (pyNext (.ref it)) (fun r s1 => ∃ u, r = some u ∧
      wpAny (model P w) X.A (letOwnedTupleGo tg (.ref it) u) (fun _ s2 => ∃ x H', Inv X pins σ H' s2 ∧ RelV x u ∧ J.yld i H x H' ∧ tn (i + 1) s2.heap ∧ ∀ b ∈ fp, H' b = none) E s1) E s
  done : ∀ (X : Cx), X.prog = P → X.w = w → X.K = K → X.calm = true → ∀ (i : Nat) (pins : List (Addr × Obj)) (s : Shared) (σ : St) (H : Hp) (E : Value → Shared → Prop), Inv X pins σ H s → (∀ b ∈ fp, FpOk X pins H b) → tn i s.heap → J.stop i H →
    wpAny (model P w) X.A (pyNext (.ref it)) (fun r s1 => r = none ∧ Inv X pins σ H s1) E s
  self : ∀ (A : Around) (i : Nat) (s : Shared) (Q : Value → Shared → Prop) (E : Value → Shared → Prop), tn i s.heap → Q (.ref it) s → wpAny (model P w) A (pyIter (.ref it)) Q E s
abbrev TI := St → Hp → (It → Hp → Prop) → Prop
/-- an iterator has come -/
def PIE (X : Cx) (pins : List (Addr × Obj)) (σ : St) (tg : Expr) (R : It → Hp → Prop) (itv : Value) (s2 : Shared) : Prop :=
  ∃ (it : Addr) (fp : List Addr) (tn : Nat → Heap → Prop) (J : It) (H' : Hp), itv = .ref it ∧ Inv X pins σ H' s2 ∧ Turn X.prog X.w X.K tg J fp it tn ∧ tn 0 s2.heap ∧ (∀ b ∈ fp, FpOk X pins H' b) ∧ R J H'
def PI (X : Cx) (tg iter : Expr) (wi : TI) : Prop :=
  ∀ (pins : List (Addr × Obj)) (s : Shared) (σ : St) (H : Hp) (R : It → Hp → Prop), Inv X pins σ H s → wi σ H R →
    wpAny (model X.prog X.w) X.A (eval iter X.env) (fun v s1 => wpAny (model X.prog X.w) X.A (pyIter v) (PIE X pins σ tg R) X.xe s1) X.xe s

/-- the step ahead of the store is nothing for an iterator that keeps no tuple -/
theorem go_of {M : Model} {A : Around} {E : Value → Shared → Prop} {s : Shared} {tg : Expr} {it : Addr} {u : Value} {o : Obj} {n : String} {vs : Array Value} {Q : Unit → Shared → Prop} (ho : s.heap.get? it = some o) (hc : o.cls = .type n) (hd : o.data = .fields vs)
    (hn : ["enumerate", "zip", "dict_itemiterator", "dict_reverseitemiterator", "odict_iterator", "itertools.zip_longest", "itertools.pairwise"].contains n = false) (hQ : Q () s) : wpAny M A (letOwnedTupleGo tg (.ref it) u) Q E s := by
  unfold letOwnedTupleGo
  cases tg <;> first
    | exact wpAny_pure hQ
    | (cases u <;> first
        | exact wpAny_pure hQ
        | (refine wpAny_bind (wpAny_load ho ?_)
           rw [hc, hd]
           show wpAny M A (if (["enumerate", "zip", "dict_itemiterator", "dict_reverseitemiterator", "odict_iterator", "itertools.zip_longest", "itertools.pairwise"].contains n && vs[0]? == some (rawInt _)) = true then _ else _) Q E s
           rw [if_neg (by intro h; rw [hn, Bool.false_and] at h; cases h)]
           exact wpAny_pure hQ))

/-- the list at a, as it stands at each turn (a loop may append to it) -/
def Itl (K : PySem.W.Frag) (a : Addr) : It :=
  ⟨fun i H => ∃ xs x, SqL K H a xs ∧ xs[i]? = some x, fun i H x H' => H' = H ∧ ∀ xs, SqL K H a xs → xs[i]? = some x, fun i H => ∃ xs, SqL K H a xs ∧ xs.length ≤ i⟩
def Itt (K : PySem.W.Frag) (a : Addr) : It :=
  ⟨fun i H => ∃ xs x, SqT K H a xs ∧ xs[i]? = some x, fun i H x H' => H' = H ∧ ∀ xs, SqT K H a xs → xs[i]? = some x, fun i H => ∃ xs, SqT K H a xs ∧ xs.length ≤ i⟩
/-- lo, lo + 1, .. (n of them) -/
def Itr (lo : Int) (n : Nat) : It := ⟨fun i _ => i < n, fun i H x H' => H' = H ∧ x = .int (lo + i), fun i _ => n ≤ i⟩
theorem turn_list {P : Program} {w : World} {K : PySem.W.Frag} {tg : Expr} (a it : Addr) : Turn P w K tg (Itl K a) [it] it (fun i h => h.IsListIter it a i) where
  mem := by simp
  obj := fun i h st b hb => by
    have e : b = it := by simpa using hb
    subst e
    obtain ⟨o, e, c, d⟩ := st
    exact ⟨o, e, fun v z => by rw [d] at z; cases z⟩
  keep := fun i h h' st k => st.at fun o e => k it (by simp) o e
  item := by
    intro X hP hw hK hc i pins s σ H E I hf st hg
    subst hP hw hK
    obtain ⟨xs, x, hq, hx⟩ := hg
    obtain ⟨its, rv, p, hz⟩ := I.list hq
    obtain ⟨u, hu, ru⟩ := rv.get hx
    obtain ⟨f0, f1, f2, f3, f4, f5⟩ := hf it (by simp)
    refine wpAny_pyNext_list_item st p.isList (x := u) (by simpa using hu) fun h' st' sb => ?_
    have I1 : Inv X pins σ H { s with heap := h' } := I.turned (t' := s.toks) (fun b o hb e => (sb.2 b hb).trans e) f0 f1 f3 f4 f5
    obtain ⟨o, e, c, d⟩ := id st'
    exact ⟨u, rfl, go_of (s := { s with heap := h' }) e c d (by decide) ⟨x, H, I1, ru, ⟨rfl, fun ys hy => by rw [I.list_inj hy hq]; exact hx⟩, st', fun b hb => (hf b hb).1⟩⟩
  done := by
    intro X hP hw hK hc i pins s σ H E I hf st hg
    subst hP hw hK
    obtain ⟨xs, hq, hx⟩ := hg
    obtain ⟨its, rv, p, hz⟩ := I.list hq
    obtain ⟨f0, f1, f2, f3, f4, f5⟩ := hf it (by simp)
    have hl := rv.length
    exact wpAny_pyNext_list_end (I.ok.hd hc) st p.isList (by simp; omega) fun h' eb => ⟨rfl, I.turned (t' := s.toks) (fun b o hb e => eb b o hb e) f0 f1 f3 f4 f5⟩
  self := fun _ _ _ _ _ st h => wpAny_pyIter_listiter st h
theorem turn_tuple {P : Program} {w : World} {K : PySem.W.Frag} {tg : Expr} (a it : Addr) : Turn P w K tg (Itt K a) [it] it (fun i h => h.IsTupleIter it a i) where
  mem := by simp
  obj := fun i h st b hb => by
    have e : b = it := by simpa using hb
    subst e
    obtain ⟨o, e, c, d⟩ := st
    exact ⟨o, e, fun v z => by rw [d] at z; cases z⟩
  keep := fun i h h' st k => st.at fun o e => k it (by simp) o e
  item := by
    intro X hP hw hK hc i pins s σ H E I hf st hg
    subst hP hw hK
    obtain ⟨xs, x, hq, hx⟩ := hg
    obtain ⟨its, rv, p, hz⟩ := I.tuple hq
    obtain ⟨u, hu, ru⟩ := rv.get hx
    obtain ⟨f0, f1, f2, f3, f4, f5⟩ := hf it (by simp)
    refine wpAny_pyNext_tuple_item st (show s.heap.IsTuple a its.toArray from p) (x := u) (by simpa using hu) fun h' st' sb => ?_
    have I1 : Inv X pins σ H { s with heap := h' } := I.turned (t' := s.toks) (fun b o hb e => (sb.2 b hb).trans e) f0 f1 f3 f4 f5
    obtain ⟨o, e, c, d⟩ := id st'
    exact ⟨u, rfl, go_of (s := { s with heap := h' }) e c d (by decide) ⟨x, H, I1, ru, ⟨rfl, fun ys hy => by rw [I.tuple_inj hy hq]; exact hx⟩, st', fun b hb => (hf b hb).1⟩⟩
  done := by
    intro X hP hw hK hc i pins s σ H E I hf st hg
    subst hP hw hK
    obtain ⟨xs, hq, hx⟩ := hg
    obtain ⟨its, rv, p, hz⟩ := I.tuple hq
    obtain ⟨f0, f1, f2, f3, f4, f5⟩ := hf it (by simp)
    have hl := rv.length
    exact wpAny_pyNext_tuple_end (I.ok.hd hc) st (show s.heap.IsTuple a its.toArray from p) (by simp; omega) fun h' eb => ⟨rfl, I.turned (t' := s.toks) (fun b o hb e => eb b o hb e) f0 f1 f3 f4 f5⟩
  self := fun _ _ _ _ _ st h => wpAny_pyIter_tupleiter st h
theorem turn_range {P : Program} {w : World} {K : PySem.W.Frag} {tg : Expr} (it : Addr) (lo : Int) (n : Nat) : Turn P w K tg (Itr lo n) [it] it (fun i h => IsRangeIter h it (lo + (i : Nat) * 1) ((n : Int) - (i : Nat)) 1) where
  mem := by simp
  obj := fun i h st b hb => by
    have e : b = it := by simpa using hb
    subst e
    exact ⟨_, st, fun v z => by
      have z' : Data.fields _ = Data.cell v := z
      cases z'⟩
  keep := fun i h h' st k => k it (by simp) _ st
  item := by
    intro X hP hw hK hc i pins s σ H E I hf st hg
    subst hP hw hK
    obtain ⟨f0, f1, f2, f3, f4, f5⟩ := hf it (by simp)
    have W := Walks.range (prog := X.prog) (w := X.w) (I.ok.hd hc) it lo 1 n
    refine W.item i s _ _ hg st fun v h' tk hv st' kk => ?_
    obtain ⟨t, rfl⟩ := hv
    have I1 : Inv X pins σ H { s with heap := h', toks := tk } := I.turned (fun b o hb e => kk b o (by simpa using hb) e) f0 f1 f3 f4 f5
    refine ⟨_, rfl, go_of (s := { s with heap := h', toks := tk }) (n := "range_iterator") st' rfl rfl (by decide) ⟨.int (lo + i), H, I1, ⟨t, ?_⟩, ⟨rfl, rfl⟩, st', fun b hb => (hf b hb).1⟩⟩
    rw [Int.mul_one]
  done := by
    intro X hP hw hK hc i pins s σ H E I hf st hg
    subst hP hw hK
    obtain ⟨f0, f1, f2, f3, f4, f5⟩ := hf it (by simp)
    exact wpAny_pyNext_range_end (I.ok.hd hc) st (by have : n ≤ i := hg; omega) fun h' eb => ⟨rfl, I.turned (t' := s.toks) (fun b o hb e => eb b o hb e) f0 f1 f3 f4 f5⟩
  self := fun _ _ _ _ _ st h => wpAny_pyIter_rangeiter st h
end L2

namespace L2
open PySem PySem.Spec PyProof.Rows
section
variable {X : Cx} {tg : Expr}
def iList (K : PySem.W.Frag) (tl : TE) : TI := fun σ H R => tl σ H fun x H1 => ∃ a, x = .ref a ∧ (∃ xs, SqL K H1 a xs) ∧ R (Itl K a) H1
def iTup (K : PySem.W.Frag) (tl : TE) : TI := fun σ H R => tl σ H fun x H1 => ∃ a, x = .ref a ∧ (∃ xs, SqT K H1 a xs) ∧ R (Itt K a) H1
theorem pi_list {l : Expr} {tl : TE} (hl : PE X l tl) : PI X tg l (iList X.K tl) := by
  intro pins s σ H R I h
  refine thn (hl pins s σ H _ I h) fun v s1 ⟨x, H1, I1, r1, q1⟩ => ?_
  obtain ⟨a, e, ⟨xs, hq⟩, q⟩ := q1
  subst e
  cases r1
  obtain ⟨its, rv, p, hz⟩ := I1.list hq
  refine wpAny_pyIter_list p.isList ?_
  refine ⟨s1.heap.objs.size, [s1.heap.objs.size], _, _, H1, rfl, I1.kept (t' := s1.toks) fun b o e => Heap.get?_push_of_some _ e, turn_list a _, ⟨_, Heap.get?_push_size _ rfl, rfl, rfl⟩, fun b hb => ?_, q⟩
  have e : b = s1.heap.objs.size := by simpa using hb
  subst e
  exact I1.fpOk (Nat.le_refl _) (I1.hok.fresh (Nat.le_refl _))
theorem pi_tup {l : Expr} {tl : TE} (hl : PE X l tl) : PI X tg l (iTup X.K tl) := by
  intro pins s σ H R I h
  refine thn (hl pins s σ H _ I h) fun v s1 ⟨x, H1, I1, r1, q1⟩ => ?_
  obtain ⟨a, e, ⟨xs, hq⟩, q⟩ := q1
  subst e
  cases r1
  obtain ⟨its, rv, p, hz⟩ := I1.tuple hq
  refine wpAny_pyIter_tuple (show s1.heap.IsTuple a its.toArray from p) ?_
  refine ⟨s1.heap.objs.size, [s1.heap.objs.size], _, _, H1, rfl, I1.kept (t' := s1.toks) fun b o e => Heap.get?_push_of_some _ e, turn_tuple a _, ⟨_, Heap.get?_push_size _ rfl, rfl, rfl⟩, fun b hb => ?_, q⟩
  have e : b = s1.heap.objs.size := by simpa using hb
  subst e
  exact I1.fpOk (Nat.le_refl _) (I1.hok.fresh (Nat.le_refl _))
/-- a range object just made, walked -/
theorem range_it {pins : List (Addr × Obj)} {σ : St} {H : Hp} {s : Shared} {R : It → Hp → Prop} {E : Value → Shared → Prop} {lo hi : Int} {t u v : Tok} {tk : Nat} (I : Inv X pins σ H s) (h1 : -(2 ^ 62) ≤ lo) (h2 : lo < 2 ^ 62) (h3 : -(2 ^ 62) ≤ hi) (h4 : hi < 2 ^ 62)
    (q : R (Itr lo (hi - lo).toNat) H) : wpAny (model X.prog X.w) X.A (pyIter (.ref s.heap.objs.size)) (PIE X pins σ tg R) E { s with heap := s.heap.push { cls := .type "range", data := .fields #[.int lo t, .int hi u, .int 1 v] }, toks := tk } := by
  refine wpAny_pyIter_range (IsRange.new ..) (small_one h1 h2 h3 h4) ?_
  have I1 : Inv X pins σ H { s with heap := s.heap.push { cls := .type "range", data := .fields #[.int lo t, .int hi u, .int 1 v] }, toks := tk } := I.kept fun b o e => Heap.get?_push_of_some _ e
  refine ⟨(s.heap.push { cls := .type "range", data := .fields #[.int lo t, .int hi u, .int 1 v] }).objs.size, [(s.heap.push { cls := .type "range", data := .fields #[.int lo t, .int hi u, .int 1 v] }).objs.size], _, _, H, rfl,
    I1.kept (t' := tk) fun b o e => Heap.get?_push_of_some _ e, turn_range _ lo (hi - lo).toNat, ?_, fun b hb => ?_, q⟩
  · have e1 : lo + ((0 : Nat) : Int) * 1 = lo := by simp
    have e2 : (((hi - lo).toNat : Nat) : Int) - ((0 : Nat) : Int) = Builtin.Range.rangeSize lo hi 1 := by rw [rangeSize_one]; split <;> omega
    show IsRangeIter _ _ (lo + ((0 : Nat) : Int) * 1) ((((hi - lo).toNat : Nat) : Int) - ((0 : Nat) : Int)) 1
    rw [e1, e2]
    exact Heap.get?_push_size _ rfl
  · have e : b = (s.heap.push { cls := .type "range", data := .fields #[.int lo t, .int hi u, .int 1 v] }).objs.size := by simpa using hb
    subst e
    exact I1.fpOk (Nat.le_refl _) (I1.hok.fresh (Nat.le_refl _))
def iRng1 (ta : TA) : TI := fun σ H R => ta σ H fun vs H1 => ∃ j : Int, vs = [.int j] ∧ -(2 ^ 62) ≤ j ∧ j < 2 ^ 62 ∧ R (Itr 0 j.toNat) H1
def iRng2 (ta : TA) : TI := fun σ H R => ta σ H fun vs H1 => ∃ i j : Int, vs = [.int i, .int j] ∧ (-(2 ^ 62) ≤ i ∧ i < 2 ^ 62 ∧ -(2 ^ 62) ≤ j ∧ j < 2 ^ 62) ∧ R (Itr i (j - i).toNat) H1
theorem pi_range1 {a : Expr} {ta : TA} {p pos : Pos} (hg : Gl X "range") (hm : X.mg "range" = none) (ha : PA X [a] ta) (hs : starEach [a] X.env = [(false, eval a X.env)] := by rfl) : PI X tg (.Call (.Name "range" p) [a] [] pos) (iRng1 ta) := by
  intro pins s σ H R I h
  refine Call_ (ld_blt I hg hm boot_range (PyProof.Rows.callWith_type1 (thn (ha pos pins s σ H _ I h) fun us s1 ⟨vs, H1, I1, r1, q1⟩ => ?_) hs rfl))
  obtain ⟨j, e, q1, q2, q⟩ := q1
  subst e
  cases r1 with
  | cons r rr =>
    cases rr
    obtain ⟨t, rfl⟩ := r
    exact call_range_1 (range_it I1 (by omega) (by omega) q1 q2 (by simpa using q))
theorem pi_range2 {a b : Expr} {ta : TA} {p pos : Pos} (hg : Gl X "range") (hm : X.mg "range" = none) (ha : PA X [a, b] ta) (hs : starEach [a, b] X.env = [(false, eval a X.env), (false, eval b X.env)] := by rfl) (hs2 : starEach [b] X.env = [(false, eval b X.env)] := by rfl) :
    PI X tg (.Call (.Name "range" p) [a, b] [] pos) (iRng2 ta) := by
  intro pins s σ H R I h
  refine Call_ (ld_blt I hg hm boot_range (PyProof.Rows.callWith_type1 (thn (ha pos pins s σ H _ I h) fun us s1 ⟨vs, H1, I1, r1, q1⟩ => ?_) (by rw [hs, hs2]) (by rw [hs2]; rfl)))
  obtain ⟨i, j, e, ⟨q1, q2, q3, q4⟩, q⟩ := q1
  subst e
  cases r1 with
  | cons r rr =>
    cases rr with
    | cons r' rr =>
      cases rr
      obtain ⟨t, rfl⟩ := r
      obtain ⟨t', rfl⟩ := r'
      exact call_range_2 (range_it I1 q1 q2 q3 q4 q)

/-! ### for -/
/-- W: the invariant by the turn and a measure; N: what the body is to reach -/
def tFor (wi : TI) (g : TG) (tb : TS) : TS := fun D σ H => wi σ H fun J H1 => ∃ W : Nat → Nat → St → Hp → Prop, (∃ m, W 0 m σ H1) ∧ ∀ i m σ H, W i m σ H →
  (J.stop i H ∧ D.nx σ H) ∨ (J.go i H ∧ ∃ N : St → Hp → Prop, (∀ σ' H', N σ' H' → ∃ m', m' < m ∧ W (i + 1) m' σ' H') ∧ ∀ x H', J.yld i H x H' → g x σ H' fun σ2 H2 => tb { D with nx := N, ct := N, bk := D.nx } σ2 H2)
/-- the records at fp as they stand -/
def pinsAt (fp : List Addr) (h : Heap) : List (Addr × Obj) := fp.filterMap fun b => (h.get? b).map fun o => (b, o)
theorem mem_pinsAt {fp : List Addr} {h : Heap} {b : Addr} {o : Obj} (hb : b ∈ fp) (e : h.get? b = some o) : (b, o) ∈ pinsAt fp h := List.mem_filterMap.mpr ⟨b, hb, by rw [e]; rfl⟩
theorem of_pinsAt {fp : List Addr} {h : Heap} {p : Addr × Obj} (hp : p ∈ pinsAt fp h) : p.1 ∈ fp ∧ h.get? p.1 = some p.2 := by
  obtain ⟨b, hb, e⟩ := List.mem_filterMap.mp hp
  cases q : h.get? b with
  | none => rw [q] at e; cases e
  | some o =>
    rw [q] at e
    have e' : (b, o) = p := Option.some.inj e
    subst e'
    exact ⟨hb, q⟩
theorem Inv.pinned {pins : List (Addr × Obj)} {σ : St} {H : Hp} {s : Shared} {fp : List Addr} (I : Inv X pins σ H s) (hf : ∀ b ∈ fp, FpOk X pins H b) (ho : ∀ b ∈ fp, ∃ o, s.heap.get? b = some o ∧ ∀ v, o.data ≠ .cell v) : Inv X (pins ++ pinsAt fp s.heap) σ H s :=
  I.pins_of fun p hp => (List.mem_append.mp hp).elim (fun z => I.pin p (List.mem_append_right _ z)) fun z => by
    obtain ⟨hb, e⟩ := of_pinsAt z
    obtain ⟨f0, f1, f2, _⟩ := hf p.1 hb
    obtain ⟨o, e', d⟩ := ho p.1 hb
    rw [e] at e'; cases e'
    exact ⟨e, f0, f1, f2, d⟩
theorem Inv.unpinned {pins pl : List (Addr × Obj)} {σ : St} {H : Hp} {s : Shared} (I : Inv X (pins ++ pl) σ H s) : Inv X pins σ H s := I.pins_of fun p hp => I.pin p (List.mem_append_right _ (List.mem_append_left _ hp))
theorem ps_for {iter : Expr} {body : List Stmt} {wi : TI} {g : TG} {tb : TS} {pos : Pos} (hp : PassesOwn (model X.prog X.w) X.A X.env X.xe) (hc : X.calm = true) (hi : PI X tg iter wi) (hg : PG X tg g) (hb : PSs X body tb)
    (hs : ∀ x, foldedSetIterable iter X.env x = pure x := by intro _; rfl) : PS X (.For tg iter body [] pos) (tFor wi g tb) := by
  intro pins s σ H D I h
  refine wpAny_For (thn (hi pins s σ H _ I h) fun v s1 h1 => thn h1 fun itv s2 h2 => ?_) hs
  obtain ⟨it, fp, tn, J, H2, e, I2, T, st2, f2, W, ⟨m0, w0⟩, turn⟩ := h2
  subst e
  -- what stays true of the iterator's objects through the loop
  have stat : ∀ {H' : Hp}, (∀ b ∈ fp, H' b = none) → ∀ b ∈ fp, FpOk X pins H' b := fun hn b hb => ⟨hn b hb, (f2 b hb).2⟩
  refine codeAny_forLoop_any (fun n s' => ∃ i σ' H', Inv X pins σ' H' s' ∧ tn i s'.heap ∧ (∀ b ∈ fp, H' b = none) ∧ W i n σ' H') ?_ m0 ⟨0, σ, H2, I2, st2, fun b hb => (f2 b hb).1, w0⟩
  rintro n s3 ⟨i, σ3, H3, I3, st3, fr3, w3⟩
  rcases turn i n σ3 H3 w3 with ⟨stop, qn⟩ | ⟨go, N, hN, step⟩
  · refine wpAny_passesOwn hp (thn (T.done X rfl rfl rfl hc i pins s3 σ3 H3 X.xe I3 (stat fr3) st3 stop) fun r s4 ⟨hr, I4⟩ => ?_)
    subst hr
    exact wpAny_execs_nil ⟨σ3, H3, I4, qn⟩
  · refine wpAny_passesOwn hp (thn (T.item X rfl rfl rfl hc i pins s3 σ3 H3 X.xe I3 (stat fr3) st3 go) fun r s4 ⟨u, hr, h4⟩ => ?_)
    subst hr
    refine wpAny_passesOwn hp (thn h4 fun _ s5 ⟨x, H5, I5, r5, y5, st5, fr5⟩ => ?_)
    have I5' := I5.pinned (stat fr5) (T.obj _ _ st5)
    refine wpAny_passesOwn hp (thn (hg _ s5 σ3 H5 x u _ I5' r5 (step x H5 y5)) fun _ s6 ⟨σ6, H6, I6, q6⟩ => ?_)
    refine wpAny_passesOwn hp (thn (hb _ s6 σ6 H6 _ I6 q6) fun f s7 q7 => ?_)
    have again : ∀ {σ7 : St} {H7 : Hp}, Inv X (pins ++ pinsAt fp s5.heap) σ7 H7 s7 → N σ7 H7 → ∃ m, m < n ∧ ∃ i σ' H', Inv X pins σ' H' s7 ∧ tn i s7.heap ∧ (∀ b ∈ fp, H' b = none) ∧ W i m σ' H' := fun {σ7 H7} I7 n7 => by
      obtain ⟨m', hm, w7⟩ := hN σ7 H7 n7
      refine ⟨m', hm, i + 1, σ7, H7, I7.unpinned, T.keep _ _ _ st5 fun b hb o e => (I7.pin (b, o) (List.mem_append_right _ (List.mem_append_right _ (mem_pinsAt hb e)))).1, fun b hb => ?_, w7⟩
      obtain ⟨o, e, d⟩ := T.obj _ _ st5 b hb
      exact (I7.pin (b, o) (List.mem_append_right _ (List.mem_append_right _ (mem_pinsAt hb e)))).2.1
    cases f with
    | next => obtain ⟨σ7, H7, I7, n7⟩ := q7; exact again I7 n7
    | cont => obtain ⟨σ7, H7, I7, n7⟩ := q7; exact again I7 n7
    | brk => obtain ⟨σ7, H7, I7, q7⟩ := q7; exact ⟨σ7, H7, I7.unpinned, q7⟩
    | ret v => obtain ⟨x7, σ7, H7, I7, r7, q7⟩ := q7; exact ⟨x7, σ7, H7, I7.unpinned, r7, q7⟩
end

/-! ### the forms one uses -/
/-- over a list that the body leaves as it is -/
theorem for_list {K : PySem.W.Frag} {a : Addr} {xs : List V} {g : TG} {tb : TS} {D : Ends} {σ : St} {H : Hp} (Pv : Nat → St → Hp → Prop) (h0 : Pv 0 σ H) (hl : ∀ i σ H, i ≤ xs.length → Pv i σ H → SqL K H a xs)
    (hs : ∀ i x σ H, xs[i]? = some x → Pv i σ H → g x σ H fun σ2 H2 => tb { D with nx := Pv (i + 1), ct := Pv (i + 1), bk := D.nx } σ2 H2) (hd : ∀ σ H, Pv xs.length σ H → D.nx σ H) :
    ∃ W : Nat → Nat → St → Hp → Prop, (∃ m, W 0 m σ H) ∧ ∀ i m σ H, W i m σ H →
      ((Itl K a).stop i H ∧ D.nx σ H) ∨ ((Itl K a).go i H ∧ ∃ N : St → Hp → Prop, (∀ σ' H', N σ' H' → ∃ m', m' < m ∧ W (i + 1) m' σ' H') ∧ ∀ x H', (Itl K a).yld i H x H' → g x σ H' fun σ2 H2 => tb { D with nx := N, ct := N, bk := D.nx } σ2 H2) := by
  refine ⟨fun i m σ H => m = xs.length - i ∧ i ≤ xs.length ∧ Pv i σ H, ⟨xs.length, by simp, Nat.zero_le _, h0⟩, ?_⟩
  rintro i m σ H ⟨rfl, hi, p⟩
  have q := hl i σ H hi p
  by_cases hlt : i < xs.length
  · refine .inr ⟨⟨xs, xs[i], q, by simp [hlt]⟩, Pv (i + 1), fun σ' H' p' => ⟨xs.length - (i + 1), by omega, rfl, hlt, p'⟩, fun x H' y => ?_⟩
    obtain ⟨e, y⟩ := y
    subst e
    exact hs i x σ _ (y xs q) p
  · have e : i = xs.length := by omega
    subst e
    exact .inl ⟨⟨xs, q, Nat.le_refl _⟩, hd σ H p⟩
theorem for_tup {K : PySem.W.Frag} {a : Addr} {xs : List V} {g : TG} {tb : TS} {D : Ends} {σ : St} {H : Hp} (Pv : Nat → St → Hp → Prop) (h0 : Pv 0 σ H) (hl : ∀ i σ H, i ≤ xs.length → Pv i σ H → SqT K H a xs)
    (hs : ∀ i x σ H, xs[i]? = some x → Pv i σ H → g x σ H fun σ2 H2 => tb { D with nx := Pv (i + 1), ct := Pv (i + 1), bk := D.nx } σ2 H2) (hd : ∀ σ H, Pv xs.length σ H → D.nx σ H) :
    ∃ W : Nat → Nat → St → Hp → Prop, (∃ m, W 0 m σ H) ∧ ∀ i m σ H, W i m σ H →
      ((Itt K a).stop i H ∧ D.nx σ H) ∨ ((Itt K a).go i H ∧ ∃ N : St → Hp → Prop, (∀ σ' H', N σ' H' → ∃ m', m' < m ∧ W (i + 1) m' σ' H') ∧ ∀ x H', (Itt K a).yld i H x H' → g x σ H' fun σ2 H2 => tb { D with nx := N, ct := N, bk := D.nx } σ2 H2) := by
  refine ⟨fun i m σ H => m = xs.length - i ∧ i ≤ xs.length ∧ Pv i σ H, ⟨xs.length, by simp, Nat.zero_le _, h0⟩, ?_⟩
  rintro i m σ H ⟨rfl, hi, p⟩
  have q := hl i σ H hi p
  by_cases hlt : i < xs.length
  · refine .inr ⟨⟨xs, xs[i], q, by simp [hlt]⟩, Pv (i + 1), fun σ' H' p' => ⟨xs.length - (i + 1), by omega, rfl, hlt, p'⟩, fun x H' y => ?_⟩
    obtain ⟨e, y⟩ := y
    subst e
    exact hs i x σ _ (y xs q) p
  · have e : i = xs.length := by omega
    subst e
    exact .inl ⟨⟨xs, q, Nat.le_refl _⟩, hd σ H p⟩
theorem for_range {lo : Int} {n : Nat} {g : TG} {tb : TS} {D : Ends} {σ : St} {H : Hp} (Pv : Nat → St → Hp → Prop) (h0 : Pv 0 σ H)
    (hs : ∀ i σ H, i < n → Pv i σ H → g (.int (lo + i)) σ H fun σ2 H2 => tb { D with nx := Pv (i + 1), ct := Pv (i + 1), bk := D.nx } σ2 H2) (hd : ∀ σ H, Pv n σ H → D.nx σ H) :
    ∃ W : Nat → Nat → St → Hp → Prop, (∃ m, W 0 m σ H) ∧ ∀ i m σ H, W i m σ H →
      ((Itr lo n).stop i H ∧ D.nx σ H) ∨ ((Itr lo n).go i H ∧ ∃ N : St → Hp → Prop, (∀ σ' H', N σ' H' → ∃ m', m' < m ∧ W (i + 1) m' σ' H') ∧ ∀ x H', (Itr lo n).yld i H x H' → g x σ H' fun σ2 H2 => tb { D with nx := N, ct := N, bk := D.nx } σ2 H2) := by
  refine ⟨fun i m σ H => m = n - i ∧ i ≤ n ∧ Pv i σ H, ⟨n, by simp, Nat.zero_le _, h0⟩, ?_⟩
  rintro i m σ H ⟨rfl, hi, p⟩
  by_cases hlt : i < n
  · refine .inr ⟨hlt, Pv (i + 1), fun σ' H' p' => ⟨n - (i + 1), by omega, rfl, hlt, p'⟩, fun x H' y => ?_⟩
    obtain ⟨e, y⟩ := y
    subst e y
    exact hs i σ _ hlt p
  · have e : i = n := by omega
    subst e
    exact .inl ⟨Nat.le_refl _, hd σ H p⟩
/-- while, by a word and a measure of the state -/
theorem while_by {c : TT} {tb : TS} {D : Ends} {σ : St} {H : Hp} (Pv : St → Hp → Prop) (μ : St → Hp → Nat) (h0 : Pv σ H)
    (hs : ∀ σ H, Pv σ H → c σ H fun b H1 => if b = true then tb { D with nx := fun σ' H' => Pv σ' H' ∧ μ σ' H' < μ σ H, ct := fun σ' H' => Pv σ' H' ∧ μ σ' H' < μ σ H, bk := D.nx } σ H1 else D.nx σ H1)
    (mono : ∀ σ H Q Q', (∀ b H1, Q b H1 → Q' b H1) → c σ H Q → c σ H Q') : tWhile c tb D σ H := by
  refine ⟨fun m σ H => m = μ σ H ∧ Pv σ H, ⟨_, rfl, h0⟩, ?_⟩
  rintro m σ H ⟨rfl, p⟩
  refine mono σ H _ _ (fun b H1 q => ?_) (hs σ H p)
  cases b with
  | true => exact ⟨_, fun σ' H' ⟨p', l⟩ => ⟨_, l, rfl, p'⟩, q⟩
  | false => exact q
end L2

namespace L2
open PySem PySem.Spec PyProof.Rows

abbrev R2 := V → V → Hp → VK → Prop
/-- a two-place operation on values: f is binaryOp op, inplaceOp op or compareOp op -/
def OpR (X : Cx) (f : Value → Value → Sem Value) (r : R2) : Prop :=
  ∀ (pins : List (Addr × Obj)) (s : Shared) (σ : St) (H : Hp) (x y : V) (v u : Value) (Q : VK), Inv X pins σ H s → RelV x v → RelV y u → r x y H Q →
    wpAny (model X.prog X.w) X.A (f v u) (EP X pins σ Q) X.xe s
/-- a one-place operation -/
def UnR (X : Cx) (f : Value → Sem Value) (r : V → Hp → VK → Prop) : Prop :=
  ∀ (pins : List (Addr × Obj)) (s : Shared) (σ : St) (H : Hp) (x : V) (v : Value) (Q : VK), Inv X pins σ H s → RelV x v → r x H Q →
    wpAny (model X.prog X.w) X.A (f v) (EP X pins σ Q) X.xe s
/-- a call of a value that is known (a builtin, a type) with values -/
def CallR (X : Cx) (f : Value) (r : List V → Hp → VK → Prop) : Prop :=
  ∀ (pins : List (Addr × Obj)) (s : Shared) (σ : St) (H : Hp) (xs : List V) (us : List Value) (Q : VK), Inv X pins σ H s → Vals xs us → r xs H Q →
    wpAny (model X.prog X.w) X.A (call f us) (EP X pins σ Q) X.xe s
/-- a value's truth -/
def TruR (X : Cx) (r : V → Hp → (Bool → Hp → Prop) → Prop) : Prop :=
  ∀ (pins : List (Addr × Obj)) (s : Shared) (σ : St) (H : Hp) (x : V) (v : Value) (Q : Bool → Hp → Prop), Inv X pins σ H s → RelV x v → r x H Q →
    wpAny (model X.prog X.w) X.A (truthy v) (TP X pins σ Q) X.xe s

def tOp (r : R2) (ta tb : TE) : TE := fun σ H Q => ta σ H fun x H1 => tb σ H1 fun y H2 => r x y H2 Q
def tUn (r : V → Hp → VK → Prop) (ta : TE) : TE := fun σ H Q => ta σ H fun x H1 => r x H1 Q
/-- ints in, under C, and a value out -/
def rI (C : Int → Int → Prop) (g : Int → Int → V) : R2 := fun x y H Q => ∃ i j, x = .int i ∧ y = .int j ∧ C i j ∧ Q (g i j) H
def rI0 (g : Int → Int → V) : R2 := fun x y H Q => ∃ i j, x = .int i ∧ y = .int j ∧ Q (g i j) H
def rU (g : Int → V) : V → Hp → VK → Prop := fun x H Q => ∃ i, x = .int i ∧ Q (g i) H

section
variable {X : Cx} {a b c : Expr} {ta tb tc : TE} {pos : Pos}

theorem binT (ha : PE X a ta) (hb : PE X b tb) {pins : List (Addr × Obj)} {s : Shared} {σ : St} {H : Hp} {R : V → V → Hp → Prop} (I : Inv X pins σ H s)
    (h : ta σ H fun x H1 => tb σ H1 fun y H2 => R x y H2) {Q : Value → Shared → Prop} {f : Value → Value → Sem Value}
    (hf : ∀ v u s2 x y H2, Inv X pins σ H2 s2 → RelV x v → RelV y u → R x y H2 → wpAny (model X.prog X.w) X.A (f v u) Q X.xe s2) :
    wpAny (model X.prog X.w) X.A (eval a X.env) (fun v s₁ => wpAny (model X.prog X.w) X.A (eval b X.env) (fun u s₂ => wpAny (model X.prog X.w) X.A (f v u) Q X.xe s₂) X.xe s₁) X.xe s := by
  refine thn (ha pins s σ H _ I h) fun v s1 ⟨x, H1, I1, r1, q1⟩ => ?_
  refine thn (hb pins s1 σ H1 _ I1 q1) fun u s2 ⟨y, H2, I2, r2, q2⟩ => ?_
  exact hf v u s2 x y H2 I2 r1 r2 q2

theorem pe_op {op : Operator} {r : R2} (ho : OpR X (binaryOp op) r) (ha : PE X a ta) (hb : PE X b tb) : PE X (.BinOp a op b pos) (tOp r ta tb) := by
  intro pins s σ H Q I h
  exact wpAny_BinOp (binT ha hb I h fun v u s2 x y H2 I2 rx ry q => ho pins s2 σ H2 x y v u Q I2 rx ry q)
theorem pe_un {op : UnaryOp} {r : V → Hp → VK → Prop} (ho : UnR X (unaryOp op) r) (ha : PE X a ta) : PE X (.UnaryOp op a pos) (tUn r ta) := by
  intro pins s σ H Q I h
  exact UnaryOp_ (thn (ha pins s σ H _ I h) fun v s1 ⟨x, H1, I1, r1, q1⟩ => ho pins s1 σ H1 x v Q I1 r1 q1)
/-- a op= e at a name: the name's slot i -/
theorem augR {op : Operator} {r : R2} (ho : OpR X (inplaceOp op) r) {pins : List (Addr × Obj)} {s : Shared} {σ : St} {H : Hp} {x y : V} {v u : Value} {Q : VK} (I : Inv X pins σ H s)
    (rx : RelV x v) (ry : RelV y u) (q : r x y H Q) : wpAny (model X.prog X.w) X.A (inplaceOp op v u) (EP X pins σ Q) X.xe s := ho pins s σ H x y v u Q I rx ry q

/-! ### ints -/
theorem opI {f : Value → Value → Sem Value} {C : Int → Int → Prop} {g : Int → Int → Int}
    (rule : ∀ (i j : Int) (t u : Tok) (s : Shared) (Q : Value → Shared → Prop) (E : Value → Shared → Prop), C i j → Q (.int (g i j) s.toks) { s with toks := s.toks + 1 } → wpAny (model X.prog X.w) X.A (f (.int i t) (.int j u)) Q E s) :
    OpR X f (rI C fun i j => .int (g i j)) := by
  intro pins s σ H x y v u Q I rx ry h
  obtain ⟨i, j, rfl, rfl, hc, q⟩ := h
  obtain ⟨t, rfl⟩ := rx
  obtain ⟨t', rfl⟩ := ry
  exact rule i j t t' s _ _ hc ⟨.int (g i j), H, I.tok _, ⟨_, rfl⟩, q⟩
theorem opI0 {f : Value → Value → Sem Value} {g : Int → Int → Int}
    (rule : ∀ (i j : Int) (t u : Tok) (s : Shared) (Q : Value → Shared → Prop) (E : Value → Shared → Prop), Q (.int (g i j) s.toks) { s with toks := s.toks + 1 } → wpAny (model X.prog X.w) X.A (f (.int i t) (.int j u)) Q E s) :
    OpR X f (rI0 fun i j => .int (g i j)) := by
  intro pins s σ H x y v u Q I rx ry h
  obtain ⟨i, j, rfl, rfl, q⟩ := h
  obtain ⟨t, rfl⟩ := rx
  obtain ⟨t', rfl⟩ := ry
  exact rule i j t t' s _ _ ⟨.int (g i j), H, I.tok _, ⟨_, rfl⟩, q⟩
theorem opB0 {f : Value → Value → Sem Value} {g : Int → Int → Bool}
    (rule : ∀ (i j : Int) (t u : Tok) (s : Shared) (Q : Value → Shared → Prop) (E : Value → Shared → Prop), Q (.bool (g i j)) s → wpAny (model X.prog X.w) X.A (f (.int i t) (.int j u)) Q E s) :
    OpR X f (rI0 fun i j => .bl (g i j)) := by
  intro pins s σ H x y v u Q I rx ry h
  obtain ⟨i, j, rfl, rfl, q⟩ := h
  obtain ⟨t, rfl⟩ := rx
  obtain ⟨t', rfl⟩ := ry
  exact rule i j t t' s _ _ ⟨.bl (g i j), H, I, rfl, q⟩

def CDiv (i j : Int) : Prop := 0 < j ∧ j < 1073741824
def CDivN (i j : Int) : Prop := j ≠ 0 ∧ j.natAbs < 1073741824
def CPow (i j : Int) : Prop := 0 ≤ j ∧ j ≤ 1000000 ∧ i.natAbs < 2 ^ 64
def CMul (i j : Int) : Prop := (-(2 ^ 64) < i ∧ i < 2 ^ 64) ∨ (-(2 ^ 64) < j ∧ j < 2 ^ 64)
theorem CMul.ok {i j : Int} (h : CMul i j) : IntMulOk i j := by
  rcases h with ⟨h1, h2⟩ | ⟨h1, h2⟩
  · exact .of_left (intBits_le_64 h1 h2)
  · exact .of_right (intBits_le_64 h1 h2)
theorem two_pow_nn (k : Nat) : (0 : Int) ≤ 2 ^ k := by
  rw [two_pow_cast]
  exact Int.natCast_nonneg _

theorem op_add : OpR X (binaryOp .Add) (rI0 fun i j => .int (i + j)) := opI0 fun _ _ _ _ _ _ _ q => add_int q
theorem op_sub : OpR X (binaryOp .Sub) (rI0 fun i j => .int (i - j)) := opI0 fun _ _ _ _ _ _ _ q => sub_int q
theorem op_mul : OpR X (binaryOp .Mult) (rI CMul fun i j => .int (i * j)) := opI fun _ _ _ _ _ _ _ hc q => mul_int q hc.ok
/-- // by a positive divisor -/
theorem op_fdiv : OpR X (binaryOp .FloorDiv) (rI CDiv fun i j => .int (i / j)) := opI fun i j _ _ _ _ _ hc q => by
  have h1 : (0 : Int) < j := hc.1
  have h2 : j < 1073741824 := hc.2
  exact floordiv_int (by omega) (by rw [Int.fdiv_eq_ediv_of_nonneg i (by omega)]; exact q) (.inl (PyProof.noPylong_small (by omega)))
theorem op_fdivN : OpR X (binaryOp .FloorDiv) (rI CDivN fun i j => .int (i.fdiv j)) := opI fun _ _ _ _ _ _ _ hc q => floordiv_int hc.1 q (.inl (PyProof.noPylong_small hc.2))
/-- % by a positive divisor of any size -/
theorem op_mod : OpR X (binaryOp .Mod) (rI (fun _ j => 0 < j) fun i j => .int (i % j)) := opI fun i j _ _ _ _ _ hc q => by
  have h1 : (0 : Int) < j := hc
  exact mod_int' (by omega) (by rw [Int.fmod_eq_emod_of_nonneg i (by omega)]; exact q)
theorem op_modN : OpR X (binaryOp .Mod) (rI (fun _ j => j ≠ 0) fun i j => .int (i.fmod j)) := opI fun _ _ _ _ _ _ _ hc q => mod_int' hc q
theorem op_pow : OpR X (binaryOp .Pow) (rI CPow fun i j => .int (i ^ j.toNat)) := opI fun _ _ _ _ _ _ _ hc q => pow_int_small hc.1 hc.2.1 hc.2.2 q
theorem op_shl : OpR X (binaryOp .LShift) (rI CPow fun i j => .int (i * 2 ^ j.toNat)) := opI fun _ _ _ _ _ _ _ hc q => lshift_int_small hc.1 hc.2.1 hc.2.2 q
theorem op_shr : OpR X (binaryOp .RShift) (rI (fun _ j => 0 ≤ j) fun i j => .int (i / 2 ^ j.toNat)) := opI fun i j _ _ _ _ _ hc q =>
  rshift_int hc (by rw [Int.fdiv_eq_ediv_of_nonneg i (two_pow_nn _)]; exact q)
theorem op_and : OpR X (binaryOp .BitAnd) (rI0 fun i j => .int (Builtin.bitAnd i j)) := opI0 fun _ _ _ _ _ _ _ q => and_int q
theorem op_or : OpR X (binaryOp .BitOr) (rI0 fun i j => .int (Builtin.bitOr i j)) := opI0 fun _ _ _ _ _ _ _ q => or_int q
theorem op_xor : OpR X (binaryOp .BitXor) (rI0 fun i j => .int (Builtin.bitXor i j)) := opI0 fun _ _ _ _ _ _ _ q => xor_int q

theorem iop_add : OpR X (inplaceOp .Add) (rI0 fun i j => .int (i + j)) := opI0 fun _ _ _ _ _ _ _ q => iadd_int q
theorem iop_sub : OpR X (inplaceOp .Sub) (rI0 fun i j => .int (i - j)) := opI0 fun _ _ _ _ _ _ _ q => isub_int q
theorem iop_mul : OpR X (inplaceOp .Mult) (rI CMul fun i j => .int (i * j)) := opI fun _ _ _ _ _ _ _ hc q => imul_int q hc.ok
theorem iop_fdiv : OpR X (inplaceOp .FloorDiv) (rI CDiv fun i j => .int (i / j)) := opI fun i j _ _ _ _ _ hc q => by
  have h1 : (0 : Int) < j := hc.1
  have h2 : j < 1073741824 := hc.2
  exact ifloordiv_int (by omega) (by rw [Int.fdiv_eq_ediv_of_nonneg i (by omega)]; exact q) (.inl (PyProof.noPylong_small (by omega)))
theorem iop_mod : OpR X (inplaceOp .Mod) (rI (fun _ j => 0 < j) fun i j => .int (i % j)) := opI fun i j _ _ _ _ _ hc q => by
  have h1 : (0 : Int) < j := hc
  exact imod_int (by omega) (by rw [Int.fmod_eq_emod_of_nonneg i (by omega)]; exact q)
theorem iop_shl : OpR X (inplaceOp .LShift) (rI CPow fun i j => .int (i * 2 ^ j.toNat)) := opI fun _ _ _ _ _ _ _ hc q => ilshift_int_small hc.1 hc.2.1 hc.2.2 q
theorem iop_shr : OpR X (inplaceOp .RShift) (rI (fun _ j => 0 ≤ j) fun i j => .int (i / 2 ^ j.toNat)) := opI fun i j _ _ _ _ _ hc q =>
  irshift_int hc (by rw [Int.fdiv_eq_ediv_of_nonneg i (two_pow_nn _)]; exact q)
theorem iop_and : OpR X (inplaceOp .BitAnd) (rI0 fun i j => .int (Builtin.bitAnd i j)) := opI0 fun _ _ _ _ _ _ _ q => iand_int q
theorem iop_or : OpR X (inplaceOp .BitOr) (rI0 fun i j => .int (Builtin.bitOr i j)) := opI0 fun _ _ _ _ _ _ _ q => ior_int q
theorem iop_xor : OpR X (inplaceOp .BitXor) (rI0 fun i j => .int (Builtin.bitXor i j)) := opI0 fun _ _ _ _ _ _ _ q => ixor_int q

theorem unI {f : Value → Sem Value} {g : Int → Int}
    (rule : ∀ (i : Int) (t : Tok) (s : Shared) (Q : Value → Shared → Prop) (E : Value → Shared → Prop), Q (.int (g i) s.toks) { s with toks := s.toks + 1 } → wpAny (model X.prog X.w) X.A (f (.int i t)) Q E s) :
    UnR X f (rU fun i => .int (g i)) := by
  intro pins s σ H x v Q I rx h
  obtain ⟨i, rfl, q⟩ := h
  obtain ⟨t, rfl⟩ := rx
  exact rule i t s _ _ ⟨.int (g i), H, I.tok _, ⟨_, rfl⟩, q⟩
theorem un_neg : UnR X (unaryOp .USub) (rU fun i => .int (-i)) := unI fun _ _ _ _ _ q => neg_int q
theorem un_inv : UnR X (unaryOp .Invert) (rU fun i => .int (Builtin.bitNot i)) := unI fun _ _ _ _ _ q => invert_int q

/-! ### bools among ints: n += (a < b) -/
theorem op_add_ib : OpR X (binaryOp .Add) (fun x y H Q => ∃ i k, x = .int i ∧ y = .bl k ∧ Q (.int (i + b2i k)) H) := by
  intro pins s σ H x y v u Q I rx ry h
  obtain ⟨i, k, rfl, rfl, q⟩ := h
  obtain ⟨t, rfl⟩ := rx
  cases ry
  exact add_int_bool ⟨.int (i + b2i k), H, I.tok _, ⟨_, rfl⟩, q⟩
end

/-! ### comparisons -/
/-- the scalars that == tells apart as data does -/
def scal : V → V → Bool
  | .non, .non => true | .non, .int _ => true | .int _, .non => true | .non, .bl _ => true | .bl _, .non => true | .non, .str _ => true | .str _, .non => true
  | .int _, .int _ => true | .bl _, .bl _ => true | .str _, .str _ => true | .byt _, .byt _ => true
  | .int _, .str _ => true | .str _, .int _ => true | .bl _, .str _ => true | .str _, .bl _ => true
  | _, _ => false
def rEq : R2 := fun x y H Q => scal x y = true ∧ Q (.bl (decide (x = y))) H
def rNe : R2 := fun x y H Q => scal x y = true ∧ Q (.bl (!decide (x = y))) H

theorem dec_int {i j : Int} : decide (V.int i = V.int j) = (i == j) := by
  rw [Bool.eq_iff_iff]
  simp
theorem dec_bl {i j : Bool} : decide (V.bl i = V.bl j) = (i == j) := by
  rw [Bool.eq_iff_iff]
  simp
theorem dec_str {i j : Str} : decide (V.str i = V.str j) = (i == j) := by
  rw [Bool.eq_iff_iff]
  simp
theorem dec_byt {i j : Array UInt8} : decide (V.byt i = V.byt j) = (i.toList == j.toList) := by
  rw [Bool.eq_iff_iff]
  cases i
  cases j
  simp

section
variable {X : Cx} {a b c : Expr} {ta tb tc : TE} {pos : Pos}
theorem fin_bl {pins : List (Addr × Obj)} {σ : St} {H : Hp} {s : Shared} {Q : VK} {k k' : Bool} (I : Inv X pins σ H s) (q : Q (.bl k) H) (e : k = k') : EP X pins σ Q (.bool k') s := by
  subst e
  exact ⟨.bl k, H, I, rfl, q⟩
theorem op_eq : OpR X (compareOp .Eq) rEq := by
  intro pins s σ H x y v u Q I rx ry h
  obtain ⟨hs, q⟩ := h
  cases x with
  | non =>
    cases rx
    cases y with
    | non => cases ry; exact PySem.EqNone.eq_none_none (fin_bl I q (by simp))
    | bl j => cases ry; exact PySem.EqNone.eq_none_bool (fin_bl I q (by simp))
    | int j => obtain ⟨t', rfl⟩ := ry; exact PySem.EqNone.eq_none_int (fin_bl I q (by simp))
    | str j => obtain ⟨t', rfl⟩ := ry; exact PySem.EqNone.eq_none_str (fin_bl I q (by simp))
    | _ => exact absurd (show false = true from hs) Bool.false_ne_true
  | bl i =>
    cases rx
    cases y with
    | non => cases ry; exact PySem.EqNone.eq_bool_none (fin_bl I q (by simp))
    | bl j => cases ry; exact eq_bool (fin_bl I q dec_bl)
    | str j => obtain ⟨t', rfl⟩ := ry; exact PySem.EqMixed.eq_bool_str (fin_bl I q (by simp))
    | _ => exact absurd (show false = true from hs) Bool.false_ne_true
  | int i =>
    obtain ⟨t, rfl⟩ := rx
    cases y with
    | non => cases ry; exact PySem.EqNone.eq_int_none (fin_bl I q (by simp))
    | int j => obtain ⟨t', rfl⟩ := ry; exact eq_int (fin_bl I q dec_int)
    | str j => obtain ⟨t', rfl⟩ := ry; exact PySem.EqMixed.eq_int_str (fin_bl I q (by simp))
    | _ => exact absurd (show false = true from hs) Bool.false_ne_true
  | str i =>
    obtain ⟨t, rfl⟩ := rx
    cases y with
    | non => cases ry; exact PySem.EqNone.eq_str_none (fin_bl I q (by simp))
    | bl j => cases ry; exact PySem.EqMixed.eq_str_bool (fin_bl I q (by simp))
    | int j => obtain ⟨t', rfl⟩ := ry; exact PySem.EqMixed.eq_str_int (fin_bl I q (by simp))
    | str j => obtain ⟨t', rfl⟩ := ry; exact eq_str (fin_bl I q dec_str)
    | _ => exact absurd (show false = true from hs) Bool.false_ne_true
  | byt i =>
    obtain ⟨t, rfl⟩ := rx
    cases y with
    | byt j => obtain ⟨t', rfl⟩ := ry; exact PySem.W.eq_bytes (fin_bl I q dec_byt)
    | _ => exact absurd (show false = true from hs) Bool.false_ne_true
  | _ => cases y <;> exact absurd (show false = true from hs) Bool.false_ne_true
theorem op_ne : OpR X (compareOp .NotEq) rNe := by
  intro pins s σ H x y v u Q I rx ry h
  obtain ⟨hs, q⟩ := h
  cases x with
  | non =>
    cases rx
    cases y with
    | non => cases ry; exact PySem.EqNone.ne_none_none (fin_bl I q (by simp))
    | bl j => cases ry; exact PySem.EqNone.ne_none_bool (fin_bl I q (by simp))
    | int j => obtain ⟨t', rfl⟩ := ry; exact PySem.EqNone.ne_none_int (fin_bl I q (by simp))
    | str j => obtain ⟨t', rfl⟩ := ry; exact PySem.EqNone.ne_none_str (fin_bl I q (by simp))
    | _ => exact absurd (show false = true from hs) Bool.false_ne_true
  | bl i =>
    cases rx
    cases y with
    | non => cases ry; exact PySem.EqNone.ne_bool_none (fin_bl I q (by simp))
    | bl j => cases ry; exact ne_bool (fin_bl I q (congrArg not dec_bl))
    | str j => obtain ⟨t', rfl⟩ := ry; exact PySem.EqMixed.ne_bool_str (fin_bl I q (by simp))
    | _ => exact absurd (show false = true from hs) Bool.false_ne_true
  | int i =>
    obtain ⟨t, rfl⟩ := rx
    cases y with
    | non => cases ry; exact PySem.EqNone.ne_int_none (fin_bl I q (by simp))
    | int j => obtain ⟨t', rfl⟩ := ry; exact ne_int (fin_bl I q (congrArg not dec_int))
    | str j => obtain ⟨t', rfl⟩ := ry; exact PySem.EqMixed.ne_int_str (fin_bl I q (by simp))
    | _ => exact absurd (show false = true from hs) Bool.false_ne_true
  | str i =>
    obtain ⟨t, rfl⟩ := rx
    cases y with
    | non => cases ry; exact PySem.EqNone.ne_str_none (fin_bl I q (by simp))
    | bl j => cases ry; exact PySem.EqMixed.ne_str_bool (fin_bl I q (by simp))
    | int j => obtain ⟨t', rfl⟩ := ry; exact PySem.EqMixed.ne_str_int (fin_bl I q (by simp))
    | str j => obtain ⟨t', rfl⟩ := ry; exact ne_str (fin_bl I q (congrArg not dec_str))
    | _ => exact absurd (show false = true from hs) Bool.false_ne_true
  | byt i =>
    obtain ⟨t, rfl⟩ := rx
    cases y with
    | byt j => obtain ⟨t', rfl⟩ := ry; exact PySem.W.ne_bytes (fin_bl I q (congrArg not dec_byt))
    | _ => exact absurd (show false = true from hs) Bool.false_ne_true
  | _ => cases y <;> exact absurd (show false = true from hs) Bool.false_ne_true

theorem op_lt : OpR X (compareOp .Lt) (rI0 fun i j => .bl (decide (i < j))) := opB0 fun _ _ _ _ _ _ _ q => lt_int q
theorem op_le : OpR X (compareOp .LtE) (rI0 fun i j => .bl (decide (i ≤ j))) := opB0 fun _ _ _ _ _ _ _ q => le_int q
theorem op_gt : OpR X (compareOp .Gt) (rI0 fun i j => .bl (decide (j < i))) := opB0 fun _ _ _ _ _ _ _ q => gt_int q
theorem op_ge : OpR X (compareOp .GtE) (rI0 fun i j => .bl (decide (j ≤ i))) := opB0 fun _ _ _ _ _ _ _ q => ge_int q
theorem op_lt_str : OpR X (compareOp .Lt) (fun x y H Q => ∃ i j, x = .str i ∧ y = .str j ∧ Q (.bl (decide (i.cps.toList < j.cps.toList))) H) := by
  intro pins s σ H x y v u Q I rx ry h
  obtain ⟨i, j, rfl, rfl, q⟩ := h
  obtain ⟨t, rfl⟩ := rx
  obtain ⟨t', rfl⟩ := ry
  exact lt_str (fin_bl I q rfl)
/-- the one string within the other -/
theorem op_in_str : OpR X (compareOp .In) (fun x y H Q => ∃ i j, x = .str i ∧ y = .str j ∧ Q (.bl (!(Builtin.Str.occurrences j i 0 j.length 1).isEmpty)) H) := by
  intro pins s σ H x y v u Q I rx ry h
  obtain ⟨i, j, rfl, rfl, q⟩ := h
  obtain ⟨t, rfl⟩ := rx
  obtain ⟨t', rfl⟩ := ry
  exact in_str (fin_bl I q rfl)

/-- is None, is not None: the right side a value none -/
theorem op_isN : OpR X (compareOp .Is) (fun x y H Q => y = .non ∧ Q (.bl (decide (x = .non))) H) := by
  intro pins s σ H x y v u Q I rx ry h
  obtain ⟨rfl, q⟩ := h
  cases ry
  refine is_none_gen (fin_bl I q ?_)
  cases x <;> first
    | (cases rx; rfl)
    | (obtain ⟨t, rfl⟩ := rx; rfl)
theorem op_notN : OpR X (compareOp .IsNot) (fun x y H Q => y = .non ∧ Q (.bl (!decide (x = .non))) H) := by
  intro pins s σ H x y v u Q I rx ry h
  obtain ⟨rfl, q⟩ := h
  cases ry
  refine isnot_none_gen (fin_bl I q ?_)
  cases x <;> first
    | (cases rx; rfl)
    | (obtain ⟨t, rfl⟩ := rx; rfl)

theorem op_notin_str : OpR X (compareOp .NotIn) (fun x y H Q => ∃ i j, x = .str i ∧ y = .str j ∧ Q (.bl (!(!(Builtin.Str.occurrences j i 0 j.length 1).isEmpty))) H) := by
  intro pins s σ H x y v u Q I rx ry h
  obtain ⟨i, j, rfl, rfl, q⟩ := h
  obtain ⟨t, rfl⟩ := rx
  obtain ⟨t', rfl⟩ := ry
  exact notIn_str (fin_bl I q rfl)
/-- is, is not of two objects that are tracked lists or instances -/
def isObj : HO → Bool
  | .lst _ => true
  | .ins _ _ _ => true
  | _ => false
theorem obj_there {pins : List (Addr × Obj)} {s : Shared} {σ : St} {H : Hp} {a : Addr} {o : HO} (I : Inv X pins σ H s) (h : H a = some o) (p : isObj o = true) : ∃ ob, s.heap.get? a = some ob ∧ ob.cls ≠ .type "tuple" := by
  cases o with
  | lst xs =>
    obtain ⟨_, its, n, _, e⟩ : xs.length ≤ sizeLine ∧ ∃ (its : List Value) (n : Nat), Vals xs its ∧ s.heap.get? a = some { cls := .type "list", data := .seq its.toArray n } := I.hok a _ h
    exact ⟨_, e, (by show Value.type "list" ≠ .type "tuple"; decide +kernel)⟩
  | ins C dx fs =>
    have x := I.hok a _ h
    obtain ⟨_, _, _, e, _⟩ := x
    exact ⟨_, e, (by show Value.ref C ≠ .type "tuple"; exact fun z => by cases z)⟩
  | _ => exact absurd (show false = true from p) Bool.false_ne_true
theorem op_is_ref : OpR X (compareOp .Is) (fun x y H Q => ∃ a b oa ob, x = .ref a ∧ y = .ref b ∧ H a = some oa ∧ isObj oa = true ∧ H b = some ob ∧ isObj ob = true ∧ Q (.bl (decide (a = b))) H) := by
  intro pins s σ H x y v u Q I rx ry h
  obtain ⟨a, b, oa, ob, rfl, rfl, ha, pa, hb, pb, q⟩ := h
  cases rx
  cases ry
  obtain ⟨o1, e1, n1⟩ := obj_there I ha pa
  obtain ⟨o2, e2, _⟩ := obj_there I hb pb
  by_cases z : a = b
  · subst z
    exact wpAny_is_ref_self (fin_bl I q (by simp))
  · exact wpAny_is_ref_other z e1 e2 n1 (fin_bl I q (by simp [z]))
theorem op_isnot_ref : OpR X (compareOp .IsNot) (fun x y H Q => ∃ a b oa ob, x = .ref a ∧ y = .ref b ∧ H a = some oa ∧ isObj oa = true ∧ H b = some ob ∧ isObj ob = true ∧ Q (.bl (!decide (a = b))) H) := by
  intro pins s σ H x y v u Q I rx ry h
  obtain ⟨a, b, oa, ob, rfl, rfl, ha, pa, hb, pb, q⟩ := h
  cases rx
  cases ry
  obtain ⟨o1, e1, n1⟩ := obj_there I ha pa
  obtain ⟨o2, e2, _⟩ := obj_there I hb pb
  by_cases z : a = b
  · subst z
    exact wpAny_isNot_ref_self (fin_bl I q (by simp))
  · exact wpAny_isNot_ref_other z e1 e2 n1 (fin_bl I q (by simp [z]))

/-- two rules for one operation: by cases -/
theorem OpR.or {f : Value → Value → Sem Value} {r r' : R2} (h : OpR X f r) (h' : OpR X f r') : OpR X f (fun x y H Q => r x y H Q ∨ r' x y H Q) := by
  intro pins s σ H x y v u Q I rx ry q
  rcases q with q | q
  · exact h pins s σ H x y v u Q I rx ry q
  · exact h' pins s σ H x y v u Q I rx ry q

theorem nomark (b : Expr) {op : CmpOp} (h : op ≠ .In := by decide) (h2 : op ≠ .NotIn := by decide) : behindInMarks op b = false := by
  have e1 : (op == CmpOp.In) = false := by cases op <;> first | rfl | exact absurd rfl h
  have e2 : (op == CmpOp.NotIn) = false := by cases op <;> first | rfl | exact absurd rfl h2
  cases b <;> simp [behindInMarks, e1, e2]
/-- a comparison as a value; hm: nomark b, or (for in, not in) by with_unfolding_all rfl -/
theorem pe_cmpR {op : CmpOp} {r : R2} (ho : OpR X (compareOp op) r) (ha : PE X a ta) (hb : PE X b tb) (hm : behindInMarks op b = false) : PE X (.Compare a [op] [b] pos) (tOp r ta tb) := by
  intro pins s σ H Q I h
  exact wpAny_Compare1 (binT ha hb I h fun v u s2 x y H2 I2 rx ry q => ho pins s2 σ H2 x y v u Q I2 rx ry q) hm
/-- a reading of a value as a test -/
def tTest (t : TE) : TT := fun σ H Q => t σ H fun x H' => ∃ k, x = .bl k ∧ Q k H'
theorem pt_cmpR {op : CmpOp} {r : R2} (ho : OpR X (compareOp op) r) (ha : PE X a ta) (hb : PE X b tb) (hm : behindInMarks op b = false) : PT X (.Compare a [op] [b] pos) (tTest (tOp r ta tb)) := by
  intro pins s σ H Q I h
  refine wpAny_isTrue_Compare1 (thn (ha pins s σ H _ I h) fun v s1 ⟨x, H1, I1, r1, q1⟩ => thn (hb pins s1 σ H1 _ I1 q1) fun u s2 ⟨y, H2, I2, r2, q2⟩ =>
    thn (ho pins s2 σ H2 x y v u _ I2 r1 r2 q2) fun c s3 ⟨z, H3, I3, r3, k, e, q3⟩ => ?_) hm
  subst e
  cases r3
  exact wpAny_truthy_bool ⟨H3, I3, q3⟩
/-- a op1 b op2 c -/
def tChain (r r' : R2) (ta tb tc : TE) : TE := fun σ H Q => ta σ H fun x H1 => tb σ H1 fun y H2 => r x y H2 fun z H3 => ∃ k, z = .bl k ∧
  (if k = true then tc σ H3 fun w' H4 => r' y w' H4 Q else Q (.bl false) H3)
theorem pe_chain {op op' : CmpOp} {r r' : R2} (ho : OpR X (compareOp op) r) (ho' : OpR X (compareOp op') r') (ha : PE X a ta) (hb : PE X b tb) (hc : PE X c tc)
    (hm : lastMarks [op, op'] [b, c] = false := by with_unfolding_all rfl) : PE X (.Compare a [op, op'] [b, c] pos) (tChain r r' ta tb tc) := by
  intro pins s σ H Q I h
  refine Compare_chain (thn (ha pins s σ H _ I h) fun v s1 ⟨x, H1, I1, r1, q1⟩ => chain_link (thn (hb pins s1 σ H1 _ I1 q1) fun u s2 ⟨y, H2, I2, r2, q2⟩ =>
    thn (ho pins s2 σ H2 x y v u _ I2 r1 r2 q2) fun d s3 ⟨z, H3, I3, r3, k, e, q3⟩ => ?_)) hm
  subst e
  cases r3
  refine wpAny_truthy_bool ?_
  cases k with
  | false => exact ite_ff ⟨.bl false, H3, I3, rfl, q3⟩
  | true => exact ite_tt (chain_last (thn (hc pins s3 σ H3 _ I3 q3) fun w' s4 ⟨z', H4, I4, r4, q4⟩ => ho' pins s4 σ H4 y z' u w' Q I4 r2 r4 q4))
theorem pt_chain {op op' : CmpOp} {r r' : R2} (ho : OpR X (compareOp op) r) (ho' : OpR X (compareOp op') r') (ha : PE X a ta) (hb : PE X b tb) (hc : PE X c tc)
    (hm : lastMarks [op, op'] [b, c] = false := by with_unfolding_all rfl) : PT X (.Compare a [op, op'] [b, c] pos) (tTest (tChain r r' ta tb tc)) := by
  intro pins s σ H Q I h
  refine isTrue_chain (thn (ha pins s σ H _ I h) fun v s1 ⟨x, H1, I1, r1, q1⟩ => test_link (thn (hb pins s1 σ H1 _ I1 q1) fun u s2 ⟨y, H2, I2, r2, q2⟩ =>
    thn (ho pins s2 σ H2 x y v u _ I2 r1 r2 q2) fun d s3 ⟨z, H3, I3, r3, k, e, q3⟩ => ?_)) hm
  subst e
  cases r3
  refine wpAny_truthy_bool ?_
  cases k with
  | false =>
    obtain ⟨k', e', q'⟩ := q3
    cases e'
    exact ite_ff ⟨H3, I3, q'⟩
  | true =>
    refine ite_tt (test_last (thn (hc pins s3 σ H3 _ I3 q3) fun w' s4 ⟨z', H4, I4, r4, q4⟩ => thn (ho' pins s4 σ H4 y z' u w' _ I4 r2 r4 q4) fun d' s5 ⟨z2, H5, I5, r5, k2, e2, q5⟩ => ?_))
    subst e2
    cases r5
    exact wpAny_truthy_bool ⟨H5, I5, q5⟩

/-! ### truth -/
/-- a value's truth by the abstract heap -/
def TruV (K : PySem.W.Frag) (x : V) (H : Hp) (k : Bool) : Prop :=
  match x with
  | .non => k = false
  | .bl b => k = b
  | .int i => k = (i != 0)
  | .str y => y.length ≤ sizeLine ∧ k = ((y.length : Int) != 0)
  | .byt y => y.size ≤ sizeLine ∧ k = ((y.size : Int) != 0)
  | .ref p => (∃ xs, SqL K H p xs ∧ k = !xs.isEmpty) ∨ (∃ xs, SqT K H p xs ∧ k = !xs.isEmpty) ∨ ∃ kvs, H p = some (.dK kvs) ∧ k = !kvs.isEmpty
  | _ => False
theorem isEmpty_kv {κ : Type} {kvs : List (κ × V)} {vs : List (κ × Value)} (r : KV kvs vs) : (!vs.isEmpty) = !kvs.isEmpty := by
  cases r <;> rfl
theorem isEmpty_of {xs : List V} {its : List Value} (r : Vals xs its) : (!its.toArray.isEmpty) = !xs.isEmpty := by
  cases r <;> simp
theorem line63 : (sizeLine : Nat) < 2 ^ 63 := by rw [sizeLine_eq]; decide
theorem tru_ok : TruR X (fun x H Q => ∃ k, TruV X.K x H k ∧ Q k H) := by
  intro pins s σ H x v Q I rx h
  obtain ⟨k, e, q⟩ := h
  have hl := line63
  have hs : sizeLine = 16777216 := sizeLine_eq
  cases x with
  | non =>
    cases rx
    have e' : k = false := e
    subst e'
    exact truthy_none ⟨H, I, q⟩
  | bl b =>
    cases rx
    have e' : k = b := e
    subst e'
    exact wpAny_truthy_bool ⟨H, I, q⟩
  | int i =>
    obtain ⟨t, rfl⟩ := rx
    have e' : k = (i != 0) := e
    subst e'
    exact PySem.P.truthy_int ⟨H, I, q⟩
  | str y =>
    obtain ⟨t, rfl⟩ := rx
    obtain ⟨hy, e'⟩ : y.length ≤ sizeLine ∧ k = ((y.length : Int) != 0) := e
    subst e'
    exact PySem.P.truthy_str (by omega) ⟨H, I.tok _, q⟩
  | byt y =>
    obtain ⟨t, rfl⟩ := rx
    obtain ⟨hy, e'⟩ : y.size ≤ sizeLine ∧ k = ((y.size : Int) != 0) := e
    subst e'
    exact PySem.W.truthy_bytes (by omega) ⟨H, I.tok _, q⟩
  | ref p =>
    cases rx
    have e' : (∃ xs, SqL X.K H p xs ∧ k = !xs.isEmpty) ∨ (∃ xs, SqT X.K H p xs ∧ k = !xs.isEmpty) ∨ ∃ kvs, H p = some (.dK kvs) ∧ k = !kvs.isEmpty := e
    rcases e' with ⟨xs, hx, e'⟩ | ⟨xs, hx, e'⟩ | ⟨kvs, hx, e'⟩
    · subst e'
      obtain ⟨its, r, pl, hz⟩ := I.list hx
      have hlen := r.length
      exact wpAny_truthy_list pl.isList (by simp only [List.size_toArray]; omega) ⟨H, I.tok _, by rw [isEmpty_of r]; exact q⟩
    · subst e'
      obtain ⟨its, r, pl, hz⟩ := I.tuple hx
      have hlen := r.length
      exact truthy_tuple pl (by simp only [List.size_toArray]; omega) ⟨H, I.tok _, by rw [isEmpty_of r]; exact q⟩
    · subst e'
      obtain ⟨hz, hS, vs, r, m⟩ : kvs.length ≤ sizeLine ∧ (p == sysModules) = false ∧ ∃ vs, KV kvs vs ∧ s.heap.DictOf (mixKind X.prog X.w) p vs := I.hok p _ hx
      have hlen : kvs.length = vs.length := Paired.length r
      exact wpAny_truthy_dict hS m (by omega) ⟨H, I.tok _, by rw [isEmpty_kv r]; exact q⟩
  | _ => exact (show False from e).elim
/-- any expression whose test is its value's truth (a name, a call, a subscript, a field ..: he by fun _ => rfl) -/
theorem pt_truth (ha : PE X a ta) (he : ∀ whole, isTrue a X.env whole = (do let v ← whole; standAt a.pos; holding [v] (truthy v))) :
    PT X a (fun σ H Q => ta σ H fun x H' => ∃ k, TruV X.K x H' k ∧ Q k H') := by
  intro pins s σ H Q I h
  exact isTrue_plain (thn (ha pins s σ H _ I h) fun v s1 ⟨x, H1, I1, r1, q1⟩ => tru_ok pins s1 σ H1 x v Q I1 r1 q1) (he _)

/-! ### strs and bytes -/
theorem pe_byt {x : List UInt8} {k : Nat} : PE X (.Constant (.bytes x) k pos) (fun _ H Q => Q (.byt x.toArray) H) := fun _ _ _ H _ I h => PySem.W.Constant_bytes ⟨.byt x.toArray, H, I.tok _, ⟨_, rfl⟩, h⟩
theorem op_add_str : OpR X (binaryOp .Add) (fun x y H Q => ∃ i j, x = .str i ∧ y = .str j ∧ i.length + j.length ≤ sizeLine ∧ Q (.str (i ++ j)) H) := by
  intro pins s σ H x y v u Q I rx ry h
  obtain ⟨i, j, rfl, rfl, hz, q⟩ := h
  obtain ⟨t, rfl⟩ := rx
  obtain ⟨t', rfl⟩ := ry
  exact add_str (fun t' tk => ⟨.str (i ++ j), H, I.tok _, ⟨_, rfl⟩, q⟩) hz
theorem iop_add_str : OpR X (inplaceOp .Add) (fun x y H Q => ∃ i j, x = .str i ∧ y = .str j ∧ i.length + j.length ≤ sizeLine ∧ Q (.str (i ++ j)) H) := by
  intro pins s σ H x y v u Q I rx ry h
  obtain ⟨i, j, rfl, rfl, hz, q⟩ := h
  obtain ⟨t, rfl⟩ := rx
  obtain ⟨t', rfl⟩ := ry
  exact iadd_str (fun t' tk => ⟨.str (i ++ j), H, I.tok _, ⟨_, rfl⟩, q⟩) hz
theorem op_add_byt : OpR X (binaryOp .Add) (fun x y H Q => ∃ i j, x = .byt i ∧ y = .byt j ∧ i.size + j.size ≤ 16777216 ∧ Q (.byt (i ++ j)) H) := by
  intro pins s σ H x y v u Q I rx ry h
  obtain ⟨i, j, rfl, rfl, hz, q⟩ := h
  obtain ⟨t, rfl⟩ := rx
  obtain ⟨t', rfl⟩ := ry
  exact PySem.W.KBy.add_bytes hz (fun t' tk => ⟨.byt (i ++ j), H, I.tok _, ⟨_, rfl⟩, q⟩)

def PlainIxT (b : Expr) : Prop := ∀ o i, subscripted b false o i = operate [o, i] (getItem o i)
/-- s[i], 0 ≤ i < len -/
theorem pe_item_str (ha : PE X a ta) (hb : PE X b tb) (hs : PlainIxT b) :
    PE X (.Subscript a b pos) (tOp (fun x y H Q => ∃ z i c, x = .str z ∧ y = .int i ∧ 0 ≤ i ∧ i < 2 ^ 63 ∧ i < z.length ∧ z.cps[i.toNat]? = some c ∧ Q (.str ⟨#[c]⟩) H) ta tb) := by
  intro pins s σ H Q I h
  refine Subscript_ (binT ha hb I h fun v u s2 x y H2 I2 rx ry q => ?_)
  obtain ⟨z, i, c, rfl, rfl, h0, h63, h1, hc, q⟩ := q
  obtain ⟨t, rfl⟩ := rx
  obtain ⟨t', rfl⟩ := ry
  have e : seqIndex? i z.length = some i.toNat := PySem.StrLaws.seqIndex_nonneg h0 h1
  exact tail_any (typeIs_str s2 z t) slot_str_getitem.lookup (getItem_str (c := c) (by
    have e1 : decide (i < -(2 ^ 63 : Int)) = false := decide_eq_false (by omega)
    have e2 : decide (i ≥ 2 ^ 63) = false := decide_eq_false (by omega)
    rw [e1, e2] <;> rfl) (by rw [e]; exact hc) ⟨.str ⟨#[c]⟩, H2, I2.tok _, ⟨_, rfl⟩, q⟩) (hs _ _)
/-- b[i], 0 ≤ i < len -/
theorem pe_item_byt (ha : PE X a ta) (hb : PE X b tb) (hs : PlainIxT b) :
    PE X (.Subscript a b pos) (tOp (fun x y H Q => ∃ (z : List UInt8) (i : Int), x = .byt z.toArray ∧ y = .int i ∧ z.length ≤ sizeLine ∧ 0 ≤ i ∧ i < z.length ∧ Q (.int ((z.getD i.toNat 0).toNat : Nat)) H) ta tb) := by
  intro pins s σ H Q I h
  refine Subscript_ (binT ha hb I h fun v u s2 x y H2 I2 rx ry q => ?_)
  obtain ⟨z, i, rfl, rfl, hz, h0, h1, q⟩ := q
  obtain ⟨t, rfl⟩ := rx
  obtain ⟨t', rfl⟩ := ry
  have hl : sizeLine = 16777216 := sizeLine_eq
  exact tail_any (PySem.W.typeIs_bytes s2 z.toArray t) PySem.W.FB.slot_bytes_getitem.lookup (PySem.W.getItem_bytes (by omega) h0 h1 ⟨.int ((z.getD i.toNat 0).toNat : Nat), H2, I2.tok _, ⟨_, rfl⟩, q⟩) (hs _ _)

/-! ### scalar builtins, by CallR -/
theorem vals1 {x : V} {us : List Value} (r : Vals [x] us) : ∃ u, us = [u] ∧ RelV x u := by
  cases r with
  | cons r1 r2 => cases r2; exact ⟨_, rfl, r1⟩
theorem vals2 {x y : V} {us : List Value} (r : Vals [x, y] us) : ∃ u w', us = [u, w'] ∧ RelV x u ∧ RelV y w' := by
  cases r with
  | cons r1 r2 =>
    cases r2 with
    | cons r3 r4 => cases r4; exact ⟨_, _, rfl, r1, r3⟩
theorem call_abs : CallR X (.builtin "abs") (fun xs H Q => ∃ i, xs = [.int i] ∧ Q (.int (if i < 0 then -i else i)) H) := by
  intro pins s σ H xs us Q I r h
  obtain ⟨i, rfl, q⟩ := h
  obtain ⟨u, rfl, t, rfl⟩ := vals1 r
  exact call_abs_int fun u tk => ⟨.int (if i < 0 then -i else i), H, I.tok _, ⟨_, rfl⟩, q⟩
theorem call_max2 (hc : X.calm = true) : CallR X (.builtin "max") (fun xs H Q => ∃ i j, xs = [.int i, .int j] ∧ Q (.int (if j > i then j else i)) H) := by
  intro pins s σ H xs us Q I r h
  obtain ⟨i, j, rfl, q⟩ := h
  obtain ⟨u, w', rfl, ⟨t, rfl⟩, ⟨t', rfl⟩⟩ := vals2 r
  refine max_two_ints (I.ok.hd hc) fun h' tk k => ⟨_, H, I.kept k, ?_, q⟩
  by_cases hj : j > i
  · rw [if_pos hj, if_pos hj]; exact ⟨_, rfl⟩
  · rw [if_neg hj, if_neg hj]; exact ⟨_, rfl⟩
theorem call_min2 (hc : X.calm = true) : CallR X (.builtin "min") (fun xs H Q => ∃ i j, xs = [.int i, .int j] ∧ Q (.int (if j < i then j else i)) H) := by
  intro pins s σ H xs us Q I r h
  obtain ⟨i, j, rfl, q⟩ := h
  obtain ⟨u, w', rfl, ⟨t, rfl⟩, ⟨t', rfl⟩⟩ := vals2 r
  refine min_two_ints (I.ok.hd hc) fun h' tk k => ⟨_, H, I.kept k, ?_, q⟩
  by_cases hj : j < i
  · rw [if_pos hj, if_pos hj]; exact ⟨_, rfl⟩
  · rw [if_neg hj, if_neg hj]; exact ⟨_, rfl⟩
theorem call_int1 : CallR X (.type "int") (fun xs H Q => (∃ i, xs = [.int i] ∧ Q (.int i) H) ∨ ∃ k, xs = [.bl k] ∧ Q (.int (if k then 1 else 0)) H) := by
  intro pins s σ H xs us Q I r h
  rcases h with ⟨i, rfl, q⟩ | ⟨k, rfl, q⟩
  · obtain ⟨u, rfl, t, rfl⟩ := vals1 r
    exact call_int_int ⟨.int i, H, I, ⟨_, rfl⟩, q⟩
  · obtain ⟨u, rfl, r1⟩ := vals1 r
    cases r1
    exact call_int_bool ⟨.int (if k then 1 else 0), H, I.tok _, ⟨_, rfl⟩, q⟩
theorem call_bool1 : CallR X (.type "bool") (fun xs H Q => (∃ i, xs = [.int i] ∧ Q (.bl (i != 0)) H) ∨ ∃ k, xs = [.bl k] ∧ Q (.bl k) H) := by
  intro pins s σ H xs us Q I r h
  rcases h with ⟨i, rfl, q⟩ | ⟨k, rfl, q⟩
  · obtain ⟨u, rfl, t, rfl⟩ := vals1 r
    exact call_bool_int ⟨.bl (i != 0), H, I, rfl, q⟩
  · obtain ⟨u, rfl, r1⟩ := vals1 r
    cases r1
    exact call_bool_bool ⟨.bl k, H, I, rfl, q⟩
theorem call_str_int : CallR X (.type "str") (fun xs H Q => ∃ i, xs = [.int i] ∧ i.natAbs.log2 < 1920 ∧ Q (.str (toString i)) H) := by
  intro pins s σ H xs us Q I r h
  obtain ⟨i, rfl, hz, q⟩ := h
  obtain ⟨u, rfl, t, rfl⟩ := vals1 r
  exact PySem.P.str_of_int hz ⟨.str _, H, I.tok _, ⟨_, rfl⟩, q⟩
theorem call_ord : CallR X (.builtin "ord") (fun xs H Q => ∃ x, xs = [.str x] ∧ x.length = 1 ∧ Q (.int (x.cps.getD 0 0 : Nat)) H) := by
  intro pins s σ H xs us Q I r h
  obtain ⟨x, rfl, hz, q⟩ := h
  obtain ⟨u, rfl, t, rfl⟩ := vals1 r
  exact ord_of_one hz ⟨.int _, H, I.tok _, ⟨_, rfl⟩, q⟩
theorem call_chr : CallR X (.builtin "chr") (fun xs H Q => ∃ i, xs = [.int i] ∧ 0 ≤ i ∧ i ≤ 1114111 ∧ Q (.str ⟨#[i.toNat]⟩) H) := by
  intro pins s σ H xs us Q I r h
  obtain ⟨i, rfl, h0, h1, q⟩ := h
  obtain ⟨u, rfl, t, rfl⟩ := vals1 r
  exact chr_of_range h0 h1 ⟨.str _, H, I.tok _, ⟨_, rfl⟩, q⟩
/-- len of a str, a bytes, a list, a tuple -/
def LenV (K : PySem.W.Frag) (x : V) (H : Hp) (n : Nat) : Prop :=
  match x with
  | .str y => y.length ≤ sizeLine ∧ n = y.length
  | .byt y => y.size ≤ sizeLine ∧ n = y.size
  | .ref p => (∃ xs, SqL K H p xs ∧ n = xs.length) ∨ ∃ xs, SqT K H p xs ∧ n = xs.length
  | _ => False
theorem call_len : CallR X (.builtin "len") (fun xs H Q => ∃ x n, xs = [x] ∧ LenV X.K x H n ∧ Q (.int n) H) := by
  intro pins s σ H xs us Q I r h
  obtain ⟨x, n, rfl, e, q⟩ := h
  obtain ⟨u, rfl, rx⟩ := vals1 r
  have hl := line63
  have hs : sizeLine = 16777216 := sizeLine_eq
  cases x with
  | str y =>
    obtain ⟨t, rfl⟩ := rx
    obtain ⟨hy, e'⟩ : y.length ≤ sizeLine ∧ n = y.length := e
    subst e'
    exact len_str (by omega) ⟨.int _, H, I.tok _, ⟨_, rfl⟩, q⟩
  | byt y =>
    obtain ⟨t, rfl⟩ := rx
    obtain ⟨hy, e'⟩ : y.size ≤ sizeLine ∧ n = y.size := e
    subst e'
    exact PySem.W.len_bytes (by omega) ⟨.int _, H, I.tok _, ⟨_, rfl⟩, q⟩
  | ref p =>
    cases rx
    have e' : (∃ xs, SqL X.K H p xs ∧ n = xs.length) ∨ ∃ xs, SqT X.K H p xs ∧ n = xs.length := e
    rcases e' with ⟨xs, hx, e'⟩ | ⟨xs, hx, e'⟩
    · subst e'
      obtain ⟨its, r', pl, hz⟩ := I.list hx
      have hlen := r'.length
      exact Calls.call_len_list pl.isList (by simp only [List.size_toArray]; omega) ⟨.int xs.length, H, I.tok _, ⟨_, by simp only [List.size_toArray]; rw [hlen]⟩, q⟩
    · subst e'
      obtain ⟨its, r', pl, hz⟩ := I.tuple hx
      have hlen := r'.length
      exact len_tuple pl (by simp only [List.size_toArray]; omega) ⟨.int xs.length, H, I.tok _, ⟨_, by simp only [List.size_toArray]; rw [hlen]⟩, q⟩
  | _ => exact (show False from e).elim
/-- divmod: a new tuple -/
theorem call_divmod : CallR X (.builtin "divmod") (fun xs H Q => ∃ i j, xs = [.int i, .int j] ∧ CDiv i j ∧ ∀ p, H p = none → Q (.ref p) (upd H p (.tup [.int (i / j), .int (i % j)]))) := by
  intro pins s σ H xs us Q I r h
  obtain ⟨i, j, rfl, ⟨h1, h2⟩, q⟩ := h
  obtain ⟨u, w', rfl, ⟨t, rfl⟩, ⟨t', rfl⟩⟩ := vals2 r
  refine divmod_int (by omega) ?_ (.inl (PyProof.noPylong_small (by omega)))
  rw [Int.fdiv_eq_ediv_of_nonneg i (by omega), Int.fmod_eq_emod_of_nonneg i (by omega)]
  have hn : H s.heap.objs.size = none := I.hok.fresh (Nat.le_refl _)
  refine ⟨.ref s.heap.objs.size, _, ?_, rfl, q _ hn⟩
  refine I.laid (fun b o e => Heap.get?_push_of_some _ e) (Nat.le_refl _) ⟨by simp only [List.length_cons, List.length_nil]; rw [sizeLine_eq]; decide, [.int (i / j) s.toks, .int (i % j) (s.toks + 1)], .cons ⟨_, rfl⟩ (.cons ⟨_, rfl⟩ .nil), ?_⟩
  exact ⟨_, Heap.get?_push_size s.heap rfl, rfl, 0, rfl⟩
end
end L2

namespace L2
open PySem PySem.Spec PyProof.Rows

/-! ### an instance, its attributes a map -/
structure ObjM (h : Heap) (x dx C : Addr) (mA : Str → Option Value) : Prop where
  obj : h.get? x = some (PySem.W.instObj C dx)
  ns : h.Ns1 dx mA
  ne : dx ≠ x

theorem lookIn_ns {h : Heap} {dx : Addr} {mA : Str → Option Value} (n : h.Ns1 dx mA) : ∃ od, h.get? dx = some od ∧ ∀ name, PySem.W.lookIn name od = some (mA name) := by
  obtain ⟨o, es, ep, ho, hd, hk, _, hm⟩ := n
  refine ⟨o, ho, fun name => ?_⟩
  have e := hm name
  unfold nsFind findBy at e
  rw [← Array.find?_toList] at e
  unfold PySem.W.lookIn
  rw [hd]
  dsimp only
  split
  · rename_i y q
    rw [q] at e
    exact congrArg some e
  · rename_i q
    rw [q] at e
    have a : es.toList.any (·.refKey) = false := by
      rw [List.any_eq_false]
      intro y hy
      obtain ⟨z, t, hkey⟩ := hk y (Array.mem_toList_iff.mp hy)
      simp [DictEntry.refKey, hkey]
    have a' : ¬ es.toList.any (·.refKey) = true := by rw [a]; exact Bool.false_ne_true
    rw [if_neg a']
    exact congrArg some e

theorem ObjM.look {h : Heap} {x dx C : Addr} {mA : Str → Option Value} (I : ObjM h x dx C mA) : ∃ od, PySem.W.InstAt h x (PySem.W.instObj C dx) C (some od) ∧ ∀ name, PySem.W.lookIn name od = some (mA name) :=
  let ⟨od, ho, hl⟩ := lookIn_ns I.ns
  ⟨od, ⟨I.obj, rfl, rfl, ho⟩, hl⟩

section
variable {prog : Program} {w : World} {A : Around} {E : Value → Shared → Prop} {s : Shared} {K : PySem.W.Frag} {x dx C f : Addr} {mA : Str → Option Value} {name : Str} {v : Value}

theorem get_map {expr : Bool} {Q : Value → Shared → Prop} (X : K.In s.heap) (I : ObjM s.heap x dx C mA) (hg : PySem.W.plainGet K C name = true) (hh : PySem.W.hasDictIn K C = true)
    (ha : PySem.W.findIn K (.ref C) name = some none) (hv : mA name = some v) (hv' : PySem.W.handedIn v = true) (h : Q v { s with toks := s.toks + 1 }) :
    wpAny (model prog w) A (getAttr (.ref x) name expr) Q E s := by
  obtain ⟨od, J, hl⟩ := I.look
  exact PySem.W.get_value X J (PySem.W.plainGet_of hg).1 (PySem.W.findObj_own hh ha rfl (by rw [hl, hv])) hv' h

theorem get_const {expr : Bool} {a : Value} {Q : Value → Shared → Prop} (X : K.In s.heap) (I : ObjM s.heap x dx C mA) (hg : PySem.W.plainGet K C name = true) (hh : PySem.W.hasDictIn K C = true)
    (ha : PySem.W.findIn K (.ref C) name = some (some a)) (hn : PySem.W.specialIn K a "__get__" = some none) (hc : PySem.W.copiedNames.contains name = false) (hv : mA name = none) (hv' : PySem.W.handedIn a = true)
    (h : Q a { s with toks := s.toks + 1 }) : wpAny (model prog w) A (getAttr (.ref x) name expr) Q E s := by
  obtain ⟨od, J, hl⟩ := I.look
  exact PySem.W.get_value X J (PySem.W.plainGet_of hg).1 (PySem.W.findObj_cls hh ha hn hv' hc (by rw [hl, hv])) hv' h

theorem get_meth {pl : Sem Bool} {Q : Value × List Value → Shared → Prop} (X : K.In s.heap) (I : ObjM s.heap x dx C mA) (hg : PySem.W.plainGet K C name = true)
    (hf : PySem.W.findIn K (.ref C) name = some (some (.ref f))) (ht : PySem.W.isFn K (.ref f) = true) (hv : mA name = none) (h : Q (.ref f, [.ref x]) s) :
    wpAny (model prog w) A (getMethod (.ref x) name pl) Q E s := by
  obtain ⟨od, J, hl⟩ := I.look
  exact PySem.W.method_fn X J (PySem.W.plainGet_of hg).1 (PySem.W.plainGet_of hg).2 hf (beq_iff_eq.mp ht) (by show (PySem.W.lookIn name od).map (·.isSome) = some false; rw [hl, hv]; rfl) h

theorem set_map {ns : List Str} {Q : Unit → Shared → Prop} (X : K.In s.heap) (I : ObjM s.heap x dx C mA)
    (hs : PySem.W.findIn K (.ref C) "__setattr__" = some (some (.builtin "object.__setattr__"))) (hp : PySem.W.plainOver K C = true) (ht : PySem.W.takerIn K C name = some none) (hh : PySem.W.hasDictIn K C = true)
    (hw : PySem.Within mA ns) (hsz : ns.length ≤ sizeLine)
    (h : ∀ h', ObjM h' x dx C (fun y => if y = name then some v else mA y) → Heap.SameBut dx s.heap h' → Q () { s with heap := h', toks := s.toks + 2 }) :
    wpAny (model prog w) A (setAttr (.ref x) name v) Q E s := by
  obtain ⟨od, J, hl⟩ := I.look
  refine PySem.W.set_plain X J hs (PySem.W.osa_open (s := { s with toks := s.toks + 1 }) (r := none) X J hp ht fun b => ?_)
  obtain ⟨cd, hc, hd'⟩ := PySem.W.any_some hh
  have hx : s.heap.get? x = some ⟨.ref C, some dx, .plain, #[]⟩ := I.obj
  refine wpAny_bind (wpAny_pure (wpAny_bind (wpAny_bind (wpAny_loadPart hx (wpAny_bind (PySem.W.Looks.here (s := { s with toks := s.toks + 1 }) (PySem.W.looks_clsIn X hc) ?_))))))
  rw [hd']
  refine wpAny_pure (a := some dx) (wpAny_bind (wpAny_pure (wpAny_bind ?_)))
  refine wpAny_nsSet1 (s := { s with toks := s.toks + 1 }) I.ns fun h' hn2 hs2 => ?_
  obtain ⟨oD, esD, epD, hoD, hdD, hcD⟩ := hn2.count (PySem.Within.cons name v hw)
  refine wpAny_bind (wpAny_lookBehind hoD (by rw [hdD]; exact pastItsLine_dict (Nat.le_trans hcD (by rw [List.length_cons]; omega))) ?_)
  exact wpAny_pure (h _ ⟨(hs2.2 _ (Ne.symm I.ne)).trans I.obj, hn2, I.ne⟩ hs2)

/-- C(..): the dict at the heap's end, the instance behind it; then its __init__ -/
theorem make_map {R : Result → Shared → Prop} {vs : List Value} {kw : List (Str × Value)} (X : K.In s.heap) (hm : PySem.W.makesIn K C = true)
    (hi : PySem.W.findIn K (.ref C) "__init__" = some (some (.ref f))) (hf : PySem.W.typeIn K (.ref f) = some (.type "function"))
    (h : codeAny (model prog w) (A.under (.builtin "type.__call__" ⟨.ref C :: vs, kw⟩)) (.call (.ref f) ⟨.ref (s.heap.objs.size + 1) :: vs, kw⟩) (PySem.W.InitBack (s.heap.objs.size + 1) R)
      { s with heap := (s.heap.push PySem.W.emptyDict).push (PySem.W.instObj C s.heap.objs.size) }) :
    codeAny (model prog w) A (.call (.ref C) ⟨vs, kw⟩) R s := by
  obtain ⟨hh, g, d, t, os⟩ := s
  exact PySem.W.make_core (PySem.W.makes_of X hm) (PySem.W.looks_findIn X hi) (fun self => PySem.W.bind_fn X self hf) (.inl rfl) h
/-- C() where there is no __init__ but object's -/
theorem make_map0 {R : Result → Shared → Prop} (X : K.In s.heap) (hm : PySem.W.makesIn K C = true)
    (hi : PySem.W.findIn K (.ref C) "__init__" = some (some (.builtin "object.__init__")))
    (hb : ∀ self, PySem.W.Looks (model prog w) s.heap (bindSpecial (.builtin "object.__init__") self) (.builtin "object.__init__", [self]))
    (h : codeAny (model prog w) (A.under (.builtin "type.__call__" ⟨[.ref C], []⟩)) (.call (.builtin "object.__init__") ⟨[.ref (s.heap.objs.size + 1)], []⟩) (PySem.W.InitBack (s.heap.objs.size + 1) R)
      { s with heap := (s.heap.push PySem.W.emptyDict).push (PySem.W.instObj C s.heap.objs.size) }) :
    codeAny (model prog w) A (.call (.ref C) ⟨[], []⟩) R s := by
  obtain ⟨hh, g, d, t, os⟩ := s
  exact PySem.W.make_core (PySem.W.makes_of X hm) (PySem.W.looks_findIn X hi) hb (.inr ⟨rfl, rfl⟩) h
end

/-! ### the attributes as a list of pairs -/
def putF (f : Str) (v : V) : List (Str × V) → List (Str × V)
  | [] => [(f, v)]
  | (g, x) :: r => if g = f then (g, v) :: r else (g, x) :: putF f v r
theorem lookup_putF (f g : Str) (v : V) : ∀ fs : List (Str × V), (putF f v fs).lookup g = if g = f then some v else fs.lookup g
  | [] => by
    show List.lookup g [(f, v)] = _
    by_cases h : g = f
    · have hb : (g == f) = true := beq_iff_eq.mpr h
      simp only [List.lookup, hb, if_pos h]
    · have hb : (g == f) = false := beq_eq_false_iff_ne.mpr h
      simp only [List.lookup, hb, if_neg h]
  | (k, x) :: r => by
    have ih := lookup_putF f g v r
    rw [show putF f v ((k, x) :: r) = (if k = f then (k, v) :: r else (k, x) :: putF f v r) from rfl]
    by_cases hk : k = f
    · rw [if_pos hk]
      by_cases h : g = k
      · have hb : (g == k) = true := beq_iff_eq.mpr h
        simp only [List.lookup, hb, if_pos (h.trans hk)]
      · have hb : (g == k) = false := beq_eq_false_iff_ne.mpr h
        simp only [List.lookup, hb, if_neg (fun e : g = f => h (e.trans hk.symm))]
    · rw [if_neg hk]
      by_cases h : g = k
      · have hb : (g == k) = true := beq_iff_eq.mpr h
        simp only [List.lookup, hb, if_neg (fun e : g = f => hk (h.symm.trans e))]
      · have hb : (g == k) = false := beq_eq_false_iff_ne.mpr h
        simp only [List.lookup, hb]
        exact ih
theorem keys_putF (f : Str) (v : V) : ∀ fs : List (Str × V), f ∈ (putF f v fs).map (·.1) ∧ ∀ g, g ∈ fs.map (·.1) → g ∈ (putF f v fs).map (·.1)
  | [] => ⟨by simp [putF], fun g h => by simp at h⟩
  | (k, x) :: r => by
    obtain ⟨i1, i2⟩ := keys_putF f v r
    rw [show putF f v ((k, x) :: r) = (if k = f then (k, v) :: r else (k, x) :: putF f v r) from rfl]
    by_cases hk : k = f
    · rw [if_pos hk]
      subst hk
      exact ⟨by simp, fun g h => by simpa using h⟩
    · rw [if_neg hk]
      refine ⟨?_, fun g h => ?_⟩
      · rw [List.map_cons]
        exact List.mem_cons_of_mem _ i1
      · rw [List.map_cons] at h ⊢
        rcases List.mem_cons.mp h with e | e
        · exact List.mem_cons.mpr (.inl e)
        · exact List.mem_cons_of_mem _ (i2 g e)
theorem length_putF (f : Str) (v : V) : ∀ fs : List (Str × V), (putF f v fs).length ≤ fs.length + 1
  | [] => by simp [putF]
  | (k, x) :: r => by
    have ih := length_putF f v r
    rw [show putF f v ((k, x) :: r) = (if k = f then (k, v) :: r else (k, x) :: putF f v r) from rfl]
    by_cases hk : k = f
    · rw [if_pos hk, List.length_cons, List.length_cons]; omega
    · rw [if_neg hk, List.length_cons, List.length_cons]; omega

theorem RelO.some_of {v : V} {o : Option Value} (r : RelO (some v) o) : ∃ u, o = some u ∧ RelV v u := by
  cases o with
  | none => exact (show False from r).elim
  | some u => exact ⟨u, rfl, r⟩
theorem RelO.none_of {o : Option Value} (r : RelO none o) : o = none := by
  cases o with
  | none => rfl
  | some u => exact (show False from r).elim
theorem handed_of {v : V} {u : Value} (r : RelV v u) : PySem.W.handedIn u = true := by
  cases v with
  | non => cases (show u = Value.none from r); rfl
  | bl b => cases (show u = Value.bool b from r); rfl
  | int i => obtain ⟨t, e⟩ := (show ∃ t, u = Value.int i t from r); cases e; rfl
  | str x => obtain ⟨t, e⟩ := (show ∃ t, u = Value.str x t from r); cases e; rfl
  | byt b => obtain ⟨t, e⟩ := (show ∃ t, u = Value.bytes b t from r); cases e; rfl
  | flt b => obtain ⟨t, e⟩ := (show ∃ t, u = Value.float b t from r); cases e; rfl
  | ref a => cases (show u = Value.ref a from r); rfl
  | ty n => cases (show u = Value.type n from r); rfl

section
variable {P : Program} {w : World} {H H' : Hp} {h h' : Heap} {a C dx : Addr} {fs fs' : List (Str × V)}
theorem ins_get (hok : HOk P w H h) (e : H a = some (.ins C dx fs)) : ∃ mA, ObjM h a dx C mA ∧ (∀ f, RelO (fs.lookup f) (mA f)) ∧ PySem.Within mA (fs.map (·.1)) ∧ fs.length ≤ 1000 ∧ H dx = some (.own a) := by
  obtain ⟨d, z, ne, ob, mA, n, r, q⟩ := (show ObjOk P w H h a (.ins C dx fs) from hok a _ e)
  exact ⟨mA, ⟨ob, n, ne⟩, r, q, z, d⟩
end

/-! ### what of the text a class must have -/
structure Cls (K : PySem.W.Frag) (C : Addr) : Prop where
  pg : PySem.W.plainGet K C Str.empty = true
  hd : PySem.W.hasDictIn K C = true
  po : PySem.W.plainOver K C = true
  sa : PySem.W.findIn K (.ref C) "__setattr__" = some (some (.builtin "object.__setattr__"))
theorem Cls.get {K : PySem.W.Frag} {C : Addr} (c : Cls K C) (f : Str) : PySem.W.plainGet K C f = true := c.pg
/-- no class of it has the name -/
def NoAttr (K : PySem.W.Frag) (C : Addr) (f : Str) : Prop := PySem.W.findIn K (.ref C) f = some none
theorem NoAttr.taker {K : PySem.W.Frag} {C : Addr} {f : Str} (n : NoAttr K C f) : PySem.W.takerIn K C f = some none := by
  unfold PySem.W.takerIn
  rw [show PySem.W.findIn K (.ref C) f = some none from n]
  rfl
/-- a constant of the class -/
structure Con (K : PySem.W.Frag) (C : Addr) (f : Str) (v : V) (u : Value) : Prop where
  at_ : PySem.W.findIn K (.ref C) f = some (some u)
  rel : RelV v u
  get : PySem.W.specialIn K u "__get__" = some none
  cp : PySem.W.copiedNames.contains f = false
/-- a method: a plain def of the class or of one above it -/
structure Meth (K : PySem.W.Frag) (C : Addr) (m : Str) (f : Addr) : Prop where
  at_ : PySem.W.findIn K (.ref C) m = some (some (.ref f))
  fn : PySem.W.isFn K (.ref f) = true
  kp : PySem.W.keepIn K (.ref f) = true

section
variable {X : Cx} {pins : List (Addr × Obj)} {σ : St} {H : Hp} {s : Shared} {a C dx : Addr} {fs : List (Str × V)} {f : Str} {v : V} {A : Around} {E : Value → Shared → Prop}

theorem getattr_ok {b : Bool} {Q : Value → Shared → Prop} (I : Inv X pins σ H s) (e : H a = some (.ins C dx fs)) (c : Cls X.K C) (n : NoAttr X.K C f) (l : fs.lookup f = some v)
    (h : ∀ u s', Inv X pins σ H s' → RelV v u → Q u s') : wpAny (model X.prog X.w) A (getAttr (.ref a) f b) Q E s := by
  obtain ⟨mA, O, r, _, _, _⟩ := ins_get I.hok e
  obtain ⟨u, hu, ru⟩ := RelO.some_of (v := v) (o := mA f) (by rw [← l]; exact r f)
  exact get_map I.kIn O (c.get f) c.hd n hu (handed_of ru) (h u _ (I.tok _) ru)

theorem getcon_ok {b : Bool} {u : Value} {Q : Value → Shared → Prop} (I : Inv X pins σ H s) (e : H a = some (.ins C dx fs)) (c : Cls X.K C) (k : Con X.K C f v u) (l : fs.lookup f = none)
    (h : ∀ s', Inv X pins σ H s' → Q u s') : wpAny (model X.prog X.w) A (getAttr (.ref a) f b) Q E s := by
  obtain ⟨mA, O, r, _, _, _⟩ := ins_get I.hok e
  have hn : mA f = none := RelO.none_of (by rw [← l]; exact r f)
  exact get_const I.kIn O (c.get f) c.hd k.at_ k.get k.cp hn (handed_of k.rel) (h _ (I.tok _))

theorem getmeth_ok {m : Str} {g : Addr} {pl : Sem Bool} {Q : Value × List Value → Shared → Prop} (I : Inv X pins σ H s) (e : H a = some (.ins C dx fs)) (c : Cls X.K C) (k : Meth X.K C m g) (l : fs.lookup m = none)
    (h : Q (.ref g, [.ref a]) s) : wpAny (model X.prog X.w) A (getMethod (.ref a) m pl) Q E s := by
  obtain ⟨mA, O, r, _, _, _⟩ := ins_get I.hok e
  have hn : mA m = none := RelO.none_of (by rw [← l]; exact r m)
  exact get_meth I.kIn O (c.get m) k.at_ k.fn hn h

theorem setattr_ok {y : V} {u : Value} {Q : Unit → Shared → Prop} (I : Inv X pins σ H s) (e : H a = some (.ins C dx fs)) (c : Cls X.K C) (n : NoAttr X.K C f) (hl : fs.length < 1000) (ry : RelV y u)
    (h : ∀ s', Inv X pins σ (upd H a (.ins C dx (putF f y fs))) s' → Q () s') : wpAny (model X.prog X.w) A (setAttr (.ref a) f u) Q E s := by
  obtain ⟨mA, O, r, wi, _, ho⟩ := ins_get I.hok e
  have hz : (fs.map (·.1)).length ≤ sizeLine := by rw [List.length_map, sizeLine_eq]; omega
  refine set_map I.kIn O c.sa c.po n.taker c.hd wi hz fun h' O' sb => h _ ?_
  have hd : ∃ o, h'.get? dx = some o := let ⟨o, _, _, e', _⟩ := O'.ns; ⟨o, e'⟩
  refine I.write (x := a) (e := dx) (by rw [e]; exact True.intro) (.inr ho) (fun b q hb z => (sb.2 b hb).trans z) hd ?_
  refine ⟨by rw [upd_ne O.ne]; exact ho, ?_, O.ne, O'.obj, _, O'.ns, fun g => ?_, fun g hg => ?_⟩
  · have := length_putF f y fs; omega
  · show RelO ((putF f y fs).lookup g) (if g = f then some u else mA g)
    rw [lookup_putF]
    by_cases q : g = f
    · rw [if_pos q, if_pos q]; exact ry
    · rw [if_neg q, if_neg q]; exact r g
  · by_cases q : g = f
    · rw [q]; exact (keys_putF f y fs).1
    · refine (keys_putF f y fs).2 g (wi g fun z => hg ?_)
      show (if g = f then some u else mA g) = none
      rw [if_neg q]; exact z

/-- a new instance, tracked, without attributes -/
theorem Inv.made (I : Inv X pins σ H s) : Inv X pins σ (upd (upd H s.heap.objs.size (.own (s.heap.objs.size + 1))) (s.heap.objs.size + 1) (.ins C s.heap.objs.size []))
    { s with heap := (s.heap.push PySem.W.emptyDict).push (PySem.W.instObj C s.heap.objs.size) } := by
  have e1 : (s.heap.push PySem.W.emptyDict).get? s.heap.objs.size = some PySem.W.emptyDict := Heap.get?_push_size s.heap rfl
  have e2 : ((s.heap.push PySem.W.emptyDict).push (PySem.W.instObj C s.heap.objs.size)).get? (s.heap.objs.size + 1) = some (PySem.W.instObj C s.heap.objs.size) := by
    have := Heap.get?_push_size (s.heap.push PySem.W.emptyDict) (o := PySem.W.instObj C s.heap.objs.size) rfl
    rwa [Heap.size_push] at this
  have e3 : (s.heap.push PySem.W.emptyDict).Ns s.heap.objs.size (fun _ => none) := ⟨PySem.W.emptyDict, #[], _, e1, rfl, (fun e he => absurd he (by simp)), fun _ => rfl⟩
  have I1 := I.laid (a := s.heap.objs.size) (o := .own (s.heap.objs.size + 1)) (h' := s.heap.push PySem.W.emptyDict) (t' := s.toks) (fun b u q => Heap.get?_push_of_some _ q) (Nat.le_refl _) ⟨_, e1⟩
  refine I1.laid (a := s.heap.objs.size + 1) (o := .ins C s.heap.objs.size []) (t' := s.toks) (fun b u q => Heap.get?_push_of_some _ q) (Nat.le_of_eq (Heap.size_push _ _)) ?_
  have ne : s.heap.objs.size ≠ s.heap.objs.size + 1 := Nat.ne_of_lt (Nat.lt_succ_self _)
  refine ⟨by rw [upd_ne ne, upd_same], Nat.zero_le _, ne, e2, fun _ => none, (Heap.Ns1.of_empty e3).at fun o q => Heap.get?_push_of_some _ q, fun _ => True.intro, fun y hy => absurd rfl hy⟩

/-- e.f where nothing but the object is asked: through attributeBase (super) and the last hold -/
theorem attr_of {prog : Program} {w : World} {env : Env} {e : Expr} {f : Str} {pos : Pos} {s : Shared} {Q : Value → Shared → Prop} (hb : attributeBase e f env (eval e env) = eval e env)
    (h : wpAny (model prog w) A (eval e env) (fun o s₁ => wpAny (model prog w) A (getAttr o f true) Q E s₁) E s) : wpAny (model prog w) A (eval (.Attribute e f pos) env) Q E s :=
  Attribute_any_ h (by rw [arm_eval_Attribute, hb])
end

/-! ### readings and rules -/
/-- e.f, an attribute of the instance -/
def tFld (K : PySem.W.Frag) (ta : TE) (f : Str) : TE := fun σ H Q => ta σ H fun x H1 => ∃ a C dx fs v, x = .ref a ∧ H1 a = some (.ins C dx fs) ∧ Cls K C ∧ NoAttr K C f ∧ fs.lookup f = some v ∧ Q v H1
/-- e.f, a constant of the class -/
def tCon (K : PySem.W.Frag) (ta : TE) (f : Str) : TE := fun σ H Q => ta σ H fun x H1 => ∃ a C dx fs v u, x = .ref a ∧ H1 a = some (.ins C dx fs) ∧ Cls K C ∧ Con K C f v u ∧ fs.lookup f = none ∧ Q v H1
/-- e.f = value -/
def sFld (K : PySem.W.Frag) (ta tv : TE) (f : Str) : TS := fun D σ H => tv σ H fun y H1 => ta σ H1 fun x H2 => ∃ a C dx fs, x = .ref a ∧ H2 a = some (.ins C dx fs) ∧ Cls K C ∧ NoAttr K C f ∧ fs.length < 1000 ∧
  D.nx σ (upd H2 a (.ins C dx (putF f y fs)))
/-- an augmented operator on two values -/
def InOp (X : Cx) (op : Operator) (rd : V → V → Hp → VK → Prop) : Prop :=
  ∀ (pins : List (Addr × Obj)) (s : Shared) (σ : St) (H : Hp) (x y : V) (u v : Value) (Q : VK), Inv X pins σ H s → RelV x u → RelV y v → rd x y H Q → wpAny (model X.prog X.w) X.A (inplaceOp op u v) (EP X pins σ Q) X.xe s
/-- e.f op= value -/
def sFldAug (K : PySem.W.Frag) (ta tv : TE) (rd : V → V → Hp → VK → Prop) (f : Str) : TS := fun D σ H => ta σ H fun x H1 => ∃ a C dx fs v, x = .ref a ∧ H1 a = some (.ins C dx fs) ∧ Cls K C ∧ NoAttr K C f ∧ fs.lookup f = some v ∧
  tv σ H1 fun y H2 => rd v y H2 fun z H3 => ∃ dx' fs', H3 a = some (.ins C dx' fs') ∧ fs'.length < 1000 ∧ D.nx σ (upd H3 a (.ins C dx' (putF f z fs')))

section
variable {X : Cx} {o e value : Expr} {f : Str} {pos pos' tpos : Pos} {ta tv : TE}
theorem pe_fld (he : PE X e ta) (hb : attributeBase e f X.env (eval e X.env) = eval e X.env) : PE X (.Attribute e f pos) (tFld X.K ta f) := by
  intro pins s σ H Q I h
  refine attr_of hb (thn (he pins s σ H _ I h) fun u s1 ⟨x, H1, I1, rx, a, C, dx, fs, v, ex, ea, c, n, l, q⟩ => ?_)
  subst ex
  obtain rfl : u = Value.ref a := rx
  exact getattr_ok I1 ea c n l fun u' s2 I2 ru => ⟨v, H1, I2, ru, q⟩
theorem pe_con (he : PE X e ta) (hb : attributeBase e f X.env (eval e X.env) = eval e X.env) : PE X (.Attribute e f pos) (tCon X.K ta f) := by
  intro pins s σ H Q I h
  refine attr_of hb (thn (he pins s σ H _ I h) fun u s1 ⟨x, H1, I1, rx, a, C, dx, fs, v, u0, ex, ea, c, k, l, q⟩ => ?_)
  subst ex
  obtain rfl : u = Value.ref a := rx
  exact getcon_ok I1 ea c k l fun s2 I2 => ⟨v, H1, I2, k.rel, q⟩
theorem ps_fld (ha : PE X o ta) (hv : PE X value tv) (hs : swapsWith value (some (.Attribute o f pos')) pos.line X.env = pure false) : PS X (.Assign [.Attribute o f pos'] value pos) (sFld X.K ta tv f) := by
  intro pins s σ H D I h
  refine plainObj_wpAny_Assign_Attribute (thn (hv pins s σ H _ I h) fun u s1 ⟨y, H1, I1, ry, q⟩ => thn (ha pins s1 σ H1 _ I1 q) fun ov s2 ⟨x, H2, I2, rx, a, C, dx, fs, ex, ea, c, n, l, q2⟩ => ?_) hs
  subst ex
  obtain rfl : ov = Value.ref a := rx
  exact setattr_ok I2 ea c n l ry fun s3 I3 => ⟨σ, _, I3, q2⟩
theorem ps_fldaug {op : Operator} {rd : V → V → Hp → VK → Prop} (ha : PE X o ta) (hv : PE X value tv) (hop : InOp X op rd) : PS X (.AugAssign (.Attribute o f tpos) op value pos) (sFldAug X.K ta tv rd f) := by
  intro pins s σ H D I h
  refine wpAny_AugAssign_AttributeAny (thn (ha pins s σ H _ I h) fun ov s1 ⟨x, H1, I1, rx, a, C, dx, fs, v, ex, ea, c, n, l, q⟩ => ?_)
  subst ex
  obtain rfl : ov = Value.ref a := rx
  refine getattr_ok I1 ea c n l fun u s2 I2 ru => thn (hv pins s2 σ H1 _ I2 q) fun w3 s3 ⟨y, H2, I3, ry, q3⟩ => thn (hop pins s3 σ H2 v y u w3 _ I3 ru ry q3) fun w4 s4 ⟨z, H3, I4, rz, dx', fs', ea', l', q4⟩ => ?_
  exact setattr_ok I4 ea' c n l' rz fun s5 I5 => ⟨σ, _, I5, q4⟩
def rAdd : V → V → Hp → VK → Prop := fun x y H Q => ∃ i j, x = .int i ∧ y = .int j ∧ Q (.int (i + j)) H
def rSub : V → V → Hp → VK → Prop := fun x y H Q => ∃ i j, x = .int i ∧ y = .int j ∧ Q (.int (i - j)) H
theorem in_add : InOp X .Add rAdd := by
  rintro pins s σ H x y u v Q I rx ry ⟨i, j, rfl, rfl, q⟩
  obtain ⟨t, rfl⟩ := (show ∃ t, u = Value.int i t from rx)
  obtain ⟨t', rfl⟩ := (show ∃ t', v = Value.int j t' from ry)
  exact PyProof.Rows.iadd_int ⟨.int (i + j), H, I.tok _, ⟨_, rfl⟩, q⟩
theorem in_sub : InOp X .Sub rSub := by
  rintro pins s σ H x y u v Q I rx ry ⟨i, j, rfl, rfl, q⟩
  obtain ⟨t, rfl⟩ := (show ∃ t, u = Value.int i t from rx)
  obtain ⟨t', rfl⟩ := (show ∃ t', v = Value.int j t' from ry)
  exact PyProof.Rows.isub_int ⟨.int (i - j), H, I.tok _, ⟨_, rfl⟩, q⟩

/-- what is between an instance and its method: the tree of a method call -/
theorem methcall_of {pl : Sem Bool} {m : Str} {apos : Pos} {args : List Expr} {pins : List (Addr × Obj)} {s : Shared} {σ : St} {H : Hp} {Q : Value → Shared → Prop} {te : TE} (he : PE X e te) (I : Inv X pins σ H s)
    (h : te σ H fun x H1 => ∃ a C dx fs g, x = .ref a ∧ H1 a = some (.ins C dx fs) ∧ Cls X.K C ∧ Meth X.K C m g ∧ fs.lookup m = none ∧
      ∀ s1, Inv X pins σ H1 s1 → wpAny (model X.prog X.w) X.A (callWith pos (.ref g) [.ref a] (backTo pos (starEach args X.env)) (backToKw pos (keywordEach [] X.env))) Q X.xe s1)
    (ht : eval (.Call (.Attribute e m apos) args [] pos) X.env = (do
      let ov ← eval e X.env
      standAt apos.atName
      let (f, first) ← holding [ov] (getMethod ov m pl)
      callWith pos f first (backTo pos (starEach args X.env)) (backToKw pos (keywordEach [] X.env)))) :
    wpAny (model X.prog X.w) X.A (eval (.Call (.Attribute e m apos) args [] pos) X.env) Q X.xe s := by
  refine PySem.W.methodCall_KW (pl := pl) (thn (he pins s σ H _ I h) fun u s1 ⟨x, H1, I1, rx, a, C, dx, fs, g, ex, ea, c, k, l, q⟩ => ?_) ht
  subst ex
  obtain rfl : u = Value.ref a := rx
  exact getmeth_ok I1 ea c k l (q s1 I1)
end

/-! ### isinstance -/
section
variable {X : Cx} {pins : List (Addr × Obj)} {σ : St} {H : Hp} {s : Shared} {A : Around} {E : Value → Shared → Prop} {Q : Value → Shared → Prop} {c : Value} {b : Bool}
/-- the type of a value, as the fragment's deciders take it; for an instance its class -/
inductive TyOf (K : PySem.W.Frag) (H : Hp) : V → Value → Prop where
  | non : TyOf K H .non (.type "NoneType")
  | bl (x : Bool) : TyOf K H (.bl x) (.type "bool")
  | int (i : Int) : TyOf K H (.int i) (.type "int")
  | str (x : Str) : TyOf K H (.str x) (.type "str")
  | flt (x : UInt64) : TyOf K H (.flt x) (.type "float")
  | lst {a : Addr} {xs : List V} (e : H a = some (.lst xs)) : TyOf K H (.ref a) (.type "list")
  | frz {a : Addr} {o : Obj} {xs : List V} (e : H a = some (.frz o (.lst xs))) : TyOf K H (.ref a) (.type "list")
  | tup {a : Addr} {xs : List V} (e : H a = some (.tup xs)) : TyOf K H (.ref a) (.type "tuple")
  | dK {a : Addr} {kvs : List (Key × V)} (e : H a = some (.dK kvs)) : TyOf K H (.ref a) (.type "dict")
  | dT {a : Addr} {kvs : List (List Key × V)} (e : H a = some (.dT kvs)) : TyOf K H (.ref a) (.type "dict")
  | ins {a C dx : Addr} {fs : List (Str × V)} (e : H a = some (.ins C dx fs)) (cl : Cls K C) (ha : PySem.W.findIn K (.ref C) "__class__" = some (some (.builtin "object.__class__")))
      (hn : PySem.W.specialIn K (.builtin "object.__class__") "__get__" = some (some (.builtin "getset_descriptor.__get__"))) (htk : PySem.W.takesIn K (.builtin "object.__class__") = some true)
      (hm : PySem.W.mroIn K C (.type "object") = some true) : TyOf K H (.ref a) (.ref C)
/-- isinstance(x, c) for one class c, a built-in or an own one: kitOne's answer -/
theorem isinst_ok {x : V} {u t : Value} (I : Inv X pins σ H s) (rx : RelV x u) (ty : TyOf X.K H x t) (e : PySem.W.kitOne X.K t c = some b) (h : ∀ tk, Q (.bool b) { s with toks := tk }) :
    wpAny (model X.prog X.w) A (call (.builtin "isinstance") [u, c]) Q E s := by
  cases ty with
  | non => cases (show u = Value.none from rx); exact PySem.W.kia_one PySem.W.kitx_none I.kIn True.intro e (fun z => nomatch z) h
  | bl y => cases (show u = Value.bool y from rx); exact PySem.W.kia_one PySem.W.kitx_bool I.kIn True.intro e (fun z => nomatch z) h
  | int i => obtain ⟨t, q⟩ := (show ∃ t, u = Value.int i t from rx); cases q; exact PySem.W.kia_one PySem.W.kitx_int I.kIn True.intro e (fun z => nomatch z) h
  | str y => obtain ⟨t, q⟩ := (show ∃ t, u = Value.str y t from rx); cases q; exact PySem.W.kia_one PySem.W.kitx_str I.kIn True.intro e (fun z => nomatch z) h
  | flt y => obtain ⟨t, q⟩ := (show ∃ t, u = Value.float y t from rx); cases q; exact PySem.W.kia_one PySem.W.kitx_float I.kIn True.intro e (fun z => nomatch z) h
  | @lst a xs ea =>
    cases (show u = Value.ref a from rx)
    obtain ⟨_, _, n, _, h1⟩ := (show ObjOk X.prog X.w H s.heap a (.lst xs) from I.hok a _ ea)
    exact PySem.W.kia_one PySem.W.kitx_list I.kIn ⟨_, h1, rfl⟩ e (fun z => nomatch z) h
  | @frz a ob xs ea =>
    cases (show u = Value.ref a from rx)
    obtain ⟨_, _, _, n, _, h1⟩ := (show ObjOk X.prog X.w H s.heap a (.frz ob (.lst xs)) from I.hok a _ ea)
    exact PySem.W.kia_one PySem.W.kitx_list I.kIn ⟨_, h1, rfl⟩ e (fun z => nomatch z) h
  | @tup a xs ea =>
    cases (show u = Value.ref a from rx)
    obtain ⟨_, _, _, p⟩ := (show ObjOk X.prog X.w H s.heap a (.tup xs) from I.hok a _ ea)
    obtain ⟨o, h1, h2, _⟩ := p
    exact PySem.W.kia_one PySem.W.kitx_tuple I.kIn ⟨o, h1, h2⟩ e (fun z => nomatch z) h
  | @dK a kvs ea =>
    cases (show u = Value.ref a from rx)
    obtain ⟨_, _, vs, _, p⟩ := (show ObjOk X.prog X.w H s.heap a (.dK kvs) from I.hok a _ ea)
    obtain ⟨o, es, ep, h1, h2, _⟩ := p
    exact PySem.W.kia_one PySem.W.kitx_dict I.kIn ⟨o, h1, h2.1⟩ e (fun z => nomatch z) h
  | @dT a kvs ea =>
    cases (show u = Value.ref a from rx)
    obtain ⟨_, _, xs, _, o, es, ep, h1, h2, _⟩ := (show ObjOk X.prog X.w H s.heap a (.dT kvs) from I.hok a _ ea)
    exact PySem.W.kia_one PySem.W.kitx_dict I.kIn ⟨o, h1, h2.1⟩ e (fun z => nomatch z) h
  | @ins a C dx fs ea cl ha hn htk hm =>
    cases (show u = Value.ref a from rx)
    obtain ⟨mA, O, _⟩ := ins_get I.hok ea
    obtain ⟨od, J, _⟩ := O.look
    exact PySem.W.kia_one (PySem.W.kitx_own (cl.get _) cl.hd ha hn htk hm) I.kIn J e (fun z => nomatch z) h
end
end L2

namespace L2
open PySem PySem.Spec PyProof.Rows

/-! ### room -/
structure Room (k : Nat) (A : Around) : Prop where
  hd : A.handled = none
  dp : A.depth + 3 * k + 5 < recursionLimit
  un : A.units + 16 * k + 200 < cLine
theorem Room.mono {j k : Nat} {A : Around} (r : Room k A) (h : j ≤ k) : Room j A := ⟨r.hd, by have := r.dp; omega, by have := r.un; omega⟩
theorem Room.deeper {k : Nat} {A : Around} (r : Room (k + 1) A) (env : Env) : Room k (A.deeper env) :=
  ⟨r.hd, by have := r.dp; show A.depth + 1 + 3 * k + 5 < _; omega, by have := r.un; show A.units + 3 + 16 * k + 200 < _; omega⟩
theorem Room.in1 {k : Nat} {A : Around} (r : Room (k + 1) A) : Room k A.in1 :=
  ⟨r.hd, by have := r.dp; show A.depth + 3 * k + 5 < _; omega, by have := r.un; show A.units + 1 + 16 * k + 200 < _; omega⟩
theorem make_depth {A : Around} {C : Addr} {us : List Value} {kw : List (Str × Value)} : (A.under (.builtin "type.__call__" ⟨.ref C :: us, kw⟩)).depth = A.depth + 1 := by
  first | rfl | simp [Around.under, Code.weight, Code.isCreation, Code.isGuard, Code.isCaller, Code.frames, Code.isFrame, guardIds]
theorem make_units {A : Around} {C : Addr} {us : List Value} {kw : List (Str × Value)} : (A.under (.builtin "type.__call__" ⟨.ref C :: us, kw⟩)).units = A.units + 1 := by
  first | rfl | simp [Around.under, Code.cUnits, Code.frames, Code.isFrame]
theorem Room.make {k : Nat} {A : Around} (r : Room (k + 1) A) (C : Addr) (us : List Value) (kw : List (Str × Value)) : Room k (A.under (.builtin "type.__call__" ⟨.ref C :: us, kw⟩)) :=
  ⟨r.hd, by have := r.dp; rw [make_depth]; omega, by have := r.un; rw [make_units]; omega⟩
theorem Room.depth {k : Nat} {A : Around} (r : Room k A) : A.depth < recursionLimit := by have := r.dp; omega
theorem Room.units {k : Nat} {A : Around} (r : Room k A) : A.units + 64 < cLine := by have := r.un; omega
theorem Room.units0 {k : Nat} {A : Around} (r : Room k A) : A.units < cLine := by have := r.un; omega

/-! ### argument lists and displays -/
def tNil : TA := fun _ H Q => Q [] H
def tCons (ta : TE) (tr : TA) : TA := fun σ H Q => ta σ H fun x H1 => tr σ H1 fun xs H2 => Q (x :: xs) H2
section
variable {X : Cx} {e : Expr} {es : List Expr} {te : TE} {t : TA} {pos : Pos}
theorem pa_nil : PA X [] tNil := fun _ _ _ _ H Q I h => Calls.spliced_nil ⟨[], H, I, .nil, h⟩
theorem pa_cons (ha : PE X e te) (hr : PA X es t) (hs : starEach (e :: es) X.env = (false, eval e X.env) :: starEach es X.env := by rfl) : PA X (e :: es) (tCons te t) := by
  intro pos pins s σ H Q I h
  rw [hs]
  show wpAny _ _ (spliced ((false, eval e X.env) :: backTo pos (starEach es X.env))) _ _ s
  refine Calls.spliced_cons (thn (ha pins s σ H _ I h) fun u s1 ⟨x, H1, I1, r1, q1⟩ => ?_)
  exact thn (hr pos pins s1 σ H1 _ I1 q1) fun us s2 ⟨xs, H2, I2, r2, q2⟩ => ⟨x :: xs, H2, I2, .cons r1 r2, q2⟩

/-- a tuple, a list of written items -/
def tTup (t : TA) : TE := fun σ H Q => t σ H fun xs H1 => xs.length ≤ sizeLine ∧ ∀ p, H1 p = none → Q (.ref p) (upd H1 p (.tup xs))
def tLst (t : TA) : TE := fun σ H Q => t σ H fun xs H1 => xs.length ≤ sizeLine ∧ ∀ p, H1 p = none → Q (.ref p) (upd H1 p (.lst xs))
theorem pe_tup {x1} (h : PA X es t) : PE X (.Tuple es x1 pos) (tTup t) := by
  intro pins s σ H Q I hq
  refine wpAny_Tuple_spliced (thn (h pos pins s σ H _ I hq) fun us s1 ⟨xs, H1, I1, r, z, q⟩ => ⟨by rw [← r.length]; exact z, ?_⟩)
  have hf : H1 s1.heap.objs.size = none := I1.hok.fresh (Nat.le_refl _)
  refine ⟨.ref s1.heap.objs.size, upd H1 s1.heap.objs.size (.tup xs), I1.laid (t' := s1.toks) (fun b u e => Heap.get?_push_of_some _ e) (Nat.le_refl _) ?_, rfl, q _ hf⟩
  exact ⟨z, us, r, ⟨_, Heap.get?_push_size _ rfl, rfl, _, rfl⟩⟩
theorem pe_lst (h : PA X es t) : PE X (.List es pos) (tLst t) := by
  intro pins s σ H Q I hq
  refine wpAny_List_spliced (thn (h pos pins s σ H _ I hq) fun us s1 ⟨xs, H1, I1, r, z, q⟩ => ⟨by rw [← r.length]; exact z, ?_⟩)
  have hf : H1 s1.heap.objs.size = none := I1.hok.fresh (Nat.le_refl _)
  refine ⟨.ref s1.heap.objs.size, upd H1 s1.heap.objs.size (.lst xs), I1.laid (t' := s1.toks) (fun b u e => Heap.get?_push_of_some _ e) (Nat.le_refl _) ?_, rfl, q _ hf⟩
  exact ⟨z, us, 0, r, Heap.get?_push_size _ rfl⟩
end

/-! ### what a def promises -/
/-- a def's promise: the bound arguments in the parameters' order, the heap, the wanted end, the wanted exception -/
abbrev Sp := List V → Hp → VK → XK → Prop
/-- how an exception lies behind a call (file 08 gives it): the callers' frames, abstract heap and state ahead of the call, the wish, the exception, the state -/
abbrev CXT := List Env → Hp → Shared → XK → Value → Shared → Prop

/-- the state at a call -/
structure Env0 (P : Program) (w : World) (K : PySem.W.Frag) (mg : Str → Option Value) (base : Heap) (A : Around) (outer : List Env) (s : Shared) (H : Hp) : Prop where
  frames : A.frames = some outer
  mod : Mod K mg base
  bs : ∀ b o, base.get? b = some o → s.heap.get? b = some o ∧ H b = none
  bsz : base.objs.size ≤ s.heap.objs.size
  funs : s.heap.FunFrames base outer
  frf : ∀ b ∈ frs outer, H b = none
  hok : HOk P w H s.heap
  bare : AllBare s.gens
/-- a call's end -/
def CE (outer : List Env) (P : Program) (w : World) (H : Hp) (s : Shared) (Q : VK) (u : Value) (s' : Shared) : Prop :=
  ∃ v H', s'.os = s.os ∧ AllBare s'.gens ∧ Un (frs outer) [] H H' s.heap s'.heap ∧ HOk P w H' s'.heap ∧ RelV v u ∧ Q v H'
def CR (CX : CXT) (outer : List Env) (P : Program) (w : World) (H : Hp) (s : Shared) (Q : VK) (E : XK) (r : Result) (s' : Shared) : Prop :=
  match r with
  | .ok (.ret u) => CE outer P w H s Q u s'
  | .ok _ => False
  | .error e => CX outer H s E e s'
structure FnOk (P : Program) (w : World) (K : PySem.W.Frag) (mg : Str → Option Value) (base : Heap) (CX : CXT) (k : Nat) (f : Addr) (fd : FuncData) (ps : List Str) (sp : Sp) : Prop where
  len : ∀ vs H Q E, sp vs H Q E → vs.length = ps.length
  run : ∀ (A : Around) (outer : List Env) (s : Shared) (H : Hp) (args : Args) (us : List Value) (vs : List V) (Q : VK) (E : XK), Room k A → Env0 P w K mg base A outer s H → BindsTo s fd args (ps.zip us) → Vals vs us → sp vs H Q E →
    codeAny (model P w) A (.call (.ref f) args) (CR CX outer P w H s Q E) s
theorem FnOk.mono {P : Program} {w : World} {K : PySem.W.Frag} {mg : Str → Option Value} {base : Heap} {CX : CXT} {j k : Nat} {f : Addr} {fd : FuncData} {ps : List Str} {sp : Sp} (F : FnOk P w K mg base CX j f fd ps sp) (h : j ≤ k) :
    FnOk P w K mg base CX k f fd ps sp := ⟨F.len, fun A outer s H args us vs Q E hr => F.run A outer s H args us vs Q E (hr.mono h)⟩
/-- a weaker promise -/
theorem FnOk.imp {P : Program} {w : World} {K : PySem.W.Frag} {mg : Str → Option Value} {base : Heap} {CX : CXT} {k : Nat} {f : Addr} {fd : FuncData} {ps : List Str} {sp sp' : Sp} (F : FnOk P w K mg base CX k f fd ps sp)
    (h : ∀ vs H Q E, sp' vs H Q E → sp vs H Q E) : FnOk P w K mg base CX k f fd ps sp' :=
  ⟨fun vs H Q E q => F.len vs H Q E (h _ _ _ _ q), fun A outer s H args us vs Q E hr he hb hv hs => F.run A outer s H args us vs Q E hr he hb hv (h _ _ _ _ hs)⟩

theorem Env0.make {P : Program} {w : World} {K : PySem.W.Frag} {mg : Str → Option Value} {base : Heap} {A : Around} {outer : List Env} {s : Shared} {H : Hp} (e : Env0 P w K mg base A outer s H) (C : Addr) (us : List Value) (kw : List (Str × Value)) :
    Env0 P w K mg base (A.under (.builtin "type.__call__" ⟨.ref C :: us, kw⟩)) outer s H := ⟨by first | exact e.frames | (simpa [Around.under, Code.envs, Code.isFrame, pushEnvs] using e.frames), e.mod, e.bs, e.bsz, e.funs, e.frf, e.hok, e.bare⟩
theorem Env0.in1 {P : Program} {w : World} {K : PySem.W.Frag} {mg : Str → Option Value} {base : Heap} {A : Around} {outer : List Env} {s : Shared} {H : Hp} (e : Env0 P w K mg base A outer s H) :
    Env0 P w K mg base A.in1 outer s H := ⟨e.frames, e.mod, e.bs, e.bsz, e.funs, e.frf, e.hok, e.bare⟩

section
variable {X : Cx} {pins : List (Addr × Obj)} {σ : St} {H : Hp} {s s' : Shared}
/-- from a body: what a callee wants -/
theorem Inv.env0 (I : Inv X pins σ H s) : Env0 X.prog X.w X.K X.mg X.base X.A X.stack s H :=
  ⟨I.ok.frames, I.ok.mod, I.bs, Nat.le_trans I.ok.bsz I.sz, I.stack, I.stkFree, I.hok, I.bare⟩
/-- behind a call -/
theorem Inv.after {Q : VK} {u : Value} (I : Inv X pins σ H s) (h : CE X.stack X.prog X.w H s Q u s') : EP X pins σ Q u s' := by
  obtain ⟨v, H', os, bare, un, hok, r, q⟩ := h
  obtain ⟨hh, g, d, t, os'⟩ := s'
  obtain rfl : os' = s.os := os
  exact ⟨v, H', I.call (h' := hh) (g' := g) (d' := d) (t' := t) (ch := []) un hok bare (fun b z => absurd z (by simp)), r, q⟩
end

/-! ### calls -/
/-- f(..): the written arguments, then the defaults dvs; E: what is wanted of an exception -/
def tCall (sp : Sp) (dvs : List V) (E : XK) (t : TA) : TE := fun σ H Q => t σ H fun vs H1 => sp (vs ++ dvs) H1 Q E
/-- o.m(..) of an instance of the class at C -/
def tMeth (C : Addr) (m : Str) (sp : Sp) (dvs : List V) (E : XK) (ta : TE) (t : TA) : TE := fun σ H Q => ta σ H fun x H1 => ∃ a dx fs, x = .ref a ∧ H1 a = some (.ins C dx fs) ∧ fs.lookup m = none ∧
  t σ H1 fun vs H2 => sp (x :: (vs ++ dvs)) H2 Q E
/-- C(..): a new instance and its dict, then __init__ -/
def tMake (C : Addr) (sp : Sp) (dvs : List V) (E : XK) (t : TA) : TE := fun σ H Q => t σ H fun vs H1 => ∀ x dx, H1 x = none → H1 dx = none → dx ≠ x →
  sp (.ref x :: (vs ++ dvs)) (upd (upd H1 dx (.own x)) x (.ins C dx [])) (fun v H2 => v = .non ∧ Q (.ref x) H2) E

/-- how the parameters are bound: us the positional arguments, kw the keywords' values by name, ds the defaults that fill up -/
def Binds (K : PySem.W.Frag) (fd : FuncData) (ps : List Str) (ds : List Value) : Prop :=
  ∀ (s : Shared) (us : List Value), K.In s.heap → (us ++ ds).length = ps.length → BindsTo s fd ⟨us, []⟩ (ps.zip (us ++ ds))
/-- every parameter is given -/
theorem Binds.all {K : PySem.W.Frag} {fd : FuncData} {ps : List Str} (h : ∀ us : List Value, us.length = ps.length → bindArgs fd ⟨us, []⟩ = pure (ps.zip us)) : Binds K fd ps [] := fun s us _ hl => by
  rw [List.append_nil] at hl ⊢
  exact .of_eq (h us hl)

/-- an exception of a callee reaches what this body wants of exceptions -/
def Passes (CX : CXT) (X : Cx) (E : XK) : Prop := ∀ (pins : List (Addr × Obj)) (σ : St) (H : Hp) (s : Shared) (e : Value) (s' : Shared), Inv X pins σ H s → CX X.stack H s E e s' → X.xe e s'

section
variable {X : Cx} {CX : CXT} {k : Nat} {f C : Addr} {fd : FuncData} {ps : List Str} {sp : Sp} {dvs : List V} {ds : List Value} {E : XK} {x m : Str} {p pos apos : Pos} {e o : Expr} {es : List Expr} {ta : TE} {t : TA}

/-- the callee runs -/
theorem run_fn {pins : List (Addr × Obj)} {σ : St} {H : Hp} {s : Shared} {Q : VK} {us : List Value} {vs : List V} (F : FnOk X.prog X.w X.K X.mg X.base CX k f fd ps sp) (hr : Room k X.A) (hb : Binds X.K fd ps ds) (hd : Vals dvs ds) (hx : Passes CX X E)
    (I : Inv X pins σ H s) (r : Vals vs us) (h : sp (vs ++ dvs) H Q E) : wpAny (model X.prog X.w) X.A (call (.ref f) us) (EP X pins σ Q) X.xe s := by
  have r2 : Vals (vs ++ dvs) (us ++ ds) := r.append hd
  have hl : (us ++ ds).length = ps.length := by rw [← r2.length]; exact F.len _ _ _ _ h
  refine wpAny_call (codeAny_mono (F.run X.A X.stack s H ⟨us, []⟩ (us ++ ds) (vs ++ dvs) Q E hr I.env0 (hb s us I.kIn hl) r2 h) fun r s' hq => ?_)
  cases r with
  | error e => exact hx pins σ H s e s' I hq
  | ok fl =>
    cases fl with
    | ret u => exact I.after hq
    | next => exact False.elim hq
    | brk => exact False.elim hq
    | cont => exact False.elim hq

theorem pe_call (F : FnOk X.prog X.w X.K X.mg X.base CX k f fd ps sp) (hr : Room k X.A) (hg : Gl X x) (hm : X.mg x = some (.ref f)) (hk : PySem.W.keepIn X.K (.ref f) = true) (hb : Binds X.K fd ps ds) (hd : Vals dvs ds) (hx : Passes CX X E)
    (ha : PA X (e :: es) t) (hdb : (x == ("__debug__" : Str)) = false := by decide) (he : starEach (e :: es) X.env = (false, eval e X.env) :: starEach es X.env := by rfl) (hpl : (backTo pos (starEach es X.env)).any (·.1) = false := by rfl) :
    PE X (.Call (.Name x p) (e :: es) [] pos) (tCall sp dvs E t) := by
  intro pins s σ H Q I h
  refine wpAny_Call_Name_kw (ld_glob I hg hm ?_ hdb)
  refine PySem.W.callWith_K (h₀ := X.base) I.ok.mod.kin hk (thn (ha pos pins s σ H _ I h) fun us s1 ⟨vs, H1, I1, r, q⟩ => ⟨I1.kIn, ?_⟩) he hpl
  exact run_fn F hr hb hd hx I1 r q
theorem pe_call0 (F : FnOk X.prog X.w X.K X.mg X.base CX k f fd ps sp) (hr : Room k X.A) (hg : Gl X x) (hm : X.mg x = some (.ref f)) (hk : PySem.W.keepIn X.K (.ref f) = true) (hb : Binds X.K fd ps ds) (hd : Vals dvs ds) (hx : Passes CX X E)
    (hdb : (x == ("__debug__" : Str)) = false := by decide) : PE X (.Call (.Name x p) [] [] pos) (tCall sp dvs E tNil) := by
  intro pins s σ H Q I h
  refine wpAny_Call_Name_kw (ld_glob I hg hm ?_ hdb)
  exact PySem.W.callWith_K0 I.kIn hk (run_fn (us := []) F hr hb hd hx I .nil h)

/-- o.m(e, ..) -/
theorem pe_meth {pl : Sem Bool} (he : PE X o ta) (c : Cls X.K C) (hm : Meth X.K C m f) (F : FnOk X.prog X.w X.K X.mg X.base CX k f fd ps sp) (hr : Room k X.A) (hb : Binds X.K fd ps ds) (hd : Vals dvs ds) (hx : Passes CX X E) (ha : PA X (e :: es) t)
    (hst : starEach (e :: es) X.env = (false, eval e X.env) :: starEach es X.env := by rfl) (hpl : (backTo pos (starEach es X.env)).any (·.1) = false := by rfl)
    (ht : eval (.Call (.Attribute o m apos) (e :: es) [] pos) X.env = (do
      let ov ← eval o X.env
      standAt apos.atName
      let (f, first) ← holding [ov] (getMethod ov m pl)
      callWith pos f first (backTo pos (starEach (e :: es) X.env)) (backToKw pos (keywordEach [] X.env))) := by rfl) :
    PE X (.Call (.Attribute o m apos) (e :: es) [] pos) (tMeth C m sp dvs E ta t) := by
  intro pins s σ H Q I h
  refine PySem.W.methodCall_KW (pl := pl) (thn (he pins s σ H _ I h) fun u s1 ⟨x, H1, I1, rx, a, dx, fs, ex, ea, l, q⟩ => ?_) ht
  subst ex
  obtain rfl : u = Value.ref a := rx
  refine getmeth_ok I1 ea c hm l ?_
  refine PySem.W.callWith_K (first := [.ref a]) (h₀ := X.base) I.ok.mod.kin hm.kp (thn (ha pos pins s1 σ H1 _ I1 q) fun us s2 ⟨vs, H2, I2, r, q2⟩ => ⟨I2.kIn, ?_⟩) hst hpl
  exact run_fn (us := .ref a :: us) (vs := .ref a :: vs) F hr hb hd hx I2 (.cons rfl r) q2
/-- o.m() -/
theorem pe_meth0 {pl : Sem Bool} (he : PE X o ta) (c : Cls X.K C) (hm : Meth X.K C m f) (F : FnOk X.prog X.w X.K X.mg X.base CX k f fd ps sp) (hr : Room k X.A) (hb : Binds X.K fd ps ds) (hd : Vals dvs ds) (hx : Passes CX X E)
    (ht : eval (.Call (.Attribute o m apos) [] [] pos) X.env = (do
      let ov ← eval o X.env
      standAt apos.atName
      let (f, first) ← holding [ov] (getMethod ov m pl)
      callWith pos f first (backTo pos (starEach [] X.env)) (backToKw pos (keywordEach [] X.env))) := by rfl) :
    PE X (.Call (.Attribute o m apos) [] [] pos) (tMeth C m sp dvs E ta tNil) := by
  intro pins s σ H Q I h
  refine PySem.W.methodCall_KW (pl := pl) (thn (he pins s σ H _ I h) fun u s1 ⟨x, H1, I1, rx, a, dx, fs, ex, ea, l, q⟩ => ?_) ht
  subst ex
  obtain rfl : u = Value.ref a := rx
  refine getmeth_ok I1 ea c hm l ?_
  exact PySem.W.callWith_K0 (first := [.ref a]) I1.kIn hm.kp (run_fn (us := [.ref a]) (vs := [.ref a]) F hr hb hd hx I1 (.cons rfl .nil) q)

/-- what a class must have to be made -/
structure Mk (K : PySem.W.Frag) (C f : Addr) : Prop where
  makes : PySem.W.makesIn K C = true
  init : PySem.W.findIn K (.ref C) "__init__" = some (some (.ref f))
  fn : PySem.W.isFn K (.ref f) = true
  kp : PySem.W.keepIn K (.ref C) = true

theorem run_make {pins : List (Addr × Obj)} {σ : St} {H : Hp} {s : Shared} {Q : VK} {us : List Value} {vs : List V} (M : Mk X.K C f) (F : FnOk X.prog X.w X.K X.mg X.base CX k f fd ps sp) (hr : Room (k + 1) X.A) (hb : Binds X.K fd ps ds) (hd : Vals dvs ds)
    (hx : Passes CX X E) (I : Inv X pins σ H s) (r : Vals vs us)
    (h : ∀ x dx, H x = none → H dx = none → dx ≠ x → sp (.ref x :: (vs ++ dvs)) (upd (upd H dx (.own x)) x (.ins C dx [])) (fun v H2 => v = .non ∧ Q (.ref x) H2) E) :
    wpAny (model X.prog X.w) X.A (call (.ref C) us) (EP X pins σ Q) X.xe s := by
  have hq := h (s.heap.objs.size + 1) s.heap.objs.size (I.hok.fresh (Nat.le_succ _)) (I.hok.fresh (Nat.le_refl _)) (Nat.ne_of_lt (Nat.lt_succ_self _))
  have I2 := Inv.made (C := C) I
  have r2 : Vals (V.ref (s.heap.objs.size + 1) :: (vs ++ dvs)) (Value.ref (s.heap.objs.size + 1) :: (us ++ ds)) := .cons rfl (r.append hd)
  have hl : (Value.ref (s.heap.objs.size + 1) :: us ++ ds).length = ps.length := by
    have e := r2.length
    rw [F.len _ _ _ _ hq] at e
    exact e.symm
  refine wpAny_call (make_map (f := f) I.kIn M.makes M.init (beq_iff_eq.mp M.fn) (codeAny_mono (F.run _ X.stack _ _ ⟨Value.ref (s.heap.objs.size + 1) :: us, []⟩ (Value.ref (s.heap.objs.size + 1) :: (us ++ ds)) _ _ E (hr.make C us [])
    (I2.env0.make C us []) (hb _ (Value.ref (s.heap.objs.size + 1) :: us) I2.kIn hl) r2 hq) fun r s' hq' => ?_))
  cases r with
  | error e => exact hx pins σ _ _ e s' I2 hq'
  | ok fl =>
    cases fl with
    | ret u =>
      obtain ⟨v, H', I3, rv, ev, q3⟩ := I2.after hq'
      subst ev
      exact ⟨rv, ⟨V.ref (s.heap.objs.size + 1), H', I3, rfl, q3⟩⟩
    | next => exact False.elim hq'
    | brk => exact False.elim hq'
    | cont => exact False.elim hq'
theorem pe_make (M : Mk X.K C f) (F : FnOk X.prog X.w X.K X.mg X.base CX k f fd ps sp) (hr : Room (k + 1) X.A) (hg : Gl X x) (hm : X.mg x = some (.ref C)) (hb : Binds X.K fd ps ds) (hd : Vals dvs ds) (hx : Passes CX X E)
    (ha : PA X (e :: es) t) (hdb : (x == ("__debug__" : Str)) = false := by decide) (he : starEach (e :: es) X.env = (false, eval e X.env) :: starEach es X.env := by rfl) (hpl : (backTo pos (starEach es X.env)).any (·.1) = false := by rfl) :
    PE X (.Call (.Name x p) (e :: es) [] pos) (tMake C sp dvs E t) := by
  intro pins s σ H Q I h
  refine wpAny_Call_Name_kw (ld_glob I hg hm ?_ hdb)
  refine PySem.W.callWith_K (h₀ := X.base) I.ok.mod.kin M.kp (thn (ha pos pins s σ H _ I h) fun us s1 ⟨vs, H1, I1, r, q⟩ => ⟨I1.kIn, ?_⟩) he hpl
  exact run_make M F hr hb hd hx I1 r q
theorem pe_make0 (M : Mk X.K C f) (F : FnOk X.prog X.w X.K X.mg X.base CX k f fd ps sp) (hr : Room (k + 1) X.A) (hg : Gl X x) (hm : X.mg x = some (.ref C)) (hb : Binds X.K fd ps ds) (hd : Vals dvs ds) (hx : Passes CX X E)
    (hdb : (x == ("__debug__" : Str)) = false := by decide) : PE X (.Call (.Name x p) [] [] pos) (tMake C sp dvs E tNil) := by
  intro pins s σ H Q I h
  refine wpAny_Call_Name_kw (ld_glob I hg hm ?_ hdb)
  exact PySem.W.callWith_K0 I.kIn M.kp (run_make (us := []) M F hr hb hd hx I .nil h)
end

/-! ### keywords -/
/-- the values of the keywords, from the left -/
def PK (X : Cx) (kws : List Keyword) (t : TA) : Prop :=
  ∀ (pos : Pos) (pins : List (Addr × Obj)) (s : Shared) (σ : St) (H : Hp) (Q : List V → Hp → Prop), Inv X pins σ H s → t σ H Q → wpAny (model X.prog X.w) X.A (evalAll ((backToKw pos (keywordEach kws X.env)).map (·.2))) (AP X pins σ Q) X.xe s
section
variable {X : Cx} {CX : CXT} {k : Nat} {f C : Addr} {fd : FuncData} {ps ks : List Str} {sp : Sp} {E : XK} {x m : Str} {p pos apos kpos : Pos} {e o : Expr} {es : List Expr} {kws : List Keyword} {te ta : TE} {t tk : TA} {nm : Option Str}
theorem pk_nil : PK X [] tNil := fun _ _ _ _ H Q I h => wpAny_evalAll_nil ⟨[], H, I, .nil, h⟩
theorem pk_cons (ha : PE X e te) (hr : PK X kws t) : PK X (⟨nm, e, kpos⟩ :: kws) (tCons te t) := by
  intro pos pins s σ H Q I h
  show wpAny _ _ (evalAll ((do let v ← eval e X.env; standAt pos; pure v) :: (backToKw pos (keywordEach kws X.env)).map (·.2))) _ _ s
  refine wpAny_evalAll_cons (wpAny_bind (thn (ha pins s σ H _ I h) fun u s1 ⟨x, H1, I1, r1, q1⟩ => wpAny_bind (wpAny_standAt (wpAny_pure ?_))))
  exact thn (hr pos pins s1 σ H1 _ I1 q1) fun us s2 ⟨xs, H2, I2, r2, q2⟩ => ⟨x :: xs, H2, I2, .cons r1 r2, q2⟩

/-- how a call with keywords binds: g puts the positional values us and the keywords' values ws (names ks) in the parameters' order, defaults among them -/
structure KBinds (K : PySem.W.Frag) (fd : FuncData) (ps ks : List Str) (g : List Value → List Value → List Value) (gV : List V → List V → List V) : Prop where
  to : ∀ (s : Shared) (us ws : List Value), K.In s.heap → (g us ws).length = ps.length → BindsTo s fd ⟨us, ks.zip ws⟩ (ps.zip (g us ws))
  rel : ∀ {vs : List V} {us : List Value} {zs : List V} {ws : List Value}, Vals vs us → Vals zs ws → Vals (gV vs zs) (g us ws)
def tCallK (sp : Sp) (gV : List V → List V → List V) (E : XK) (t tk : TA) : TE := fun σ H Q => t σ H fun vs H1 => tk σ H1 fun zs H2 => sp (gV vs zs) H2 Q E
variable {g : List Value → List Value → List Value} {gV : List V → List V → List V}
theorem run_fnk {pins : List (Addr × Obj)} {σ : St} {H : Hp} {s : Shared} {Q : VK} {us ws : List Value} {vs zs : List V} (F : FnOk X.prog X.w X.K X.mg X.base CX k f fd ps sp) (hr : Room k X.A) (hb : KBinds X.K fd ps ks g gV) (hx : Passes CX X E)
    (I : Inv X pins σ H s) (r : Vals vs us) (rz : Vals zs ws) (h : sp (gV vs zs) H Q E) : wpAny (model X.prog X.w) X.A (call (.ref f) us (ks.zip ws)) (EP X pins σ Q) X.xe s := by
  have r2 := hb.rel r rz
  have hl : (g us ws).length = ps.length := by rw [← r2.length]; exact F.len _ _ _ _ h
  refine wpAny_call (codeAny_mono (F.run X.A X.stack s H ⟨us, ks.zip ws⟩ (g us ws) (gV vs zs) Q E hr I.env0 (hb.to s us ws I.kIn hl) r2 h) fun r s' hq => ?_)
  cases r with
  | error e => exact hx pins σ H s e s' I hq
  | ok fl =>
    cases fl with
    | ret u => exact I.after hq
    | next => exact False.elim hq
    | brk => exact False.elim hq
    | cont => exact False.elim hq
/-- f(e, .., k = v, ..) -/
theorem pe_callK (F : FnOk X.prog X.w X.K X.mg X.base CX k f fd ps sp) (hr : Room k X.A) (hg : Gl X x) (hm : X.mg x = some (.ref f)) (hk : PySem.W.keepIn X.K (.ref f) = true) (hb : KBinds X.K fd ps ks g gV) (hx : Passes CX X E)
    (ha : PA X (e :: es) t) (hkw : PK X kws tk) (hall : (backToKw pos (keywordEach kws X.env)).all (·.1.isSome) = true := by rfl) (hks : (backToKw pos (keywordEach kws X.env)).filterMap (·.1) = ks := by rfl)
    (hdb : (x == ("__debug__" : Str)) = false := by decide) (he : starEach (e :: es) X.env = (false, eval e X.env) :: starEach es X.env := by rfl)
    (hpl : ((backTo pos (starEach (e :: es) X.env)).any (·.1) || (backToKw pos (keywordEach kws X.env)).any (·.1.isNone)) = false := by rfl) :
    PE X (.Call (.Name x p) (e :: es) kws pos) (tCallK sp gV E t tk) := by
  intro pins s σ H Q I h
  refine wpAny_Call_Name_kw (ld_glob I hg hm ?_ hdb)
  refine PySem.W.callWith_KW (h₀ := X.base) I.ok.mod.kin hk hall (thn (ha pos pins s σ H _ I h) fun us s1 ⟨vs, H1, I1, r, q⟩ => ?_) hpl he
  refine thn (hkw pos pins s1 σ H1 _ I1 q) fun ws s2 ⟨zs, H2, I2, rz, q2⟩ => ⟨I2.kIn, ?_⟩
  rw [hks]
  exact run_fnk F hr hb hx I2 r rz q2
end

/-! ### a def's body keeps its promise -/
/-- names: the parameters first -/
structure FnScope (N P : List Str) (sc : Scope) : Prop where
  kind : sc.kind = .function
  co : sc.isCoroutine = false
  gen : sc.isGenerator = false
  nd : N.Nodup
  pre : N.take P.length = P
  par : ∀ x ∈ P, sc.names.lookup x = some .local ∨ sc.names.lookup x = some .cell
  nofree : ∀ y ∈ sc.names, y.2 ≠ .free

theorem bindL_out {kindOf : Str → Option NameKind} {x : Str} : ∀ {binds : List (Str × Value)} {m : Str → Option Value}, (∀ v, (x, v) ∉ binds) → bindL kindOf binds m x = m x
  | [], _, _ => rfl
  | (n, v) :: r, m, h => by
    unfold bindL
    rw [bindL_out fun w hw => h w (List.mem_cons_of_mem _ hw)]
    split
    · have : x ≠ n := by rintro rfl; exact h v List.mem_cons_self
      simp [this]
    · rfl
theorem bindC_out {kindOf : Str → Option NameKind} {x : Str} : ∀ {binds : List (Str × Value)} {m : Str → Option Value}, (∀ v, (x, v) ∉ binds) → bindC kindOf binds m x = m x
  | [], _, _ => rfl
  | (n, v) :: r, m, h => by
    unfold bindC
    rw [bindC_out fun w hw => h w (List.mem_cons_of_mem _ hw)]
    split
    · rfl
    · have : x ≠ n := by rintro rfl; exact h v List.mem_cons_self
      simp [this]
theorem bindL_get {kindOf : Str → Option NameKind} {x : Str} {v : Value} : ∀ {P : List Str} {vs : List Value} {i : Nat} {m : Str → Option Value}, P.Nodup → P[i]? = some x → vs[i]? = some v → kindOf x = some .local →
    bindL kindOf (P.zip vs) m x = some v
  | [], _, _, _, _, h, _, _ => by simp at h
  | _ :: _, [], _, _, _, _, h, _ => by simp at h
  | p :: P, w :: vs, 0, m, nd, h1, h2, hk => by
    simp at h1 h2; subst h1; subst h2
    show bindL kindOf ((p, w) :: P.zip vs) m p = _
    unfold bindL
    rw [bindL_out fun v hv => (List.nodup_cons.mp nd).1 (List.of_mem_zip hv).1, if_pos hk]
    simp
  | p :: P, w :: vs, i + 1, m, nd, h1, h2, hk => by
    show bindL kindOf ((p, w) :: P.zip vs) m x = _
    unfold bindL
    exact bindL_get (i := i) (List.nodup_cons.mp nd).2 (by simpa using h1) (by simpa using h2) hk
theorem bindC_get {kindOf : Str → Option NameKind} {x : Str} {v : Value} : ∀ {P : List Str} {vs : List Value} {i : Nat} {m : Str → Option Value}, P.Nodup → P[i]? = some x → vs[i]? = some v → kindOf x ≠ some .local →
    bindC kindOf (P.zip vs) m x = some v
  | [], _, _, _, _, h, _, _ => by simp at h
  | _ :: _, [], _, _, _, _, h, _ => by simp at h
  | p :: P, w :: vs, 0, m, nd, h1, h2, hk => by
    simp at h1 h2; subst h1; subst h2
    show bindC kindOf ((p, w) :: P.zip vs) m p = _
    unfold bindC
    rw [bindC_out fun v hv => (List.nodup_cons.mp nd).1 (List.of_mem_zip hv).1, if_neg hk]
    simp
  | p :: P, w :: vs, i + 1, m, nd, h1, h2, hk => by
    show bindC kindOf ((p, w) :: P.zip vs) m x = _
    unfold bindC
    exact bindC_get (i := i) (List.nodup_cons.mp nd).2 (by simpa using h1) (by simpa using h2) hk

/-- the names' values at the entry -/
def start (N : List Str) (vs : List V) : St := vs.map some ++ List.replicate (N.length - vs.length) none

/-- the context of a def's body, at its entry; an exception leaves the frame, then lies as CX says -/
def cxOf (CX : CXT) (P : Program) (w : World) (K : PySem.W.Frag) (mg : Str → Option Value) (base : Heap) (N : List Str) (qual : Str) (scope : Scope) (f : Addr) (cd : Value) (A : Around) (outer : List Env) (s : Shared) (H : Hp) (E : XK) : Cx where
  prog := P
  w := w
  K := K
  mg := mg
  base := base
  A := A.deeper (envOfC qual scope s.heap.objs.size f cd)
  N := N
  s₀ := s
  H₀ := H
  env := envOfC qual scope s.heap.objs.size f cd
  outer := outer
  stack := envOfC qual scope s.heap.objs.size f cd :: outer
  ex := []
  calm := true
  fn := fun _ => true
  pn := []
  xe := fun e s' => wpAny (model P w) (A.deeper (envOfC qual scope s.heap.objs.size f cd)) (leaving (envOfC qual scope s.heap.objs.size f cd) e) (fun _ s'' => CX outer H s E e s'') (fun e' s'' => CX outer H s E e' s'') s'

theorem cell_has {sc : Scope} {n : Nat} {x : Str} (h : sc.names.lookup x = some .cell) : ∃ c, (cellsFrom n sc.names []).lookup x = some c := by
  have q := PySem.W.cellsFrom_some sc.names n [] (.inl h)
  exact Option.isSome_iff_exists.mp q

theorem inv_start {CX : CXT} {P : Program} {w : World} {K : PySem.W.Frag} {mg : Str → Option Value} {base : Heap} {N ps : List Str} {qual : Str} {scope : Scope} {f : Addr} {cd : Value} {A : Around} {outer : List Env} {s s1 : Shared} {H : Hp} {E : XK} {us : List Value} {vs : List V}
    (S : FnScope N ps scope) (hd : A.handled = none) (e0 : Env0 P w K mg base A outer s H) (hl : vs.length = ps.length) (r : Vals vs us)
    (x : InCallC s s.heap.objs.size (bindL (envOfC qual scope s.heap.objs.size f cd).kindOf (ps.zip us) fun _ => none) (cellsFrom (s.heap.objs.size + 1) scope.names []) (bindC (envOfC qual scope s.heap.objs.size f cd).kindOf (ps.zip us) fun _ => none) s1) :
    Inv (cxOf CX P w K mg base N qual scope f cd A outer s H E) [] (start N vs) H s1 := by
  have hpl : ps.length ≤ N.length := by have := congrArg List.length S.pre; rw [List.length_take] at this; omega
  obtain ⟨h1, tk, rfl, hk⟩ := x.done
  have noA : ∀ b : Addr, b ∉ (cxOf CX P w K mg base N qual scope f cd A outer s H E).ex := fun b z => absurd (show b ∈ ([] : List Addr) from z) (by simp)
  refine ⟨⟨e0.mod, S.kind, rfl, rfl, Nat.le_refl _, fun y z c h1 h2 => ?_, fun y hy => ?_, fun y c _ h => ?_, fun _ => hd, Around.frames_deeper e0.frames, .inr ⟨rfl, rfl⟩, fun b z => absurd z (noA b), e0.bs, e0.bsz, fun b _ _ => noA b, fun b z => absurd z (noA b), e0.funs, e0.frf⟩,
    rfl, e0.bare, Un.kept hk, ⟨_, x.toInCall.ns, fun i y v h1 h2 h3 => ?_⟩, fun y c h => ⟨_, x.cell y c h⟩, e0.hok.fresh (Nat.le_refl _), fun y c h => ?_, fun p hp => absurd (show p ∈ ([] : List (Addr × Obj)) from hp) (by simp), e0.hok.kept hk, ?_⟩
  · exact name_of_addr x.apart (PySem.mem_of_lookup h1) (PySem.mem_of_lookup h2)
  · have hy : scope.names.lookup y = some .cell ∨ scope.names.lookup y = some .free := hy
    rcases hy with hy | hy
    · exact cell_has hy
    · exact absurd rfl (S.nofree _ (PySem.mem_of_lookup hy))
  · exact Nat.le_of_lt (x.above y c (PySem.mem_of_lookup h))
  · have hi : i < vs.length := by
      unfold start at h2
      by_cases hi : i < vs.length
      · exact hi
      · rw [List.getElem?_append_right (by simpa using hi)] at h2
        rw [List.getElem?_replicate] at h2
        split at h2 <;> cases h2
    have ha : vs[i]? = some v := by
      unfold start at h2
      rw [List.getElem?_append_left (by simpa using hi), List.getElem?_map] at h2
      cases e : vs[i]? with
      | none => rw [e] at h2; cases h2
      | some a => rw [e] at h2; cases h2; rfl
    obtain ⟨u, hu, rv⟩ := r.get ha
    have hp : ps[i]? = some y := by
      rw [← S.pre, List.getElem?_take_of_lt (by omega)]; exact h1
    have ndP : ps.Nodup := by rw [← S.pre]; exact S.nd.sublist (List.take_sublist _ _)
    refine ⟨u, rv, ?_⟩
    rcases S.par y (List.mem_of_getElem? hp) with k | k
    · exact .inl ⟨k, bindL_get ndP hp hu k⟩
    · obtain ⟨c, e⟩ := cell_has (n := s.heap.objs.size + 1) k
      refine .inr ⟨.inl k, c, e, ?_⟩
      have q := x.cell y c e
      rw [bindC_get ndP hp hu (by show scope.names.lookup y ≠ _; rw [k]; decide)] at q
      exact q
  · exact e0.hok.fresh (Nat.le_of_lt (x.above y c (PySem.mem_of_lookup h)))
  · unfold start
    show _ = N.length
    rw [List.length_append, List.length_map, List.length_replicate]
    omega

/-- THE RULE: a def (or a method) of the text, by its body. The body's reading t is chosen for each entry; it is run at the parameters' values -/
theorem fn_of {CX : CXT} {P : Program} {w : World} {K : PySem.W.Frag} {mg : Str → Option Value} {base : Heap} {k : Nat} {f : Addr} {name qual : Str} {params : Arguments} {body : List Stmt} {scope : Scope} {dV kV doc pm cdv ct oc : Value} {an od : Option Addr}
    {osl : Array (Option Value)} {N ps : List Str} {sp : Sp} (lk : K.lookup f = some ⟨oc, od, .func (PySem.W.fnOf name qual params body scope dV kV doc pm an cdv ct), osl⟩) (hcd : PySem.W.codeIn K cdv qual = true) (S : FnScope N ps scope)
    (len : ∀ vs H Q E, sp vs H Q E → vs.length = ps.length)
    (hbody : ∀ (A : Around) (outer : List Env) (s : Shared) (H : Hp) (vs : List V) (Q : VK) (E : XK), Room k (A.deeper (envOfC qual scope s.heap.objs.size f cdv)) → sp vs H Q E →
      ∃ t, PSs (cxOf CX P w K mg base N qual scope f cdv A outer s H E) body t ∧ t { nx := fun _ H' => Q .non H', rt := Q } (start N vs) H) :
    FnOk P w K mg base CX (k + 1) f (PySem.W.fnOf name qual params body scope dV kV doc pm an cdv ct) ps sp := by
  refine ⟨len, fun A outer s H args us vs Q E hr e0 hb r hsp => ?_⟩
  have hl := len _ _ _ _ hsp
  have KX : K.In s.heap := e0.mod.kin.keeps fun b o e => (e0.bs b o e).1
  have lim : s.heap.NoLimit := e0.mod.nolimit.keeps fun b o e => (e0.bs b o e).1
  have hkind : ∀ y ∈ ps.zip us, scope.names.lookup y.1 = some .local ∨ (scope.names.lookup y.1 = some .cell ∧ ((cellsFrom (s.heap.objs.size + 1) scope.names []).lookup y.1).isSome = true) := fun ⟨n, v⟩ hy => by
    rcases S.par n (List.of_mem_zip hy).1 with q | q
    · exact .inl q
    · exact .inr ⟨q, PySem.W.cellsFrom_some _ _ _ (.inl q)⟩
  refine codeAny_call_function hr.depth (KX _ _ lk) rfl S.co S.gen rfl (PySem.W.codeRec_of KX hcd) (hb _ _ _ _ ?_)
  refine wpAny_newFunctionEnv_cells S.kind hkind fun env he s1 x => ?_
  subst he
  refine ⟨lim.keeps x.toInCall.keep, codeAny_func ?_⟩
  obtain ⟨t, ht, hq⟩ := hbody A outer s H vs Q E (hr.deeper _) hsp
  have I : Inv (cxOf CX P w K mg base N qual scope f cdv A outer s H E) [] (start N vs) H s1 := inv_start S hr.hd e0 hl r x
  refine wpAny_mono (ht [] s1 (start N vs) H _ I hq) (fun fl s' hs => ?_) fun e s' hs => hs
  have fin : ∀ {σ' : St} {H' : Hp} {v : V} {u : Value}, Inv (cxOf CX P w K mg base N qual scope f cdv A outer s H E) [] σ' H' s' → RelV v u → Q v H' → CE outer P w H s Q u s' :=
    fun {σ' H' v u} J rv q => ⟨v, H', J.os, J.bare, J.base, J.hok, rv, q⟩
  cases fl with
  | ret u =>
    obtain ⟨v, σ', H', J, rv, q⟩ := hs
    exact fin J rv q
  | next =>
    obtain ⟨σ', H', J, q⟩ := hs
    exact fin (v := V.non) (u := Value.none) J rfl q
  | brk =>
    obtain ⟨_, _, _, q⟩ := hs
    exact False.elim q
  | cont =>
    obtain ⟨_, _, _, q⟩ := hs
    exact False.elim q
end L2

namespace L2
open PySem PySem.Spec PyProof.Rows
section
variable {X : Cx} {x : Str} {p pos : Pos} {e : Expr} {es : List Expr} {t : TA} {id T : String} {r : List V → Hp → VK → Prop}

def tCB (r : List V → Hp → VK → Prop) (t : TA) : TE := fun σ H Q => t σ H fun vs H1 => r vs H1 Q
/-- f(e, ..), f a built-in function -/
theorem pe_callB (hc : CallR X (.builtin id) r) (hg : Gl X x) (hm : X.mg x = none) (hv : bootBuiltins x = some (.builtin id)) (ha : PA X (e :: es) t) (hn : x ≠ "__name__" := by decide) (hdb : (x == ("__debug__" : Str)) = false := by decide)
    (he : starEach (e :: es) X.env = (false, eval e X.env) :: starEach es X.env := by rfl) (hpl : (backTo pos (starEach es X.env)).any (·.1) = false := by rfl) : PE X (.Call (.Name x p) (e :: es) [] pos) (tCB r t) := by
  intro pins s σ H Q I h
  refine wpAny_Call_Name_kw (ld_blt I hg hm hv ?_ hn hdb)
  exact PyProof.Rows.callWith_builtin1 (thn (ha pos pins s σ H _ I h) fun us s1 ⟨vs, H1, I1, r1, q1⟩ => hc pins s1 σ H1 vs us Q I1 r1 q1) he hpl
/-- T(e, ..), T a built-in type -/
theorem pe_callTy (hc : CallR X (.type T) r) (hg : Gl X x) (hm : X.mg x = none) (hv : bootBuiltins x = some (.type T)) (ha : PA X (e :: es) t) (hn : x ≠ "__name__" := by decide) (hdb : (x == ("__debug__" : Str)) = false := by decide)
    (he : starEach (e :: es) X.env = (false, eval e X.env) :: starEach es X.env := by rfl) (hpl : (backTo pos (starEach es X.env)).any (·.1) = false := by rfl) : PE X (.Call (.Name x p) (e :: es) [] pos) (tCB r t) := by
  intro pins s σ H Q I h
  refine wpAny_Call_Name_kw (ld_blt I hg hm hv ?_ hn hdb)
  exact PyProof.Rows.callWith_type1 (thn (ha pos pins s σ H _ I h) fun us s1 ⟨vs, H1, I1, r1, q1⟩ => hc pins s1 σ H1 vs us Q I1 r1 q1) he hpl
/-- T() -/
theorem pe_callTy0 (hc : CallR X (.type T) r) (hg : Gl X x) (hm : X.mg x = none) (hv : bootBuiltins x = some (.type T)) (hn : x ≠ "__name__" := by decide) (hdb : (x == ("__debug__" : Str)) = false := by decide) :
    PE X (.Call (.Name x p) [] [] pos) (tCB r tNil) := by
  intro pins s σ H Q I h
  refine wpAny_Call_Name_kw (ld_blt I hg hm hv ?_ hn hdb)
  exact PyProof.Rows.callWith_type0 (hc pins s σ H [] [] Q I .nil h)
end
end L2

namespace HT
open PySem PyProof.Rows

/-- t < u of tuples of ints -/
def lexLt : List Int → List Int → Bool
  | [], [] => false
  | [], _ :: _ => true
  | _ :: _, [] => false
  | x :: xs, y :: ys => if x = y then lexLt xs ys else decide (x < y)
theorem lexLt_cons (x y : Int) (xs ys : List Int) : lexLt (x :: xs) (y :: ys) = if x = y then lexLt xs ys else decide (x < y) := rfl
theorem lexLt_nil_nil : lexLt [] [] = false := rfl
theorem lexLt_nil_cons (y : Int) (ys : List Int) : lexLt [] (y :: ys) = true := rfl
theorem lexLt_cons_nil (x : Int) (xs : List Int) : lexLt (x :: xs) [] = false := rfl

theorem eqAt_int (A : Around) (s : Shared) (a : Int) (t : Tok) (c : Int) (u : Tok) : ∃ e, SeqAt.EqAt A s (.int a t) (.int c u) e ∧ (e = true ↔ a = c) :=
  ⟨(a == c), SeqAt.EqAt.int_int a t c u, by simp⟩
theorem rcLt_int (A : Around) (s : Shared) (a : Int) (t : Tok) (c : Int) (u : Tok) (prog : Program) (w : World) (E : Value → Shared → Prop) (Q : Value → Shared → Prop) (h : Q (.bool (decide (a < c))) s) :
    wpAny (model prog w) A (richCompare .Lt (.int a t) (.int c u)) Q E s :=
  (PyProof.Rows.lt_int h : wpAny (model prog w) A (compareOp .Lt (.int a t) (.int c u)) Q E s)

section
open PySem.SeqAt
open PySem.AutoSeq1 (wpAny_loadPart')
open PySem.MeetsSeq PySem.MeetsSeq2 PySem.MeetsSeq3

theorem tuple_lt_ints (l b : Addr) (items items2 : Array Value) (n n2 : Nat) (dd dd2 : Option Addr) (sl sl2 : Array (Option Value)) (ns ms : List Int) (hi : IntsAre items.toList ns) (hj : IntsAre items2.toList ms) :
    Meets (Builtin.«tuple.__lt__» ⟨[.ref l, .ref b], []⟩)
      (fun _ R s => s.heap.get? l = some { cls := .type "tuple", dict := dd, data := .seq items n, slots := sl } ∧ s.heap.get? b = some { cls := .type "tuple", dict := dd2, data := .seq items2 n2, slots := sl2 } ∧
        R (.ok (.ret (.bool (lexLt ns ms)))) s) :=
  .of_wp fun prog w A R s h => by
    obtain ⟨hp, g, d, tk, os⟩ := s; obtain ⟨hl, hb, h⟩ := h
    have f2 := AutoSeq1.sub_tuple_tuple
    have z1 : items.size = ns.length := by rw [← hi.length]; simp
    have z2 : items2.size = ms.length := by rw [← hj.length]; simp
    wp_walk using wpAny_loadPart' hl, wpAny_loadPart' hb, wpAny_forIn_list _ (fun rest b s' => b.1 = none ∧ s' = ⟨hp, g, d, tk, os⟩ ∧ ∃ (vs ws : List Value) (ns' ms' : List Int), rest = vs.zip ws ∧
      IntsAre vs ns' ∧ IntsAre ws ms' ∧ ns'.length + items2.size = ms'.length + items.size ∧ R (.ok (.ret (.bool (lexLt ns' ms')))) ⟨hp, g, d, tk, os⟩) _
    case turn =>
      rintro ⟨y, x⟩ rest b s' ⟨hb', rfl, vs, ws, ns', ms', hz, hvi, hwi, hlen, hR⟩
      cases hvi with
      | nil => rw [List.zip_nil_left] at hz; cases hz
      | cons a t hvi' =>
        cases hwi with
        | nil => rw [List.zip_nil_right] at hz; cases hz
        | cons c u hwi' =>
          rw [List.zip_cons_cons] at hz
          injection hz with hyx hrest
          injection hyx with hy hx
          subst hy hx
          rw [lexLt_cons] at hR
          simp only [List.length_cons] at hlen
          obtain ⟨e, he, hiff⟩ := eqAt_int A.in1 ⟨hp, g, d, tk, os⟩ a t c u
          refine wpAny_bind (he prog w _ _ ?_)
          cases e with
          | true =>
            rw [if_pos (hiff.mp rfl)] at hR
            wp_walk
            exact ⟨rfl, rfl, _, _, _, _, hrest, hvi', hwi', by omega, hR⟩
          | false =>
            rw [if_neg (fun q => absurd (hiff.mpr q) Bool.false_ne_true)] at hR
            have hri := rcLt_int A.in1 ⟨hp, g, d, tk, os⟩ a t c u prog w
            wp_walk using hri
            exact ⟨_, rfl, by simpa using hR⟩
    case fin =>
      rintro ⟨b1, b2⟩ s' ⟨hb', rfl, vs, ws, ns', ms', hz, hvi, hwi, hlen, hR⟩
      simp only at hb'
      subst hb'
      have hv : lexLt ns' ms' = decide (items.size < items2.size) := by
        cases hvi with
        | nil =>
          cases hwi with
          | nil =>
            simp only [List.length_nil] at hlen
            rw [lexLt_nil_nil]
            exact (decide_eq_false (by omega)).symm
          | cons c u hw =>
            simp only [List.length_nil, List.length_cons] at hlen
            rw [lexLt_nil_cons]
            exact (decide_eq_true (by omega)).symm
        | cons a t hv =>
          cases hwi with
          | nil =>
            simp only [List.length_nil, List.length_cons] at hlen
            rw [lexLt_cons_nil]
            exact (decide_eq_false (by omega)).symm
          | cons c u hw =>
            rw [List.zip_cons_cons] at hz
            cases hz
      rw [hv] at hR
      wp_walk
      exact ⟨_, rfl, by simpa [Builtin.Tuple.tupleCompareSizes] using hR⟩
    case h =>
      exact ⟨rfl, rfl, items.toList, items2.toList, ns, ms, rfl, hi, hj, by omega, h⟩
end

section
variable {prog : Program} {w : World} {A : Around} {E : Value → Shared → Prop} {s : Shared}

theorem lt_tupInts {l b : Addr} {items items2 : Array Value} {ns ms : List Int} {Q : Value → Shared → Prop} (hl : IsTup s.heap l items) (hb : IsTup s.heap b items2) (hi : IntsAre items.toList ns) (hj : IntsAre items2.toList ms)
    (hu : A.units < cLine) (h : Q (.bool (lexLt ns ms)) s) : wpAny (model prog w) A (compareOp .Lt (.ref l) (.ref b)) Q E s := by
  obtain ⟨⟨cls, dd, data, sl⟩, ho, hc, n, hd⟩ := id hl
  obtain ⟨⟨cls2, dd2, data2, sl2⟩, ho2, hc2, n2, hd2⟩ := id hb
  simp only at hc hd hc2 hd2
  subst hc hd hc2 hd2
  exact richCompare_meets_room (op := .Lt) ⟨_, ho, rfl⟩ ⟨_, ho2, rfl⟩ PySem.F.slot_tuple_lt PySem.F.entry_tuple_lt (PySem.F.args_tuple_lt_2 _ _) (tuple_lt_ints l b items items2 n n2 dd dd2 sl sl2 ns ms hi hj)
    ⟨ho, ho2, show Value.bool (lexLt ns ms) ≠ Value.notImplemented ∧ Q (.bool (lexLt ns ms)) s from ⟨(fun x => nomatch x), h⟩⟩ hu

/-- t + u, t not empty -/
theorem cat_tup {t b : Addr} {vs ws : List Value} {Q : Value → Shared → Prop} (ht : IsTup s.heap t vs.toArray) (hb : IsTup s.heap b ws.toArray) (hv : vs ≠ [])
    (h1 : ws = [] → Q (.ref t) s) (h2 : ws ≠ [] → Q (.ref s.heap.objs.size) { s with heap := s.heap.push { cls := .type "tuple", data := .seq (vs ++ ws).toArray } })
    (hsz : vs.length + ws.length ≤ sizeLine) : wpAny (model prog w) A (binaryOp .Add (.ref t) (.ref b)) Q E s := by
  obtain ⟨⟨cls, dd, data, sl⟩, ho, hc, n, hd⟩ := id ht
  obtain ⟨⟨cls2, dd2, data2, sl2⟩, ho2, hc2, n2, hd2⟩ := id hb
  simp only at hc hd hc2 hd2
  subst hc hd hc2 hd2
  have e : vs.toArray ++ ws.toArray = (vs ++ ws).toArray := by simp
  by_cases hw : ws = []
  · exact concat_meets ⟨_, ho, rfl⟩ ⟨_, ho2, rfl⟩ noFill_tuple_add seq_tuple_add PySem.F.slot_tuple_add PySem.F.entry_tuple_add (PySem.F.args_tuple_add_2 _ _)
      (tuple_addW1 t b vs.toArray ws.toArray n n2 dd dd2 sl sl2 (by simpa using hv) (by simp [hw])) ⟨ho, ho2, h1 hw⟩
  · refine concat_meets ⟨_, ho, rfl⟩ ⟨_, ho2, rfl⟩ noFill_tuple_add seq_tuple_add PySem.F.slot_tuple_add PySem.F.entry_tuple_add (PySem.F.args_tuple_add_2 _ _)
      (tuple_addW2 t b vs.toArray ws.toArray n n2 dd dd2 sl sl2 (by simpa using hv) (by simpa using hw) (by rw [List.size_toArray, List.size_toArray]; exact hsz)) ⟨ho, ho2, ?_⟩
    rw [e]
    exact h2 hw

/-! ### t[a:b], not the whole -/
/-- a slice's bound as a place among n (d where it is left out) -/
def sIx (n d : Nat) : Option Int → Nat
  | none => d
  | some v => if v < 0 then (v + (n : Int)).toNat else min v.toNat n
theorem sIx_none (n d : Nat) : sIx n d none = d := rfl
theorem sIx_nat (n d k : Nat) : sIx n d (some (k : Int)) = min k n := by
  show (if (k : Int) < 0 then ((k : Int) + (n : Int)).toNat else min (k : Int).toNat n) = min k n
  rw [if_neg (by omega), Int.toNat_natCast]
theorem sIx_le (n d : Nat) (hd : d ≤ n) (o : Option Int) : sIx n d o ≤ n := by
  cases o with
  | none => exact hd
  | some v =>
    show (if v < 0 then (v + (n : Int)).toNat else min v.toNat n) ≤ n
    by_cases hv : v < 0
    · rw [if_pos hv]; omega
    · rw [if_neg hv]; exact Nat.min_le_right _ _
theorem clip_eq (v : Int) (n d : Nat) : (if v < 0 then max (v + (n : Int)) 0 else min v (n : Int)) = ((sIx n d (some v) : Nat) : Int) := by
  show (if v < 0 then max (v + (n : Int)) 0 else min v (n : Int)) = (((if v < 0 then (v + (n : Int)).toNat else min v.toNat n) : Nat) : Int)
  by_cases hv : v < 0
  · simp only [if_pos hv]; omega
  · simp only [if_neg hv]; omega
theorem adjust_gen (lo hi : Option Int) (n : Nat) : Builtin.Slice.sliceAdjust lo hi 1 (n : Int) = (((sIx n 0 lo : Nat) : Int), ((sIx n n hi : Nat) : Int)) := by
  have h1 : ¬ ((1 : Int) < 0) := by omega
  unfold Builtin.Slice.sliceAdjust
  simp only [h1, if_false]
  refine Prod.ext ?_ ?_
  · cases lo with
    | none => rfl
    | some v => exact clip_eq v n 0
  · cases hi with
    | none => rfl
    | some v => exact clip_eq v n n
theorem places_gen (i j : Nat) : Builtin.Slice.slicePlaces (i : Int) (j : Int) 1 = j - i := by
  unfold Builtin.Slice.slicePlaces
  have h1 : (1 : Int) > 0 := by omega
  simp only [h1, if_true, Int.ediv_one]
  split <;> omega
theorem slicePart_ {v : Value} {o : Option Int} {Q : Option Int → Shared → Prop} (p : IsPart v o) (h : Q o s) : wpAny (model prog w) A (Builtin.Slice.slicePartIndex v) Q E s := by
  cases p with
  | none => exact slicePart_none h
  | int i t => exact slicePart_int h
theorem sliceApplied_gen {sl : Addr} {vl vu : Value} {lo hi : Option Int} {n : Nat} {Q : Int × Int × Nat → Shared → Prop} (hs : s.heap.IsSliceOf sl vl vu .none) (pl : IsPart vl lo) (pu : IsPart vu hi)
    (h : Q (((sIx n 0 lo : Nat) : Int), 1, sIx n n hi - sIx n 0 lo) s) : wpAny (model prog w) A (Builtin.Slice.sliceApplied (.ref sl) (pure (n : Int))) Q E s := by
  obtain ⟨os, hos, hcs, hds⟩ := id hs
  unfold Builtin.Slice.sliceApplied Builtin.Slice.sliceFields
  refine wpAny_bind (wpAny_bind (wpAny_field hos hds (x := vl) rfl (wpAny_bind (wpAny_field hos hds (x := vu) rfl (wpAny_bind (wpAny_field hos hds (x := .none) rfl (wpAny_pure ?_)))))))
  refine wpAny_bind (slicePart_none ?_)
  show wpAny _ _ (if ((1 : Int) == 0) = true then _ else _) _ _ s
  rw [if_neg (by decide)]
  refine wpAny_bind (slicePart_ pl (wpAny_bind (slicePart_ pu (wpAny_bind (wpAny_pure ?_)))))
  show wpAny _ _ (match Builtin.Slice.sliceAdjust lo hi 1 (n : Int) with | (lo, hi) => pure (lo, (1 : Int), Builtin.Slice.slicePlaces lo hi 1)) _ _ s
  rw [adjust_gen lo hi n]
  show wpAny _ _ (pure (((sIx n 0 lo : Nat) : Int), (1 : Int), Builtin.Slice.slicePlaces ((sIx n 0 lo : Nat) : Int) ((sIx n n hi : Nat) : Int) 1)) _ _ s
  rw [places_gen]
  exact wpAny_pure h
theorem pick_gen (xs : Array Value) (i k : Nat) : ((List.range k).filterMap fun (m : Nat) => xs[((i : Int) + (m : Int) * 1).toNat]?).toArray = ((xs.toList.drop i).take k).toArray := by
  have e : (fun (m : Nat) => xs[((i : Int) + (m : Int) * 1).toNat]?) = fun m => xs[i + m]? := by
    funext m
    have : ((i : Int) + (m : Int) * 1).toNat = i + m := by omega
    rw [this]
  rw [e]
  have := pick_run xs i k
  rw [List.filterMap_map] at this
  have e2 : ((fun x => xs[x]?) ∘ fun x => i + x) = fun m => xs[i + m]? := rfl
  rw [e2] at this
  rw [this]

theorem getItem_tuple_cut {t sl : Addr} {items : Array Value} {vl vu : Value} {lo hi : Option Int} {Q : Value → Shared → Prop} (ht : IsTup s.heap t items) (hs : s.heap.IsSliceOf sl vl vu .none) (pl : IsPart vl lo) (pu : IsPart vu hi)
    (hw : ¬ (sIx items.size 0 lo = 0 ∧ sIx items.size items.size hi = items.size))
    (h : Q (.ref s.heap.objs.size) { s with heap := s.heap.push { cls := .type "tuple", data := .seq ((items.toList.drop (sIx items.size 0 lo)).take (sIx items.size items.size hi - sIx items.size 0 lo)).toArray } })
    (hsz : items.size ≤ sizeLine) : wpAny (model prog w) A (getItem (.ref t) (.ref sl)) Q E s := by
  have htake : sizeOk (.seq ((items.toList.drop (sIx items.size 0 lo)).take (sIx items.size items.size hi - sIx items.size 0 lo)).toArray) := by
    show ((items.toList.drop (sIx items.size 0 lo)).take (sIx items.size items.size hi - sIx items.size 0 lo)).toArray.size ≤ sizeLine
    rw [List.size_toArray, List.length_take, List.length_drop, Array.length_toList]
    omega
  have hj : sIx items.size items.size hi ≤ items.size := sIx_le _ _ (Nat.le_refl _) hi
  obtain ⟨os, hos, hcs, hds⟩ := id hs
  have hTs : s.TypeIs (.ref sl) "slice" := ⟨os, hos, hcs⟩
  unfold getItem
  try with_reducible refine wpAny_holding ?_
  first | refine wpAny_bind (wpAny_pure ?_) | skip
  refine wpAny_bind (wpAny_sequenceKey ht.typeIs (by decide) ?_)
  refine wpAny_bind (wpAny_callSpecial?_slot (name := Str.ofString "__getitem__") ht.typeIs PyProof.Rows.slot_tuple_getitem
    (wpAny_call_entry PyProof.Rows.slot_tuple_getitem ht.typeIs entry_tuple_getitem ?_ (args_tuple_getitem _ _)))
  show wpAny _ _ (Builtin.Tuple.tupleItemsOf (.ref t) >>= _) _ _ s
  refine wpAny_bind (tupleItemsOf_ ht ?_)
  refine wpAny_bind (wpAny_typeOf hTs ?_)
  rw [if_pos (by decide)]
  refine wpAny_bind (sliceApplied_gen hs pl pu ?_)
  have hno : ¬ ((((sIx items.size 0 lo : Nat) : Int) == 0 && (1 : Int) == 1 && (sIx items.size items.size hi - sIx items.size 0 lo) == items.size) = true) := by
    intro q
    rw [Bool.and_eq_true, Bool.and_eq_true] at q
    have q1 : ((sIx items.size 0 lo : Nat) : Int) = 0 := eq_of_beq q.1.1
    have q2 : sIx items.size items.size hi - sIx items.size 0 lo = items.size := eq_of_beq q.2
    exact hw ⟨by omega, by omega⟩
  show wpAny _ _ (if (((sIx items.size 0 lo : Nat) : Int) == 0 && (1 : Int) == 1 && (sIx items.size items.size hi - sIx items.size 0 lo) == items.size) = true then _ else _) _ _ s
  rw [if_neg hno, pick_gen]
  first
    | exact wpAny_bind (m := Builtin.Tuple.tupleExact _) (wpAny_newObj_type (wpAny_pure ⟨_, rfl, wpAny_pure h⟩) htake)
    | exact wpAny_bind (m := Builtin.Tuple.tupleExact _) (wpAny_newObj_type (wpAny_bind (wpAny_pure (wpAny_pure ⟨_, rfl, wpAny_pure h⟩))) htake)
    | exact wpAny_bind (wpAny_bind (m := Builtin.Tuple.tupleExact _) (wpAny_newObj_type (wpAny_pure (wpAny_pure ⟨_, rfl, wpAny_pure h⟩)) htake))
    | exact wpAny_bind (wpAny_bind (m := Builtin.Tuple.tupleExact _) (wpAny_newObj_type (wpAny_pure ⟨_, rfl, wpAny_pure h⟩) htake))
end
end HT

namespace L2
open PySem PySem.Spec PyProof.Rows

/-! ### the parts of a slice -/
abbrev TO := St → Hp → (Option Int → Hp → Prop) → Prop
/-- a slice's part (left out, or an int) -/
def PO (X : Cx) (e : Option Expr) (t : TO) : Prop :=
  ∀ (pins : List (Addr × Obj)) (s : Shared) (σ : St) (H : Hp) (Q : Option Int → Hp → Prop), Inv X pins σ H s → t σ H Q →
    wpAny (model X.prog X.w) X.A (evalPart e X.env) (fun u s' => ∃ o H', Inv X pins σ H' s' ∧ IsPart u o ∧ Q o H') X.xe s
def tNoPart : TO := fun _ H Q => Q none H
def tPart (t : TE) : TO := fun σ H Q => t σ H fun x H1 => ∃ i, x = .int i ∧ Q (some i) H1

theorem intsAre_of {ns : List Int} : ∀ {us : List Value}, Vals (ns.map V.int) us → IntsAre us ns := by
  induction ns with
  | nil => intro us r; rw [List.map_nil] at r; cases r; exact .nil
  | cons n ns ih =>
    intro us r
    rw [List.map_cons] at r
    cases r with
    | cons r1 r2 =>
      obtain ⟨t, e⟩ := r1
      subst e
      exact .cons n t (ih r2)

section
variable {X : Cx} {e : Expr} {te : TE} {lo hi : Option Expr} {tl th : TO} {pos p2 : Pos}

theorem po_none : PO X none tNoPart := by
  intro pins s σ H Q I h
  rw [evalPart_none]
  exact wpAny_pure ⟨none, H, I, .none, h⟩
theorem po_some (h : PE X e te) : PO X (some e) (tPart te) := by
  intro pins s σ H Q I hw
  rw [evalPart_some]
  refine thn (h pins s σ H _ I hw) fun u s1 ⟨x, H1, I1, r1, q1⟩ => ?_
  obtain ⟨i, rfl, q⟩ := q1
  obtain ⟨t, rfl⟩ := r1
  exact ⟨some i, H1, I1, .int i t, q⟩

/-- what a slice of a value is, by values: the slice object stands at sl -/
def SlR (X : Cx) (r : V → Option Int → Option Int → Hp → VK → Prop) : Prop :=
  ∀ (pins : List (Addr × Obj)) (s : Shared) (σ : St) (H : Hp) (x : V) (v vl vu : Value) (lo hi : Option Int) (sl : Addr) (Q : VK), Inv X pins σ H s → RelV x v → s.heap.IsSliceOf sl vl vu .none → IsPart vl lo → IsPart vu hi → r x lo hi H Q →
    ∃ T id, typeLookup (.type T) "__getitem__" = pure (some (.builtin id)) ∧ s.TypeIs v T ∧ wpAny (model X.prog X.w) X.A (getItem v (.ref sl)) (EP X pins σ Q) X.xe s
theorem SlR.or {r r' : V → Option Int → Option Int → Hp → VK → Prop} (h : SlR X r) (h' : SlR X r') : SlR X (fun x lo hi H Q => r x lo hi H Q ∨ r' x lo hi H Q) := by
  intro pins s σ H x v vl vu lo hi sl Q I rx hs pl pu q
  rcases q with q | q
  · exact h pins s σ H x v vl vu lo hi sl Q I rx hs pl pu q
  · exact h' pins s σ H x v vl vu lo hi sl Q I rx hs pl pu q
def tSl (r : V → Option Int → Option Int → Hp → VK → Prop) (te : TE) (tl th : TO) : TE := fun σ H Q => te σ H fun x H1 => tl σ H1 fun l H2 => th σ H2 fun u H3 => r x l u H3 Q
/-- a[lo:hi], any a -/
theorem pe_slice {r : V → Option Int → Option Int → Hp → VK → Prop} (hr : SlR X r) (he : PE X e te) (hl : PO X lo tl) (hu : PO X hi th) : PE X (.Subscript e (.Slice lo hi none p2) pos) (tSl r te tl th) := by
  intro pins s σ H Q I h
  refine Subscript_ (thn (he pins s σ H _ I h) fun v s1 ⟨x, H1, I1, r1, q1⟩ => ?_)
  refine wpAny_Slice (thn (hl pins s1 σ H1 _ I1 q1) fun vl s2 ⟨l, H2, I2, pl, q2⟩ => thn (hu pins s2 σ H2 _ I2 q2) fun vu s3 ⟨u, H3, I3, pu, q3⟩ => ?_)
  rw [evalPart_none]
  refine wpAny_pure ?_
  have I4 : Inv X pins σ H3 { s3 with heap := s3.heap.push { cls := .type "slice", data := .fields #[vl, vu, .none] } } := I3.kept (t' := s3.toks) fun b ob q => Heap.get?_push_of_some _ q
  obtain ⟨T, id, hT, ht, hg⟩ := hr pins { s3 with heap := s3.heap.push { cls := .type "slice", data := .fields #[vl, vu, .none] } } σ H3 x v vl vu l u s3.heap.objs.size Q I4 r1 (Heap.IsSliceOf.new ..) pl pu q3
  show wpAny (model X.prog X.w) X.A (subscriptTail e (.Slice lo hi none p2) v (.ref s3.heap.objs.size)) (EP X pins σ Q) X.xe { s3 with heap := s3.heap.push { cls := .type "slice", data := .fields #[vl, vu, .none] } }
  exact tail_any (ops := [.ref s3.heap.objs.size, v]) ht hT hg (by with_unfolding_all rfl)

/-- the items of xs[lo:hi] -/
def cutV (xs : List V) (lo hi : Option Int) : List V := (xs.drop (HT.sIx xs.length 0 lo)).take (HT.sIx xs.length xs.length hi - HT.sIx xs.length 0 lo)
theorem cutV_length (xs : List V) (lo hi : Option Int) : (cutV xs lo hi).length ≤ xs.length := by
  unfold cutV
  rw [List.length_take, List.length_drop]
  omega
/-- t[lo:hi], not the whole of it (the whole would be t itself) -/
def rSlT (K : PySem.W.Frag) : V → Option Int → Option Int → Hp → VK → Prop := fun x lo hi H Q => ∃ a xs, x = .ref a ∧ SqT K H a xs ∧
  ¬ (HT.sIx xs.length 0 lo = 0 ∧ HT.sIx xs.length xs.length hi = xs.length) ∧ ∀ p, H p = none → Q (.ref p) (upd H p (.tup (cutV xs lo hi)))
theorem sl_tup : SlR X (rSlT X.K) := by
  intro pins s σ H x v vl vu lo hi sl Q I rx hs pl pu h
  obtain ⟨a, xs, rfl, hx, hw, q⟩ := h
  cases rx
  obtain ⟨its, r, ht, hz⟩ := I.tuple hx
  have hlen : its.toArray.size = xs.length := by rw [List.size_toArray]; exact r.length.symm
  refine ⟨"tuple", _, PyProof.Rows.slot_tuple_getitem.lookup, ht.typeIs, ?_⟩
  refine HT.getItem_tuple_cut ht hs pl pu (by rw [hlen]; exact hw) ?_ (by rw [hlen]; exact hz)
  rw [hlen]
  refine ⟨.ref s.heap.objs.size, _, I.laid (t' := s.toks) (o := .tup (cutV xs lo hi)) (fun b ob q => Heap.get?_push_of_some _ q) (Nat.le_refl _) ?_, rfl, q _ (I.hok.fresh (Nat.le_refl _))⟩
  exact ⟨Nat.le_trans (cutV_length xs lo hi) hz, _, (r.drop (HT.sIx xs.length 0 lo)).take (HT.sIx xs.length xs.length hi - HT.sIx xs.length 0 lo), IsTup.new _ _⟩

/-! ### t < u, t + u -/
def rLtT (K : PySem.W.Frag) : R2 := fun x y H Q => ∃ a b ns ms, x = .ref a ∧ y = .ref b ∧ SqT K H a (ns.map V.int) ∧ SqT K H b (ms.map V.int) ∧ Q (.bl (HT.lexLt ns ms)) H
theorem op_ltT (hu : X.A.units < cLine) : OpR X (compareOp .Lt) (rLtT X.K) := by
  intro pins s σ H x y v u Q I rx ry h
  obtain ⟨a, b, ns, ms, rfl, rfl, ha, hb, q⟩ := h
  cases rx
  cases ry
  obtain ⟨its, r1, p1, _⟩ := I.tuple ha
  obtain ⟨its2, r2, p2, _⟩ := I.tuple hb
  have i1 : IntsAre its.toArray.toList ns := intsAre_of r1
  have i2 : IntsAre its2.toArray.toList ms := intsAre_of r2
  exact HT.lt_tupInts p1 p2 i1 i2 hu ⟨.bl (HT.lexLt ns ms), H, I, rfl, q⟩
/-- t + u, t not empty: u empty gives t itself -/
def rCatT (K : PySem.W.Frag) : R2 := fun x y H Q => ∃ a b xs ys, x = .ref a ∧ y = .ref b ∧ SqT K H a xs ∧ SqT K H b ys ∧ xs ≠ [] ∧ xs.length + ys.length ≤ sizeLine ∧
  (ys = [] → Q (.ref a) H) ∧ (ys ≠ [] → ∀ p, H p = none → Q (.ref p) (upd H p (.tup (xs ++ ys))))
theorem Vals.nil_iff {xs : List V} {us : List Value} (r : Vals xs us) : us = [] ↔ xs = [] := by
  cases r with
  | nil => simp
  | cons _ _ => simp
theorem op_catT : OpR X (binaryOp .Add) (rCatT X.K) := by
  intro pins s σ H x y v u Q I rx ry h
  obtain ⟨a, b, xs, ys, rfl, rfl, ha, hb, hx, hz, q1, q2⟩ := h
  cases rx
  cases ry
  obtain ⟨its, r1, p1, _⟩ := I.tuple ha
  obtain ⟨its2, r2, p2, _⟩ := I.tuple hb
  refine HT.cat_tup p1 p2 (fun z => hx (r1.nil_iff.mp z)) (fun z => ⟨.ref a, H, I, rfl, q1 (r2.nil_iff.mp z)⟩) (fun z => ?_) (by rw [← r1.length, ← r2.length]; exact hz)
  refine ⟨.ref s.heap.objs.size, _, I.laid (t' := s.toks) (o := .tup (xs ++ ys)) (fun b ob q => Heap.get?_push_of_some _ q) (Nat.le_refl _) ?_, rfl, q2 (fun w => z (r2.nil_iff.mpr w)) _ (I.hok.fresh (Nat.le_refl _))⟩
  exact ⟨by rw [List.length_append]; exact hz, _, r1.append r2, IsTup.new _ _⟩
/-- tuple(t) -/
theorem call_tupleT : CallR X (.type "tuple") (fun xs H Q => ∃ a ys, xs = [.ref a] ∧ SqT X.K H a ys ∧ Q (.ref a) H) := by
  intro pins s σ H xs us Q I r h
  obtain ⟨a, ys, rfl, ha, q⟩ := h
  obtain ⟨u, rfl, ru⟩ := vals1 r
  cases ru
  obtain ⟨its, _, p1, _⟩ := I.tuple ha
  exact call_tuple_same (items := its.toArray) p1 ⟨.ref a, H, I, rfl, q⟩
end
end L2

namespace L2
open PySem PySem.Spec PyProof.Rows

/-! ### places -/
/-- the place that an index of any sign means -/
def ixN (n : Nat) (i : Int) : Option Nat := if 0 ≤ i then (if i < n then some i.toNat else none) else if -(n : Int) ≤ i then some (i + n).toNat else none
def atI {α : Type} (xs : List α) (i : Int) : Option α := (ixN xs.length i).bind fun j => xs[j]?
theorem ixN_seq {n : Nat} {i : Int} {j : Nat} (h : ixN n i = some j) : seqIndex? i n = some j ∧ j < n ∧ -(n : Int) ≤ i ∧ i < n := by
  unfold ixN at h
  by_cases h0 : 0 ≤ i
  · rw [if_pos h0] at h
    by_cases h1 : i < n
    · rw [if_pos h1] at h
      have e : i.toNat = j := Option.some.inj h
      exact ⟨by rw [seqIndex_of h0 h1, e], by omega, by omega, h1⟩
    · rw [if_neg h1] at h; cases h
  · rw [if_neg h0] at h
    by_cases h1 : -(n : Int) ≤ i
    · rw [if_pos h1] at h
      have e : (i + n).toNat = j := Option.some.inj h
      exact ⟨by rw [seqIndex_neg (by omega) h1, e], by omega, h1, by omega⟩
    · rw [if_neg h1] at h; cases h
theorem atI_get {α : Type} {xs : List α} {i : Int} {v : α} (h : atI xs i = some v) : ∃ j, seqIndex? i xs.length = some j ∧ xs[j]? = some v ∧ j < xs.length ∧ -(xs.length : Int) ≤ i ∧ i < xs.length := by
  unfold atI at h
  cases e : ixN xs.length i with
  | none => rw [e] at h; cases h
  | some j =>
    rw [e] at h
    obtain ⟨h1, h2, h3, h4⟩ := ixN_seq e
    exact ⟨j, h1, h, h2, h3, h4⟩
theorem atI_nat {α : Type} {xs : List α} {j : Nat} {v : α} (h : xs[j]? = some v) : atI xs (j : Int) = some v := by
  have hj : j < xs.length := (List.getElem?_eq_some_iff.mp h).1
  have e : ixN xs.length (j : Int) = some j := by
    unfold ixN
    rw [if_pos (by omega), if_pos (by omega)]; simp
  unfold atI; rw [e]; exact h
theorem atI_last {α : Type} (xs : List α) (v : α) : atI (xs ++ [v]) (-1) = some v := by
  have hl : (xs ++ [v]).length = xs.length + 1 := by simp
  have e : ixN (xs ++ [v]).length (-1) = some xs.length := by
    unfold ixN
    rw [hl, if_neg (by decide), if_pos (by omega)]
    congr 1
    omega
  unfold atI
  rw [e]
  show (xs ++ [v])[xs.length]? = some v
  simp

/-! ### what may be subscripted -/
/-- what stands as an index of a plain subscript -/
def PlainIx (b : Expr) : Prop := ∀ o i, subscripted b false o i = operate [o, i] (getItem o i)
/-- a subscript by values -/
def IxR (X : Cx) (r : R2) : Prop :=
  ∀ (value slice : Expr) (pins : List (Addr × Obj)) (s : Shared) (σ : St) (H : Hp) (x y : V) (v u : Value) (Q : VK), Inv X pins σ H s → RelV x v → RelV y u → r x y H Q →
    subscripted slice false v u = operate [v, u] (getItem v u) → wpAny (model X.prog X.w) X.A (subscriptTail value slice v u) (EP X pins σ Q) X.xe s
/-- a call of a builtin's method by values: the receiver, the arguments -/
def MtR (X : Cx) (id : String) (r : V → List V → Hp → VK → Prop) : Prop :=
  ∀ (pins : List (Addr × Obj)) (s : Shared) (σ : St) (H : Hp) (x : V) (xs : List V) (v : Value) (us : List Value) (Q : VK), Inv X pins σ H s → RelV x v → Vals xs us → r x xs H Q →
    wpAny (model X.prog X.w) X.A (call (.builtin id) (v :: us)) (EP X pins σ Q) X.xe s
section
variable {X : Cx} {a b : Expr} {ta tb : TE} {pos : Pos}
theorem IxR.or {r r' : R2} (h : IxR X r) (h' : IxR X r') : IxR X (fun x y H Q => r x y H Q ∨ r' x y H Q) := by
  intro value slice pins s σ H x y v u Q I rx ry q hs
  rcases q with q | q
  · exact h value slice pins s σ H x y v u Q I rx ry q hs
  · exact h' value slice pins s σ H x y v u Q I rx ry q hs
theorem MtR.or {id : String} {r r' : V → List V → Hp → VK → Prop} (h : MtR X id r) (h' : MtR X id r') : MtR X id (fun x xs H Q => r x xs H Q ∨ r' x xs H Q) := by
  intro pins s σ H x xs v us Q I rx rs q
  rcases q with q | q
  · exact h pins s σ H x xs v us Q I rx rs q
  · exact h' pins s σ H x xs v us Q I rx rs q
/-- a[b] -/
theorem pe_ix {r : R2} (hr : IxR X r) (ha : PE X a ta) (hb : PE X b tb) (hs : PlainIx b) : PE X (.Subscript a b pos) (tOp r ta tb) := by
  intro pins s σ H Q I h
  exact Subscript_ (binT ha hb I h fun v u s2 x y H2 I2 rx ry q => hr a b pins s2 σ H2 x y v u Q I2 rx ry q (hs _ _))

def rIxL (K : PySem.W.Frag) : R2 := fun x y H Q => ∃ p xs i v, x = .ref p ∧ y = .int i ∧ SqL K H p xs ∧ atI xs i = some v ∧ Q v H
def rIxT (K : PySem.W.Frag) : R2 := fun x y H Q => ∃ p xs i v, x = .ref p ∧ y = .int i ∧ SqT K H p xs ∧ atI xs i = some v ∧ Q v H
def rIxS : R2 := fun x y H Q => ∃ z i c, x = .str z ∧ y = .int i ∧ z.length ≤ sizeLine ∧ atI z.cps.toList i = some c ∧ Q (.str ⟨#[c]⟩) H
theorem ix_list : IxR X (rIxL X.K) := by
  intro value slice pins s σ H x y v u Q I rx ry h hs
  obtain ⟨p, xs, i, z, rfl, rfl, hq, he, q⟩ := h
  cases rx
  obtain ⟨t, rfl⟩ := ry
  obtain ⟨its, r, pl, hz⟩ := I.list hq
  obtain ⟨j, h1, h2, h3, h4, h5⟩ := atI_get he
  obtain ⟨w, ew, rw'⟩ := r.get h2
  have hl := r.length
  have hn := line63
  have fin : EP X pins σ Q w s := ⟨z, H, I, rw', q⟩
  by_cases h0 : 0 ≤ i
  · have hj : i.toNat = j := by
      rw [seqIndex_of h0 h5] at h1
      exact Option.some.inj h1
    exact item_listR pl.isList h0 (by omega) (by rw [hj]; simpa using ew) fin hs
  · have hj : (i + (its.toArray.size : Int)).toNat = j := by
      rw [seqIndex_neg (by omega) h4] at h1
      rw [List.size_toArray, ← hl]
      exact Option.some.inj h1
    exact subscriptTail_builtinR (x := w) pl.isList.typeIs slot_list_getitem.lookup
      (wpAny_getItem_list_neg (Q := fun r s' => r = w ∧ EP X pins σ Q r s') pl.isList (by omega) (by rw [List.size_toArray] <;> omega) (by omega) (by rw [hj]; simpa using ew) ⟨rfl, fin⟩) hs
theorem ix_tup : IxR X (rIxT X.K) := by
  intro value slice pins s σ H x y v u Q I rx ry h hs
  obtain ⟨p, xs, i, z, rfl, rfl, hq, he, q⟩ := h
  cases rx
  obtain ⟨t, rfl⟩ := ry
  obtain ⟨its, r, pl, hz⟩ := I.tuple hq
  obtain ⟨j, h1, h2, h3, h4, h5⟩ := atI_get he
  obtain ⟨w, ew, rw'⟩ := r.get h2
  have hl := r.length
  have hn := line63
  have fin : EP X pins σ Q w s := ⟨z, H, I, rw', q⟩
  exact subscriptTail_builtinR (x := w) pl.typeIs slot_tuple_getitem.lookup
    (getItem_tuple (j := j) (Q := fun r s' => r = w ∧ EP X pins σ Q r s') pl (by omega) (by omega) (by rw [List.size_toArray, ← hl]; exact h1) (by simpa using ew) ⟨rfl, fin⟩) hs
theorem ix_str : IxR X rIxS := by
  intro value slice pins s σ H x y v u Q I rx ry h hs
  obtain ⟨z, i, c, rfl, rfl, hz, he, q⟩ := h
  obtain ⟨t, rfl⟩ := rx
  obtain ⟨t', rfl⟩ := ry
  obtain ⟨j, h1, h2, h3, h4, h5⟩ := atI_get he
  have hl : z.cps.toList.length = z.length := by simp [Str.length]
  rw [hl] at h1 h4 h5
  have hn := line63
  exact tail_any (typeIs_str s z t) slot_str_getitem.lookup (getItem_str (c := c) (by
    have e1 : decide (i < -(2 ^ 63 : Int)) = false := decide_eq_false (by omega)
    have e2 : decide (i ≥ 2 ^ 63) = false := decide_eq_false (by omega)
    rw [e1, e2, Bool.or_false]) (by rw [h1]; simpa using h2) ⟨.str ⟨#[c]⟩, H, I.tok _, ⟨_, rfl⟩, q⟩) hs
/-- list, tuple or str -/
def rIx (K : PySem.W.Frag) : R2 := fun x y H Q => rIxL K x y H Q ∨ rIxT K x y H Q ∨ rIxS x y H Q
theorem ix_seq : IxR X (rIx X.K) := ix_list.or (ix_tup.or ix_str)

/-! ### xs[i] = v, any sign -/
/-- the list's object behind a store -/
theorem mapSeq_set (its : List Value) (n j : Nat) (u : Value) : Obj.mapSeq (·.setIfInBounds j u) { cls := .type "list", data := .seq its.toArray n } = { cls := .type "list", data := .seq (its.set j u).toArray n } := by
  simp [Obj.mapSeq]
theorem Inv.lst {pins : List (Addr × Obj)} {σ : St} {H : Hp} {s : Shared} {p : Addr} {xs : List V} (I : Inv X pins σ H s) (h : H p = some (.lst xs)) :
    ∃ (its : List Value) (n : Nat), Vals xs its ∧ s.heap.get? p = some { cls := .type "list", data := .seq its.toArray n } ∧ xs.length ≤ sizeLine := by
  obtain ⟨z, its, n, r, e⟩ := I.hok p _ h
  exact ⟨its, n, r, e, z⟩
/-- the list at p is written by an update of its object -/
theorem Inv.lstUpd {pins : List (Addr × Obj)} {σ : St} {H : Hp} {s : Shared} {p : Addr} {xs ys : List V} {its its' : List Value} {n n' : Nat} {f : Obj → Obj} (I : Inv X pins σ H s) (h : H p = some (.lst xs))
    (ho : s.heap.get? p = some { cls := .type "list", data := .seq its.toArray n }) (hf : f { cls := .type "list", data := .seq its.toArray n } = { cls := .type "list", data := .seq its'.toArray n' }) (r : Vals ys its') (hz : ys.length ≤ sizeLine) (t : Nat) :
    Inv X pins σ (upd H p (.lst ys)) { s with heap := s.heap.update p f, toks := t } := by
  have e : (s.heap.update p f).get? p = some { cls := .type "list", data := .seq its'.toArray n' } := by
    rw [Heap.get?_update_self f ho (by rw [hf] <;> rfl), hf]
  refine I.write (x := p) (e := p) (by rw [h]; trivial) (.inl rfl) (fun b u hb q => (Heap.get?_update_other _ _ (Ne.symm hb)).trans q) ⟨_, e⟩ ?_
  exact ⟨hz, its', n', r, e⟩
def rSetL : V → V → V → Hp → (Hp → Prop) → Prop := fun o i v H Q => ∃ p xs k j, o = .ref p ∧ i = .int k ∧ H p = some (.lst xs) ∧ ixN xs.length k = some j ∧ Q (upd H p (.lst (xs.set j v)))
theorem set_list : PSet X rSetL := by
  intro pins s σ H o i v ov iv u Q I ro ri rv h
  obtain ⟨p, xs, k, j, rfl, rfl, hp, hj, q⟩ := h
  cases ro
  obtain ⟨t, rfl⟩ := ri
  obtain ⟨its, n, r, ho, hz⟩ := I.lst hp
  obtain ⟨h1, h2, h3, h4⟩ := ixN_seq hj
  have hl := r.length
  have hn := line63
  have I' : Inv X pins σ (upd H p (.lst (xs.set j v))) { s with heap := s.heap.update p (Obj.mapSeq (·.setIfInBounds j u)) } :=
    I.lstUpd hp ho (mapSeq_set its n j u) (r.set rv j) (by rw [List.length_set]; exact hz) s.toks
  by_cases h0 : 0 ≤ k
  · have hk : k.toNat = j := by
      rw [seqIndex_of h0 h4] at h1
      exact Option.some.inj h1
    exact PySem.W.ki_setAt ho h0 (by omega) (by rw [List.size_toArray, ← hl]; exact h4) (by rw [hk]; exact ⟨_, I', q⟩)
  · have hk : (k + (its.toArray.size : Int)).toNat = j := by
      rw [seqIndex_neg (by omega) h3] at h1
      rw [List.size_toArray, ← hl]
      exact Option.some.inj h1
    exact PySem.W.ki_setBack ho (by omega) (by rw [List.size_toArray, ← hl]; exact h3) (by omega) (by rw [hk]; exact ⟨_, I', q⟩)

/-! ### slices -/
theorem slice_bounds (lo hi : Option Int) (n : Nat) : (sliceBounds lo hi none n).1 = ((HT.sIx n 0 lo : Nat) : Int) ∧ (sliceBounds lo hi none n).2.1 = ((HT.sIx n n hi : Nat) : Int) ∧ (sliceBounds lo hi none n).2.2 = 1 := by
  refine ⟨?_, ?_, rfl⟩
  · cases lo with
    | none => simp [sliceBounds, HT.sIx]
    | some i =>
      simp only [sliceBounds, HT.sIx, Option.getD_none, show (1 : Int) > 0 by decide, if_true]
      by_cases h : i < 0
      · simp only [h, if_true] <;> omega
      · simp only [h, if_false] <;> omega
  · cases hi with
    | none => simp [sliceBounds, HT.sIx]
    | some i =>
      simp only [sliceBounds, HT.sIx, Option.getD_none, show (1 : Int) > 0 by decide, if_true]
      by_cases h : i < 0
      · simp only [h, if_true] <;> omega
      · simp only [h, if_false] <;> omega
theorem slicePick_cut (its : List Value) (lo hi : Option Int) : slicePick its.toArray lo hi none = ((its.drop (HT.sIx its.length 0 lo)).take (HT.sIx its.length its.length hi - HT.sIx its.length 0 lo)).toArray := by
  obtain ⟨h1, h2, h3⟩ := slice_bounds lo hi its.toArray.size
  unfold slicePick
  rw [h1, h2, h3]
  simp only [sliceRange_one, pick_run, List.size_toArray] <;> rfl
/-- xs[lo:hi] of a list: a new list -/
def rSlL (K : PySem.W.Frag) : V → Option Int → Option Int → Hp → VK → Prop := fun x lo hi H Q => ∃ a xs, x = .ref a ∧ SqL K H a xs ∧ ∀ p, H p = none → Q (.ref p) (upd H p (.lst (cutV xs lo hi)))
theorem sl_list : SlR X (rSlL X.K) := by
  intro pins s σ H x v vl vu lo hi sl Q I rx hs pl pu h
  obtain ⟨a, xs, rfl, hx, q⟩ := h
  cases rx
  obtain ⟨its, r, ht, hz⟩ := I.list hx
  have hlen := r.length
  refine ⟨"list", _, slot_list_getitem.lookup, ht.isList.typeIs, ?_⟩
  refine wpAny_getItem_list_slice ht.isList hs pl pu .none (by simp) ?_ (by rw [List.size_toArray] <;> omega)
  rw [slicePick_cut, ← hlen]
  refine ⟨.ref s.heap.objs.size, _, I.laid (t' := s.toks) (o := .lst (cutV xs lo hi)) (fun b ob q => Heap.get?_push_of_some _ q) (Nat.le_refl _) ?_, rfl, q _ (I.hok.fresh (Nat.le_refl _))⟩
  exact ⟨Nat.le_trans (cutV_length xs lo hi) hz, _, 0, (r.drop (HT.sIx xs.length 0 lo)).take (HT.sIx xs.length xs.length hi - HT.sIx xs.length 0 lo), Heap.get?_push_size _ rfl⟩

/-! ### in, not in: flat items -/
def flatV : V → Bool
  | .non => true
  | .bl _ => true
  | .int _ => true
  | .str _ => true
  | _ => false
/-- == of flat values -/
def eqV : V → V → Bool
  | .non, .non => true
  | .bl a, .bl b => a == b
  | .bl a, .int b => (if a then 1 else 0) == b
  | .int a, .bl b => a == (if b then 1 else 0)
  | .int a, .int b => a == b
  | .str a, .str b => a == b
  | _, _ => false
theorem eqAt_V {A : Around} {s : Shared} {y x : V} {u v : Value} (ry : RelV y u) (rx : RelV x v) (fy : flatV y = true) (fx : flatV x = true) : SeqAt.EqAt A s u v (eqV y x) := by
  cases y with
  | non =>
    cases ry
    cases x with
    | non => cases rx; exact SeqAt.EqAt.same _
    | bl b => cases rx; exact SeqAt.EqAt.none_bool b
    | int b => obtain ⟨t, rfl⟩ := rx; exact SeqAt.EqAt.none_int b t
    | str b => obtain ⟨t, rfl⟩ := rx; exact SeqAt.EqAt.none_str b t
    | _ => exact absurd (show false = true from fx) Bool.false_ne_true
  | bl a =>
    cases ry
    cases x with
    | non => cases rx; exact SeqAt.EqAt.bool_none a
    | bl b => cases rx; exact SeqAt.EqAt.bool_bool a b
    | int b => obtain ⟨t, rfl⟩ := rx; exact SeqAt.EqAt.bool_int a b t
    | str b => obtain ⟨t, rfl⟩ := rx; exact SeqAt.EqAt.bool_str a b t
    | _ => exact absurd (show false = true from fx) Bool.false_ne_true
  | int a =>
    obtain ⟨t', rfl⟩ := ry
    cases x with
    | non => cases rx; exact SeqAt.EqAt.int_none a t'
    | bl b => cases rx; exact SeqAt.EqAt.int_bool a t' b
    | int b => obtain ⟨t, rfl⟩ := rx; exact SeqAt.EqAt.int_int a t' b t
    | str b => obtain ⟨t, rfl⟩ := rx; exact SeqAt.EqAt.int_str a t' b t
    | _ => exact absurd (show false = true from fx) Bool.false_ne_true
  | str a =>
    obtain ⟨t', rfl⟩ := ry
    cases x with
    | non => cases rx; exact SeqAt.EqAt.str_none a t'
    | bl b => cases rx; exact SeqAt.EqAt.str_bool a t' b
    | int b => obtain ⟨t, rfl⟩ := rx; exact SeqAt.EqAt.str_int a t' b t
    | str b => obtain ⟨t, rfl⟩ := rx; exact SeqAt.EqAt.str_str a t' b t
    | _ => exact absurd (show false = true from fx) Bool.false_ne_true
  | _ => exact absurd (show false = true from fy) Bool.false_ne_true
/-- the items' answers, read off the values (a value's own answer does not lean on its token) -/
def eqU (x : V) (u : Value) : Bool := match u with
  | .none => eqV .non x
  | .bool b => eqV (.bl b) x
  | .int i _ => eqV (.int i) x
  | .str z _ => eqV (.str z) x
  | _ => false
theorem eqU_of {x y : V} {u : Value} (r : RelV y u) (f : flatV y = true) : eqU x u = eqV y x := by
  cases y with
  | non => cases r; rfl
  | bl b => cases r; rfl
  | int i => obtain ⟨t, rfl⟩ := r; rfl
  | str z => obtain ⟨t, rfl⟩ := r; rfl
  | _ => exact absurd (show false = true from f) Bool.false_ne_true
theorem any_eqU {x : V} : ∀ {xs : List V} {us : List Value}, Vals xs us → xs.all flatV = true → us.any (eqU x) = xs.any fun y => eqV y x
  | _, _, .nil, _ => rfl
  | y :: xs, u :: us, .cons r t, f => by
    rw [List.all_cons, Bool.and_eq_true] at f
    rw [List.any_cons, List.any_cons, eqU_of r f.1, any_eqU t f.2]
theorem mem_eqAt {A : Around} {s : Shared} {x : V} {v : Value} (rx : RelV x v) (fx : flatV x = true) : ∀ {xs : List V} {us : List Value}, Vals xs us → xs.all flatV = true → ∀ u ∈ us, SeqAt.EqAt A s u v (eqU x u)
  | _, _, .nil, _ => fun u hu => by cases hu
  | y :: xs, u :: us, .cons r t, f => fun u' hu => by
    rw [List.all_cons, Bool.and_eq_true] at f
    rcases List.mem_cons.mp hu with rfl | hu
    · rw [eqU_of r f.1]; exact eqAt_V r rx f.1 fx
    · exact mem_eqAt rx fx t f.2 u' hu
def inV (x : V) (xs : List V) : Bool := xs.any fun y => eqV y x
/-- x in a list or tuple of flat items -/
def rIn (K : PySem.W.Frag) (neg : Bool) : R2 := fun x y H Q => ∃ p xs, y = .ref p ∧ (SqL K H p xs ∨ SqT K H p xs) ∧ flatV x = true ∧ xs.all flatV = true ∧ Q (.bl (if neg then !inV x xs else inV x xs)) H
theorem op_in_seq : OpR X (compareOp .In) (rIn X.K false) := by
  intro pins s σ H x y v u Q I rx ry h
  obtain ⟨p, xs, rfl, hq, fx, fs, q⟩ := h
  cases ry
  rcases hq with hq | hq
  · obtain ⟨its, r, pl, hz⟩ := I.list hq
    refine SeqAt.in_listAt (eqU x) pl.isList (fun w hw => mem_eqAt rx fx r fs w (by simpa using hw)) ⟨.bl _, H, I, rfl, ?_⟩
    rw [show its.toArray.any (eqU x) = its.any (eqU x) by simp, any_eqU r fs]
    exact q
  · obtain ⟨its, r, pl, hz⟩ := I.tuple hq
    refine SeqAt.in_tupleAt (eqU x) pl (fun w hw => mem_eqAt rx fx r fs w (by simpa using hw)) ⟨.bl _, H, I, rfl, ?_⟩
    rw [show its.toArray.any (eqU x) = its.any (eqU x) by simp, any_eqU r fs]
    exact q
theorem op_notIn_seq : OpR X (compareOp .NotIn) (rIn X.K true) := by
  intro pins s σ H x y v u Q I rx ry h
  obtain ⟨p, xs, rfl, hq, fx, fs, q⟩ := h
  cases ry
  rcases hq with hq | hq
  · obtain ⟨its, r, pl, hz⟩ := I.list hq
    refine SeqAt.notIn_listAt (eqU x) pl.isList (fun w hw => mem_eqAt rx fx r fs w (by simpa using hw)) ⟨.bl _, H, I, rfl, ?_⟩
    rw [show its.toArray.any (eqU x) = its.any (eqU x) by simp, any_eqU r fs]
    exact q
  · obtain ⟨its, r, pl, hz⟩ := I.tuple hq
    refine SeqAt.notIn_tupleAt (eqU x) pl (fun w hw => mem_eqAt rx fx r fs w (by simpa using hw)) ⟨.bl _, H, I, rfl, ?_⟩
    rw [show its.toArray.any (eqU x) = its.any (eqU x) by simp, any_eqU r fs]
    exact q
theorem op_notIn_str : OpR X (compareOp .NotIn) (fun x y H Q => ∃ i j, x = .str i ∧ y = .str j ∧ Q (.bl (!(!(Builtin.Str.occurrences j i 0 j.length 1).isEmpty))) H) := by
  intro pins s σ H x y v u Q I rx ry h
  obtain ⟨i, j, rfl, rfl, q⟩ := h
  obtain ⟨t, rfl⟩ := rx
  obtain ⟨t', rfl⟩ := ry
  exact notIn_str ⟨.bl _, H, I, rfl, q⟩

/-! ### len, list(x), tuple(x) of any list or tuple that is read -/
theorem call_len_seq : CallR X (.builtin "len") (fun xs H Q => ∃ p ys, xs = [.ref p] ∧ (SqL X.K H p ys ∨ SqT X.K H p ys) ∧ Q (.int ys.length) H) := by
  intro pins s σ H xs us Q I r h
  obtain ⟨p, ys, rfl, hq, q⟩ := h
  obtain ⟨u, rfl, rx⟩ := vals1 r
  cases rx
  have hn := line63
  rcases hq with hq | hq
  · obtain ⟨its, r', pl, hz⟩ := I.list hq
    have hlen := r'.length
    exact Calls.call_len_list pl.isList (by simp only [List.size_toArray] <;> omega) ⟨.int ys.length, H, I.tok _, ⟨s.toks + 1, by rw [List.size_toArray, hlen]⟩, q⟩
  · obtain ⟨its, r', pl, hz⟩ := I.tuple hq
    have hlen := r'.length
    exact len_tuple pl (by simp only [List.size_toArray] <;> omega) ⟨.int ys.length, H, I.tok _, ⟨s.toks + 1, by rw [List.size_toArray, hlen]⟩, q⟩
theorem call_len_str : CallR X (.builtin "len") (fun xs H Q => ∃ z, xs = [.str z] ∧ z.length ≤ sizeLine ∧ Q (.int z.length) H) := by
  intro pins s σ H xs us Q I r h
  obtain ⟨z, rfl, hz, q⟩ := h
  obtain ⟨u, rfl, t, rfl⟩ := vals1 r
  have hn := line63
  exact len_str (by omega) ⟨.int z.length, H, I.tok _, ⟨_, rfl⟩, q⟩
theorem CallR.or {f : Value} {r r' : List V → Hp → VK → Prop} (h : CallR X f r) (h' : CallR X f r') : CallR X f (fun xs H Q => r xs H Q ∨ r' xs H Q) := by
  intro pins s σ H xs us Q I rs q
  rcases q with q | q
  · exact h pins s σ H xs us Q I rs q
  · exact h' pins s σ H xs us Q I rs q
theorem call_list_of : CallR X (.type "list") (fun xs H Q => ∃ p ys, xs = [.ref p] ∧ (SqL X.K H p ys ∨ SqT X.K H p ys) ∧ ∀ l, H l = none → Q (.ref l) (upd H l (.lst ys))) := by
  intro pins s σ H xs us Q I r h
  obtain ⟨p, ys, rfl, hq, q⟩ := h
  obtain ⟨u, rfl, rx⟩ := vals1 r
  cases rx
  have fin : ∀ (its : List Value), Vals ys its → ys.length ≤ sizeLine → ∀ (h' : Heap) (c' : Nat), (∀ b o', s.heap.get? b = some o' → h'.get? b = some o') →
      h'.get? s.heap.objs.size = some { cls := .type "list", dict := none, data := .seq its.toArray c', slots := #[] } → EP X pins σ Q (.ref s.heap.objs.size) { s with heap := h' } := fun its r' hz h' c' kp e =>
    ⟨.ref s.heap.objs.size, _, I.laid (t' := s.toks) kp (Nat.le_refl _) (show ObjOk X.prog X.w _ h' _ (.lst ys) from ⟨hz, its, c', r', e⟩), rfl, q _ (I.hok.fresh (Nat.le_refl _))⟩
  rcases hq with hq | hq
  · obtain ⟨its, r', pl, hz⟩ := I.list hq
    have hlen := r'.length
    obtain ⟨o, ho, hc, n, hd⟩ := pl.isList
    exact call_list_seq p (.inl rfl) ho hc hd (fun h' c' kp e => fin its r' hz h' c' kp e) (by simp only [List.size_toArray] <;> omega)
  · obtain ⟨its, r', pl, hz⟩ := I.tuple hq
    have hlen := r'.length
    obtain ⟨o, ho, hc, n, hd⟩ := pl
    exact call_list_seq p (.inr rfl) ho hc hd (fun h' c' kp e => fin its r' hz h' c' kp e) (by simp only [List.size_toArray] <;> omega)
theorem call_tuple_of : CallR X (.type "tuple") (fun xs H Q => ∃ p ys, xs = [.ref p] ∧ ((SqL X.K H p ys ∧ ∀ l, H l = none → Q (.ref l) (upd H l (.tup ys))) ∨ (SqT X.K H p ys ∧ Q (.ref p) H))) := by
  intro pins s σ H xs us Q I r h
  obtain ⟨p, ys, rfl, h⟩ := h
  obtain ⟨u, rfl, rx⟩ := vals1 r
  cases rx
  rcases h with ⟨hq, q⟩ | ⟨hq, q⟩
  · obtain ⟨its, r', pl, hz⟩ := I.list hq
    have hlen := r'.length
    refine call_tuple_list pl.isList (fun h' kp => ?_) (by simp only [List.size_toArray] <;> omega)
    have I1 : Inv X pins σ H { s with heap := h' } := I.kept (t' := s.toks) kp
    have I2 : Inv X pins σ (upd H h'.objs.size (.tup ys)) { s with heap := h'.push { cls := .type "tuple", data := .seq its.toArray } } :=
      I1.laid (t' := s.toks) (fun b o e => Heap.get?_push_of_some _ e) (Nat.le_refl _) (show ObjOk X.prog X.w _ _ _ (.tup ys) from ⟨hz, its, r', IsTup.new _ _⟩)
    exact ⟨.ref h'.objs.size, _, I2, rfl, q _ (I1.hok.fresh (Nat.le_refl _))⟩
  · obtain ⟨its, r', pl, hz⟩ := I.tuple hq
    exact call_tuple_same pl ⟨.ref p, H, I, rfl, q⟩

/-! ### the call of a builtin's method: o.m(..) -/
/-- the value is of that builtin type -/
def tyV (K : PySem.W.Frag) (T : String) (x : V) (H : Hp) : Prop := match x with
  | .str _ => T = "str"
  | .int _ => T = "int"
  | .ref p => (T = "list" ∧ ∃ xs, SqL K H p xs) ∨ (T = "tuple" ∧ ∃ o, K.lookup p = some o ∧ o.cls = .type "tuple" ∧ o.dict = none) ∨
      (T = "dict" ∧ ((∃ kvs, H p = some (.dK kvs)) ∨ ∃ kvs, H p = some (.dT kvs))) ∨ (T = "set" ∧ ∃ S n, H p = some (.set S n))
  | _ => False
theorem tyV_is {pins : List (Addr × Obj)} {σ : St} {H : Hp} {s : Shared} {T : String} {x : V} {v : Value} (I : Inv X pins σ H s) (r : RelV x v) (ty : tyV X.K T x H) :
    s.TypeIs v T ∧ ∀ a, v = .ref a → ∃ ob, s.heap.get? a = some ob ∧ ob.dict = none := by
  cases x with
  | str z =>
    obtain ⟨t, rfl⟩ := r
    cases (show T = "str" from ty)
    exact ⟨typeIs_str s z t, fun _ e => nomatch e⟩
  | int i =>
    obtain ⟨t, rfl⟩ := r
    cases (show T = "int" from ty)
    exact ⟨typeIs_int s i t, fun _ e => nomatch e⟩
  | ref p =>
    cases r
    rcases ty with ⟨rfl, xs, hq⟩ | ⟨rfl, o, hk, hc, hd⟩ | ⟨rfl, hk⟩ | ⟨rfl, S, n, hk⟩
    · obtain ⟨its, _, pl, _⟩ := I.list hq
      refine ⟨pl.isList.typeIs, fun a e => ?_⟩
      cases e
      obtain ⟨o, n, e, c, hd, _⟩ := pl
      exact ⟨o, e, hd⟩
    · refine ⟨⟨o, I.kIn p o hk, hc⟩, fun a e => ?_⟩
      cases e
      exact ⟨o, I.kIn _ o hk, hd⟩
    · have z : ∃ o, s.heap.get? p = some o ∧ o.ExactDict := by
        rcases hk with ⟨kvs, hk⟩ | ⟨kvs, hk⟩
        · obtain ⟨_, _, _, _, o, _, _, e, ex, _⟩ := I.hok p _ hk
          exact ⟨o, e, ex⟩
        · obtain ⟨_, _, _, _, o, _, _, e, ex, _⟩ := I.hok p _ hk
          exact ⟨o, e, ex⟩
      obtain ⟨o, e, ex⟩ := z
      refine ⟨⟨o, e, ex.1⟩, fun a e2 => ?_⟩
      cases e2
      exact ⟨o, e, ex.2.1⟩
    · obtain ⟨o, _, _, _, e, ex, _⟩ := I.hok p _ hk
      refine ⟨⟨o, e, ex.1⟩, fun a e2 => ?_⟩
      cases e2
      exact ⟨o, e, ex.2.1⟩
  | _ => exact False.elim ty
def tBM0 (K : PySem.W.Frag) (T : String) (r : V → List V → Hp → VK → Prop) (to : TE) : TE := fun σ H Q => to σ H fun x H1 => tyV K T x H1 ∧ r x [] H1 Q
def tBM (K : PySem.W.Frag) (T : String) (r : V → List V → Hp → VK → Prop) (to : TE) (t : TA) : TE := fun σ H Q => to σ H fun x H1 => tyV K T x H1 ∧ t σ H1 fun xs H2 => r x xs H2 Q
variable {o e : Expr} {es : List Expr} {to : TE} {t : TA} {name : Str} {apos cpos : Pos} {T id : String} {r : V → List V → Hp → VK → Prop}
theorem pe_bm0 (pa : PlainAttrs T) (slot : Slot T name id) (hty : typeOf (.builtin id) = pure (.type "method_descriptor")) (hm : MtR X id r) (ho : PE X o to)
    (hbase : attributeBase o name X.env (eval o X.env) = eval o X.env := by rfl) (hline : (apos.endLine == cpos.line) = true := by rfl) : PE X (.Call (.Attribute o name apos) [] [] cpos) (tBM0 X.K T r to) := by
  intro pins s σ H Q I h
  refine wpAny_Call_method0_late hbase hline (thn (ho pins s σ H _ I h) fun v s1 ⟨x, H1, I1, r1, ty, q1⟩ => ?_)
  obtain ⟨h1, h2⟩ := tyV_is I1 r1 ty
  exact ⟨T, id, pa, slot, hty, h1, h2, Calls.callWith_builtin rfl (PySem.evalArgs_none (hm pins s1 σ H1 x [] v [] Q I1 r1 .nil q1))⟩
theorem pe_bm (pa : PlainAttrs T) (slot : Slot T name id) (hty : typeOf (.builtin id) = pure (.type "method_descriptor")) (hm : MtR X id r) (ho : PE X o to) (ha : PA X (e :: es) t)
    (hbase : attributeBase o name X.env (eval o X.env) = eval o X.env := by rfl)
    (hfew : ((backTo cpos (starEach (e :: es) X.env)).all (fun x => !x.1) && (backToKw cpos (keywordEach [] X.env)).all (fun x => x.1.isSome)
      && decide ((e :: es).length + ([] : List Keyword).length + (if ([] : List Keyword).isEmpty then 0 else 1) < 30)) = true := by rfl)
    (hline : (apos.endLine == cpos.line) = true := by rfl) (hs : starEach (e :: es) X.env = (false, eval e X.env) :: starEach es X.env := by rfl) (hplain : (backTo cpos (starEach es X.env)).any (·.1) = false := by rfl) :
    PE X (.Call (.Attribute o name apos) (e :: es) [] cpos) (tBM X.K T r to t) := by
  intro pins s σ H Q I h
  refine wpAny_Call_method_late hbase hfew hline rfl (thn (ho pins s σ H _ I h) fun v s1 ⟨x, H1, I1, r1, ty, q1⟩ => ?_)
  obtain ⟨h1, h2⟩ := tyV_is I1 r1 ty
  refine ⟨T, id, pa, slot, hty, h1, h2, ?_⟩
  have hA := ha cpos pins s1 σ H1 _ I1 q1
  rw [hs] at hA ⊢
  refine Calls.callWith_builtin (by show (false || (backTo cpos (starEach es X.env)).any (·.1)) = false; rw [hplain] <;> rfl) (Calls.evalArgs_plain ?_)
  exact thn hA fun us s2 ⟨vs, H2, I2, r2, q2⟩ => hm pins s2 σ H2 x vs v us Q I2 r1 r2 q2
/- xs.append(e), list.index on a module's tuple .. are MtR facts of 06m -/
end
end L2

namespace L2
open PySem PySem.Spec PyProof.Rows

def MtM (X : Cx) (id : String) (r : V → List V → Hp → VK → Prop) : Prop :=
  ∀ (pins : List (Addr × Obj)) (s : Shared) (σ : St) (H : Hp) (x : V) (xs : List V) (v : Value) (us : List Value) (Q : VK), Inv X pins σ H s → RelV x v → Vals xs us → r x xs H Q →
    wpAny (model X.prog X.w) X.A (call (.builtin id) (v :: us)) (EP X pins σ Q) X.xe s

/-! ### lists of values -/
theorem Vals.one : ∀ {x : V} {us : List Value}, Vals [x] us → ∃ u, us = [u] ∧ RelV x u
  | _, _, .cons r .nil => ⟨_, rfl, r⟩
theorem Vals.two : ∀ {x y : V} {us : List Value}, Vals [x, y] us → ∃ u v, us = [u, v] ∧ RelV x u ∧ RelV y v
  | _, _, _, .cons r (.cons q .nil) => ⟨_, _, rfl, r, q⟩
theorem Vals.zero : ∀ {us : List Value}, Vals [] us → us = []
  | _, .nil => rfl
theorem Vals.dropLast {xs : List V} {us : List Value} (h : Vals xs us) : Vals xs.dropLast us.dropLast := by
  induction h with
  | nil => exact .nil
  | cons r t ih =>
    cases t with
    | nil => exact .nil
    | cons q t' => exact .cons r ih
theorem Vals.eraseIdx : ∀ {xs : List V} {us : List Value} (i : Nat), Vals xs us → Vals (xs.eraseIdx i) (us.eraseIdx i)
  | _, _, _, .nil => .nil
  | _, _, 0, .cons _ t => t
  | _, _, i + 1, .cons r t => .cons r (Vals.eraseIdx i t)
theorem Vals.reverse {xs : List V} {us : List Value} (h : Vals xs us) : Vals xs.reverse us.reverse := by
  induction h with
  | nil => exact .nil
  | cons r t ih => rw [List.reverse_cons, List.reverse_cons]; exact Vals.append ih (.cons r .nil)
theorem Vals.rep {xs : List V} {us : List Value} (h : Vals xs us) : ∀ k : Nat, Vals (List.replicate k xs).flatten (List.replicate k us).flatten
  | 0 => .nil
  | k + 1 => by
    rw [List.replicate_succ, List.replicate_succ, List.flatten_cons, List.flatten_cons]
    exact Vals.append h (Vals.rep h k)
theorem erase_last {α : Type} (l : List α) : l.eraseIdx (l.length - 1) = l.dropLast := by
  induction l with
  | nil => rfl
  | cons a r ih =>
    cases r with
    | nil => rfl
    | cons b r =>
      have e : (a :: b :: r).length - 1 = ((b :: r).length - 1) + 1 := by
        have h1 : (a :: b :: r).length = r.length + 2 := rfl
        have h2 : (b :: r).length = r.length + 1 := rfl
        omega
      rw [e, List.eraseIdx_cons_succ, ih]
      all_goals rfl
theorem len_erase {α : Type} : ∀ (l : List α) (i : Nat), (l.eraseIdx i).length ≤ l.length
  | [], _ => Nat.le_refl _
  | _ :: _, 0 => Nat.le_succ _
  | _ :: r, i + 1 => Nat.succ_le_succ (len_erase r i)
theorem foldl_rep (its : List Value) : ∀ (k : Nat) (acc : List Value),
    List.foldl (fun x1 x2 => x1 ++ x2) acc.toArray (List.replicate k its.toArray) = (acc ++ (List.replicate k its).flatten).toArray
  | 0, acc => by simp
  | k + 1, acc => by
    have e : acc.toArray ++ its.toArray = (acc ++ its).toArray := by simp
    have e2 : (acc ++ its) ++ (List.replicate k its).flatten = acc ++ (List.replicate (k + 1) its).flatten := by
      rw [List.replicate_succ, List.flatten_cons, List.append_assoc]
    rw [← e2, ← foldl_rep its k (acc ++ its), ← e, List.replicate_succ, List.foldl_cons]

section
variable {X : Cx} {pins : List (Addr × Obj)} {σ : St} {H : Hp} {s : Shared} {l b : Addr} {xs ys zs : List V}

/-! ### the two steps: a tracked list is rewritten, a new list is laid -/
theorem Inv.lset {its its' : List Value} {n : Nat} {f : Array Value → Array Value} {t' : Nat} (I : Inv X pins σ H s) (hH : H l = some (.lst xs))
    (e : s.heap.get? l = some { cls := .type "list", data := .seq its.toArray n }) (hf : f its.toArray = its'.toArray) (hv : Vals ys its') (hz : ys.length ≤ sizeLine) :
    Inv X pins σ (upd H l (.lst ys)) { s with heap := s.heap.update l (Obj.mapSeq f), toks := t' } := by
  have q := PySem.IsL.update e f
  rw [hf] at q
  refine I.write (x := l) (e := l) (by rw [hH]; exact trivial) (.inl rfl) (fun b' u hb hu => (Heap.get?_update_other s.heap (Obj.mapSeq f) (Ne.symm hb)).trans hu) ⟨_, q⟩ ?_
  exact ⟨hz, its', _, hv, q⟩
theorem Inv.lnew {its : List Value} {t' : Nat} (I : Inv X pins σ H s) (hv : Vals ys its) (hz : ys.length ≤ sizeLine) :
    Inv X pins σ (upd H s.heap.objs.size (.lst ys)) { s with heap := s.heap.push { cls := .type "list", data := .seq its.toArray }, toks := t' } :=
  I.laid (fun _ _ q => Heap.get?_push_of_some _ q) (Nat.le_refl _) ⟨hz, its, 0, hv, Heap.get?_push_size _ rfl⟩
theorem Inv.fresh (I : Inv X pins σ H s) : H s.heap.objs.size = none := I.hok.fresh (Nat.le_refl _)
theorem Inv.lstM (I : Inv X pins σ H s) (hH : H l = some (.lst xs)) : xs.length ≤ sizeLine ∧ ∃ (its : List Value) (n : Nat), Vals xs its ∧ xs.length = its.length ∧ s.heap.get? l = some { cls := .type "list", data := .seq its.toArray n } := by
  obtain ⟨z, its, n, r, e⟩ := I.hok l _ hH
  exact ⟨z, its, n, r, r.length, e⟩

theorem notLongL {n : Nat} (h : n ≤ sizeLine) : Builtin.List.listTooLong n = false := by
  unfold Builtin.List.listTooLong
  exact decide_eq_false (by omega)
end

section
variable {X : Cx}

/-! ### methods -/
def rAppend : V → List V → Hp → VK → Prop := fun x vs H Q => ∃ l xs y, x = .ref l ∧ vs = [y] ∧ H l = some (.lst xs) ∧ xs.length < sizeLine ∧ Q .non (upd H l (.lst (xs ++ [y])))
theorem mt_append : MtM X "list.append" rAppend := by
  intro pins s σ H x vs v us Q I rx rv h
  obtain ⟨l, xs, y, rfl, rfl, hH, hz, q⟩ := h
  cases rx
  obtain ⟨u, rfl, ru⟩ := rv.one
  obtain ⟨z, its, n, r, hl, e⟩ := I.lstM hH
  refine call_meets F.slot_list_append ⟨_, e, rfl⟩ F.entry_list_append (F.args_list_append_2 _ _) (PySem.list_append l its.toArray n u (by rw [List.size_toArray]; omega)) ⟨e, ?_⟩
  refine ⟨.non, _, I.lset (its' := its ++ [u]) hH e (by simp) (r.append (.cons ru .nil)) ?_, rfl, q⟩
  rw [List.length_append, List.length_singleton]
  omega

def rExtend : V → List V → Hp → VK → Prop := fun x vs H Q => ∃ l b xs zs, x = .ref l ∧ vs = [.ref b] ∧ H l = some (.lst xs) ∧ H b = some (.lst zs) ∧ xs.length + zs.length ≤ sizeLine ∧ Q .non (upd H l (.lst (xs ++ zs)))
theorem mt_extend : MtM X "list.extend" rExtend := by
  intro pins s σ H x vs v us Q I rx rv h
  obtain ⟨l, b, xs, zs, rfl, rfl, hH, hB, hz, q⟩ := h
  cases rx
  obtain ⟨u, rfl, ru⟩ := rv.one
  cases ru
  obtain ⟨z, its, n, r, hl, e⟩ := I.lstM hH
  obtain ⟨z2, its2, n2, r2, hl2, e2⟩ := I.lstM hB
  have hsz : its.toArray.size + its2.toArray.size ≤ sizeLine := by rw [List.size_toArray, List.size_toArray]; omega
  have hlong : ¬ (!its.toArray.isEmpty && Builtin.List.listTooLong (its.toArray.size + its2.toArray.size)) = true := by
    rw [notLongL hsz, Bool.and_false]
    exact Bool.false_ne_true
  refine call_meets F.slot_list_extend ⟨_, e, rfl⟩ F.entry_list_extend (F.args_list_extend_2 _ _)
    (AutoSeq1.list_extend_list_list_0 l its.toArray n b its2.toArray n2 hlong (by rw [List.size_toArray]; omega) (by omega)) ⟨e, e2, ?_⟩
  refine ⟨.non, _, I.lset (its' := its ++ its2) hH e (by simp) (r.append r2) ?_, rfl, q⟩
  rw [List.length_append]
  omega

def rPop : V → List V → Hp → VK → Prop := fun x vs H Q => ∃ l xs y, x = .ref l ∧ vs = [] ∧ H l = some (.lst xs) ∧ xs[xs.length - 1]? = some y ∧ Q y (upd H l (.lst xs.dropLast))
theorem mt_pop : MtM X "list.pop" rPop := by
  intro pins s σ H x vs v us Q I rx rv h
  obtain ⟨l, xs, y, rfl, rfl, hH, hy, q⟩ := h
  cases rx
  have hus := rv.zero
  subst hus
  obtain ⟨z, its, n, r, hl, e⟩ := I.lstM hH
  obtain ⟨u, hu, ru⟩ := r.get hy
  have hy' : its.toArray[its.toArray.size - 1]? = some u := by
    show its.toArray[its.length - 1]? = some u
    rw [← Array.getElem?_toList, ← hl]
    exact hu
  refine call_meets F.slot_list_pop ⟨_, e, rfl⟩ F.entry_list_pop (F.args_list_pop_1 _) (MeetsSeq.list_pop_last l its.toArray n u hy' (by rw [List.size_toArray]; omega)) ⟨e, ?_⟩
  refine ⟨y, _, I.lset (its' := its.dropLast) hH e ?_ r.dropLast ?_, ru, q⟩
  · show its.toArray.eraseIdxIfInBounds (its.toArray.size - 1) = its.dropLast.toArray
    rw [List.size_toArray, List.eraseIdxIfInBounds_toArray, erase_last]
  · rw [List.length_dropLast]
    omega

def rPopAt : V → List V → Hp → VK → Prop := fun x vs H Q => ∃ l xs i k y, x = .ref l ∧ vs = [.int i] ∧ H l = some (.lst xs) ∧ -(2 ^ 63) ≤ i ∧ i < 2 ^ 63 ∧ seqIndex? i xs.length = some k ∧ xs[k]? = some y ∧ Q y (upd H l (.lst (xs.eraseIdx k)))
theorem mt_popAt : MtM X "list.pop" rPopAt := by
  intro pins s σ H x vs v us Q I rx rv h
  obtain ⟨l, xs, i, k, y, rfl, rfl, hH, h1, h2, hk, hy, q⟩ := h
  cases rx
  obtain ⟨u, rfl, ru⟩ := rv.one
  obtain ⟨t, rfl⟩ := ru
  obtain ⟨z, its, n, r, hl, e⟩ := I.lstM hH
  obtain ⟨w, hw, rw'⟩ := r.get hy
  refine call_meets F.slot_list_pop ⟨_, e, rfl⟩ F.entry_list_pop (F.args_list_pop_2 _ _)
    (MeetsSeq.list_pop_at l its.toArray n i t k w (fitsIndex_both h1 h2) (by rw [List.size_toArray, ← hl]; exact hk) (by rw [← Array.getElem?_toList]; exact hw) (by rw [List.size_toArray]; omega)) ⟨e, ?_⟩
  refine ⟨y, _, I.lset (its' := its.eraseIdx k) hH e ?_ (r.eraseIdx k) ?_, rw', q⟩
  · show its.toArray.eraseIdxIfInBounds k = (its.eraseIdx k).toArray
    rw [List.eraseIdxIfInBounds_toArray]
  · have := len_erase xs k
    omega

def rReverse : V → List V → Hp → VK → Prop := fun x vs H Q => ∃ l xs, x = .ref l ∧ vs = [] ∧ H l = some (.lst xs) ∧ Q .non (upd H l (.lst xs.reverse))
theorem mt_reverse : MtM X "list.reverse" rReverse := by
  intro pins s σ H x vs v us Q I rx rv h
  obtain ⟨l, xs, rfl, rfl, hH, q⟩ := h
  cases rx
  have hus := rv.zero
  subst hus
  obtain ⟨z, its, n, r, hl, e⟩ := I.lstM hH
  refine call_meets F.slot_list_reverse ⟨_, e, rfl⟩ F.entry_list_reverse (F.args_list_reverse_1 _) (AutoSeq1.list_reverse_list_0 l its.toArray n (by rw [List.size_toArray]; omega)) ⟨e, ?_⟩
  refine ⟨.non, _, I.lset (its' := its.reverse) hH e (by simp) r.reverse ?_, rfl, q⟩
  rw [List.length_reverse]
  omega

def rClear : V → List V → Hp → VK → Prop := fun x vs H Q => ∃ l xs, x = .ref l ∧ vs = [] ∧ H l = some (.lst xs) ∧ Q .non (upd H l (.lst []))
theorem mt_clear : MtM X "list.clear" rClear := by
  intro pins s σ H x vs v us Q I rx rv h
  obtain ⟨l, xs, rfl, rfl, hH, q⟩ := h
  cases rx
  have hus := rv.zero
  subst hus
  obtain ⟨z, its, n, r, hl, e⟩ := I.lstM hH
  refine call_meets F.slot_list_clear ⟨_, e, rfl⟩ F.entry_list_clear (F.args_list_clear_1 _) (AutoSeq1.list_clear_list_0 l its.toArray n (by rw [List.size_toArray]; omega)) ⟨e, ?_⟩
  exact ⟨.non, _, I.lset (its' := []) (ys := []) hH e rfl .nil (Nat.zero_le _), rfl, q⟩

/-! ### list + list, list += list, list * int -/
def rCat : R2 := fun x y H Q => ∃ l b xs zs, x = .ref l ∧ y = .ref b ∧ H l = some (.lst xs) ∧ H b = some (.lst zs) ∧ xs.length + zs.length ≤ sizeLine ∧ ∀ p, H p = none → Q (.ref p) (upd H p (.lst (xs ++ zs)))
theorem op_cat : OpR X (binaryOp .Add) rCat := by
  intro pins s σ H x y v u Q I rx ry h
  obtain ⟨l, b, xs, zs, rfl, rfl, hH, hB, hz, q⟩ := h
  cases rx
  cases ry
  obtain ⟨z, its, n, r, hl, e⟩ := I.lstM hH
  obtain ⟨z2, its2, n2, r2, hl2, e2⟩ := I.lstM hB
  refine PySem.P.add_list e e2 ?_ (by rw [List.size_toArray, List.size_toArray]; omega)
  have ea : its.toArray ++ its2.toArray = (its ++ its2).toArray := by simp
  rw [ea]
  exact ⟨.ref _, _, I.lnew (t' := s.toks) (r.append r2) (by rw [List.length_append]; omega), rfl, q _ I.fresh⟩
/-- a list times an int (a negative one is nothing) -/
def rRep : R2 := fun x y H Q => ∃ l k xs, x = .ref l ∧ y = .int k ∧ H l = some (.lst xs) ∧ -(2 ^ 63) ≤ k ∧ k < 2 ^ 63 ∧ xs.length * k.toNat ≤ sizeLine ∧
  ∀ p, H p = none → Q (.ref p) (upd H p (.lst (List.replicate k.toNat xs).flatten))
theorem len_rep {α : Type} (xs : List α) (k : Nat) : (List.replicate k xs).flatten.length = k * xs.length := by
  induction k with
  | zero => simp
  | succ k ih => rw [List.replicate_succ, List.flatten_cons, List.length_append, ih, Nat.succ_mul, Nat.add_comm]
theorem op_rep : OpR X (binaryOp .Mult) rRep := by
  intro pins s σ H x y v u Q I rx ry h
  obtain ⟨l, k, xs, rfl, rfl, hH, h1, h2, hz, q⟩ := h
  cases rx
  obtain ⟨t, rfl⟩ := ry
  obtain ⟨z, its, n, r, hl, e⟩ := I.lstM hH
  have hlen : its.toArray.size * k.toNat ≤ sizeLine := by rw [List.size_toArray, ← hl]; exact hz
  have hcap : ¬ its.toArray.size * k.toNat > (2 ^ 63 - 1) / 8 := by
    have : (sizeLine : Nat) ≤ (2 ^ 63 - 1) / 8 := by decide
    omega
  have hfit : ¬ (!Builtin.List.listFitsIndex k) = true := by
    rw [fitsIndex_both h1 h2]
    exact Bool.false_ne_true
  have hlong : ¬ Builtin.List.listTooLong (its.toArray.size * k.toNat) = true := by
    rw [notLongL hlen]
    exact Bool.false_ne_true
  have hnew : List.foldl (fun x1 x2 => x1 ++ x2) #[] (List.replicate (if its.toArray.isEmpty = true then 0 else k.toNat) its.toArray) = (List.replicate k.toNat its).flatten.toArray := by
    have f0 : ∀ m : Nat, List.foldl (fun x1 x2 => x1 ++ x2) #[] (List.replicate m its.toArray) = (List.replicate m its).flatten.toArray := fun m => by
      have := foldl_rep its m []
      rw [List.nil_append] at this
      exact this
    rw [f0]
    cases its with
    | nil => simp
    | cons a r' => rw [if_neg (by simp)]
  refine wpAny_binaryOp_repeat_ref (T := "list") (U := "int") (by decide) ⟨_, e, rfl⟩ (fun s' => typeIs_int s' k t) noFill_list_mul F.fills_int_mul F.slot_int_rmul repeat_list F.slot_int_index.lookup
    (call_meets F.slot_int_rmul (typeIs_int s k t) F.entry_int_rmul (F.args_int_rmul_2 _ _) (int___rmul___int_list k t l its.toArray n)
      ⟨e, rfl, ⟨_, e, rfl⟩, call_meets F.slot_list_mul ⟨_, e, rfl⟩ F.entry_list_mul (F.args_list_mul_2 _ _) (AutoListH.list___mul___list_int_3 l its.toArray n k t hfit hcap hlong) ⟨e, ?_⟩⟩)
  rw [hnew]
  exact ⟨.ref _, _, I.lnew (t' := s.toks) (r.rep k.toNat) (by rw [len_rep, Nat.mul_comm]; exact hz), rfl, q _ I.fresh⟩

/-! ### del xs[i] -/
theorem del_list {pins : List (Addr × Obj)} {s : Shared} {σ : St} {H : Hp} {l : Addr} {xs : List V} {i : Int} {t : Tok} {k : Nat} {Q : Unit → Shared → Prop} (I : Inv X pins σ H s) (hH : H l = some (.lst xs))
    (h1 : -(2 ^ 63) ≤ i) (h2 : i < 2 ^ 63) (hk : seqIndex? i xs.length = some k) (h : ∀ s', Inv X pins σ (upd H l (.lst (xs.eraseIdx k))) s' → Q () s') :
    wpAny (model X.prog X.w) X.A (delItem (.ref l) (.int i t)) Q X.xe s := by
  obtain ⟨z, its, n, r, hl, e⟩ := I.lstM hH
  refine PySem.P.delItem_list (k := k) e (fitsIndex_both h1 h2) (by rw [List.size_toArray, ← hl]; exact hk) (h _ ?_) (by rw [List.size_toArray]; omega)
  refine I.lset (its' := its.eraseIdx k) (t' := s.toks) hH e ?_ (r.eraseIdx k) ?_
  · show its.toArray.eraseIdxIfInBounds k = (its.eraseIdx k).toArray
    rw [List.eraseIdxIfInBounds_toArray]
  · have := len_erase xs k
    omega
end

/-! ### xs[a:b] = ys -/
section
variable {prog : Program} {w : World} {A : Around} {E : Value → Shared → Prop} {s : Shared}
theorem splice_eq (its its2 : List Value) (a c : Nat) : its.toArray.extract 0 a ++ its2.toArray ++ its.toArray.extract c its.toArray.size = (its.take a ++ its2 ++ its.drop c).toArray := by
  apply Array.toList_inj.mp
  first
    | (simp
       exact List.take_of_length_le (by simp))
    | simp [List.take_of_length_le]
    | simp
theorem bounds_run {a c n : Nat} (hac : a ≤ c) (hc : c ≤ n) : sliceBounds (some (a : Int)) (some (c : Int)) none n = ((a : Int), (c : Int), 1) := by
  simp only [sliceBounds, Option.getD_none]
  have h1 : ¬ ((a : Int) < 0) := by omega
  have h2 : ¬ ((c : Int) < 0) := by omega
  simp only [h1, h2, if_false, show (1 : Int) > 0 by decide, if_true]
  congr 1
  · omega
  · congr 1; omega
set_option maxRecDepth 100000 in
/-- list.__setitem__ with a slice of step one and another list -/
theorem setItem_slice {l b sl : Addr} {items new : Array Value} {n n2 : Nat} {vl vu : Value} {a c : Nat} {Q : Unit → Shared → Prop}
    (e : s.heap.get? l = some { cls := .type "list", data := .seq items n }) (e2 : s.heap.get? b = some { cls := .type "list", data := .seq new n2 }) (hne : l ≠ b)
    (hs : s.heap.IsSliceOf sl vl vu .none) (pl : IsPart vl (some (a : Int))) (pu : IsPart vu (some (c : Int))) (hac : a ≤ c) (hc : c ≤ items.size)
    (hsz : items.size + new.size ≤ sizeLine) (h : Q () { s with heap := s.heap.update l (Obj.mapSeq fun xs => xs.extract 0 a ++ new ++ xs.extract c xs.size) }) :
    wpAny (model prog w) A (setItem (.ref l) (.ref sl) (.ref b)) Q E s := by
  have hl : s.heap.IsList l items := PySem.IsL.isList e
  have hb : s.heap.IsList b new := PySem.IsL.isList e2
  obtain ⟨os, hos, hcs, hds⟩ := id hs
  have hTs : s.TypeIs (.ref sl) "slice" := ⟨os, hos, hcs⟩
  have hstep : ¬ ((rawPart none == rawInt 0) = true) := Bool.false_ne_true
  have hsame : Builtin.List.listSameRef (.ref l) (.ref b) = false := by
    unfold Builtin.List.listSameRef
    exact beq_eq_false_iff_ne.mpr hne
  have hmax : (max (a : Int) (c : Int)).toNat = c := by omega
  have hz' : ((fun xs : Array Value => xs.extract 0 a ++ new ++ xs.extract c xs.size) items).size ≤ sizeLine + 1 := by
    simp only [Array.size_append, Array.size_extract]
    omega
  unfold setItem
  try with_reducible refine wpAny_holding ?_
  first | refine wpAny_bind (wpAny_pure ?_) | skip
  refine wpAny_bind (wpAny_sequenceKey hl.typeIs (by decide) ?_)
  refine wpAny_bind (wpAny_callSpecial?_slot (name := Str.ofString "__setitem__") hl.typeIs slot_list_setitem
    (wpAny_call_entry slot_list_setitem hl.typeIs entry_list_setitem ?_ (args_list_setitem _ _ _)))
  show wpAny _ _ (Builtin.List.listSubscript? (.ref sl) >>= _) _ _ s
  refine wpAny_bind ?_
  unfold Builtin.List.listSubscript?
  refine wpAny_bind (wpAny_specialOf hTs slice_no_index ?_)
  simp only [Option.isNone_none, if_true]
  refine wpAny_pure ?_
  show wpAny _ _ (typeOf (.ref sl) >>= _) _ _ s
  refine wpAny_bind (wpAny_typeOf hTs ?_)
  first
    | rw [if_neg (by decide)]
    | refine PySem.W.KFB.if_not (by decide) ?_
  rw [listSliceParts_eq]
  refine wpAny_bind (wpAny_bind (wpAny_field hos hds (x := .none) rfl (wpAny_bind (wpAny_listPart .none ?_))))
  rw [if_neg hstep]
  refine wpAny_bind (wpAny_field hos hds (x := vl) rfl (wpAny_bind (wpAny_listPart pl ?_)))
  refine wpAny_bind (wpAny_field hos hds (x := vu) rfl (wpAny_bind (wpAny_listPart pu (wpAny_pure ?_))))
  first
    | simp only [hsame, Bool.false_eq_true, if_false]
    | refine PySem.W.KFB.if_not hsame ?_
    | (dsimp only
       rw [if_neg (by rw [hsame]; exact Bool.false_ne_true)])
  refine wpAny_bind (m := Builtin.List.listAllItems (.ref b) "must assign iterable to extended slice") ?_
  unfold Builtin.List.listAllItems
  refine wpAny_bind (wpAny_typeOf hb.typeIs ?_)
  first
    | refine PySem.W.KFB.if_so (by decide) ?_
    | rw [if_pos (by decide)]
    | simp only [beq_self_eq_true, Bool.true_or, if_true]
  unfold Builtin.List.listItems
  refine wpAny_bind (wpAny_seqItems e2 rfl (wpAny_pure ?_))
  refine wpAny_bind (wpAny_bind (wpAny_seqItems e rfl (wpAny_pure ?_)))
  refine wpAny_bind (wpAny_of_eq ((sliceIndices_raw (some (a : Int)) (some (c : Int)) none items.size (by simp)).trans (congrArg (pure : Int × Int × Int → Sem (Int × Int × Int)) (bounds_run hac hc))) ?_)
  show wpAny _ _ (if ((1 : Int) == 1) = true then _ else _) _ _ s
  rw [if_pos (by decide)]
  refine wpAny_bind (wpAny_rule ?_)
  first
    | simp only [notLongL hsz, Bool.false_eq_true, if_false]
    | refine PySem.W.KFB.if_not (notLongL hsz) ?_
  first | refine wpAny_bind (wpAny_pure ?_) | skip
  show wpAny _ _ (updateSeq l (fun xs => xs.extract 0 ((a : Int)).toNat ++ new ++ xs.extract (max (a : Int) (c : Int)).toNat xs.size) >>= _) _ _ s
  rw [hmax, Int.toNat_natCast]
  refine wpAny_bind (wpAny_updateSeq (hz := Nat.le_trans (Nat.le_add_right _ _) hsz) (_hz' := hz') e rfl ?_)
  refine wpAny_bind (wpAny_letGo ?_)
  first
    | exact wpAny_bind (wpAny_pure (wpAny_pure ⟨.none, rfl, wpAny_pure h⟩))
    | exact wpAny_pure ⟨.none, rfl, wpAny_pure h⟩
end

section
variable {X : Cx}
/-- xs[a:c] = ys of another list, at the value level: sl is the slice object that was just made -/
theorem set_slice {pins : List (Addr × Obj)} {s : Shared} {σ : St} {H : Hp} {l b sl : Addr} {xs ys : List V} {a c : Int} {vl vu : Value} {Q : Unit → Shared → Prop} (I : Inv X pins σ H s)
    (hH : H l = some (.lst xs)) (hB : H b = some (.lst ys)) (hne : l ≠ b) (hs : s.heap.IsSliceOf sl vl vu .none) (ra : RelV (.int a) vl) (rc : RelV (.int c) vu) (h0 : 0 ≤ a) (hac : a ≤ c) (hc : c ≤ xs.length)
    (hz : xs.length + ys.length ≤ sizeLine) (h : ∀ s', Inv X pins σ (upd H l (.lst (xs.take a.toNat ++ ys ++ xs.drop c.toNat))) s' → Q () s') :
    wpAny (model X.prog X.w) X.A (setItem (.ref l) (.ref sl) (.ref b)) Q X.xe s := by
  obtain ⟨ta, rfl⟩ := ra
  obtain ⟨tc, rfl⟩ := rc
  obtain ⟨z, its, n, r, hl, e⟩ := I.lstM hH
  obtain ⟨z2, its2, n2, r2, hl2, e2⟩ := I.lstM hB
  obtain ⟨a', rfl⟩ := Int.eq_ofNat_of_zero_le h0
  obtain ⟨c', rfl⟩ := Int.eq_ofNat_of_zero_le (Int.le_trans h0 hac)
  simp only [Int.toNat_natCast] at h
  refine setItem_slice (a := a') (c := c') e e2 hne hs (.int _ _) (.int _ _) (by omega) (by rw [List.size_toArray]; omega) (by rw [List.size_toArray, List.size_toArray]; omega) (h _ ?_)
  refine I.lset (its' := its.take a' ++ its2 ++ its.drop c') (t' := s.toks) hH e ?_ (Vals.append (Vals.append (r.take _) r2) (r.drop _)) ?_
  · exact splice_eq its its2 a' c'
  · rw [List.length_append, List.length_append, List.length_take, List.length_drop]
    omega
end
end L2

namespace L2
open PySem PySem.Spec PyProof.Rows

/-! ### lists of pairs as tables -/
section
variable {κ : Type} [DecidableEq κ]
def valV (kvs : List (κ × V)) (k : κ) : Option V := (kvs.find? fun kv => decide (kv.1 = k)).map (·.2)
/-- in its place, or at the end -/
def putK (kvs : List (κ × V)) (k : κ) (v : V) : List (κ × V) :=
  if (kvs.any fun kv => decide (kv.1 = k)) = true then kvs.map (fun kv => if kv.1 = k then (kv.1, v) else kv) else kvs ++ [(k, v)]
def dropK (kvs : List (κ × V)) (k : κ) : List (κ × V) := kvs.filter fun kv => decide (kv.1 ≠ k)

theorem valV_nil {k : κ} : valV ([] : List (κ × V)) k = none := rfl
theorem valV_pos {p : κ × V} {r : List (κ × V)} {k : κ} (e : p.1 = k) : valV (p :: r) k = some p.2 := by simp [valV, List.find?_cons, e]
theorem valV_neg {p : κ × V} {r : List (κ × V)} {k : κ} (e : ¬ p.1 = k) : valV (p :: r) k = valV r k := by simp [valV, List.find?_cons, e]
theorem valV_any (k : κ) : ∀ kvs : List (κ × V), (kvs.any fun kv => decide (kv.1 = k)) = (valV kvs k).isSome
  | [] => rfl
  | p :: r => by
    rw [List.any_cons]
    by_cases e : p.1 = k
    · simp only [valV_pos e, decide_eq_true e, Bool.true_or, Option.isSome_some]
    · rw [valV_neg e, decide_eq_false e, Bool.false_or]; exact valV_any k r
theorem valV_map (k j : κ) (y : V) : ∀ kvs : List (κ × V), valV (kvs.map fun kv => if kv.1 = k then (kv.1, y) else kv) j = (valV kvs j).map fun x => if j = k then y else x
  | [] => rfl
  | p :: r => by
    have ih := valV_map k j y r
    rw [List.map_cons]
    by_cases h : p.1 = k
    · rw [if_pos h]
      by_cases e : p.1 = j
      · rw [valV_pos (p := (p.1, y)) e, valV_pos e, Option.map_some, if_pos (e.symm.trans h)]
      · rw [valV_neg (p := (p.1, y)) e, valV_neg e, ih]
    · rw [if_neg h]
      by_cases e : p.1 = j
      · rw [valV_pos (p := p) e, valV_pos e, Option.map_some, if_neg (fun z => h (e.trans z))]
      · rw [valV_neg (p := p) e, valV_neg e, ih]
theorem valV_snoc (k j : κ) (y : V) : ∀ kvs : List (κ × V), valV kvs k = none → valV (kvs ++ [(k, y)]) j = if j = k then some y else valV kvs j
  | [], _ => by
    by_cases e : k = j
    · rw [if_pos e.symm]; exact valV_pos (p := (k, y)) e
    · rw [if_neg (fun z => e z.symm)]; exact valV_neg (p := (k, y)) e
  | p :: r, hn => by
    rw [List.cons_append]
    have hk : ¬ p.1 = k := fun z => by rw [valV_pos z] at hn; cases hn
    rw [valV_neg hk] at hn
    have ih := valV_snoc k j y r hn
    by_cases e : p.1 = j
    · rw [valV_pos e, valV_pos e, if_neg (fun z => hk (e.trans z))]
    · rw [valV_neg e, valV_neg e, ih]
theorem valV_put (kvs : List (κ × V)) (k j : κ) (y : V) : valV (putK kvs k y) j = if j = k then some y else valV kvs j := by
  unfold putK
  by_cases a : (kvs.any fun kv => decide (kv.1 = k)) = true
  · rw [if_pos a, valV_map]
    rw [valV_any] at a
    by_cases e : j = k
    · obtain ⟨x, hx⟩ := Option.isSome_iff_exists.mp a
      rw [if_pos e, e, hx, Option.map_some, if_pos rfl]
    · rw [if_neg e]
      cases valV kvs j with
      | none => rfl
      | some x => rw [Option.map_some, if_neg e]
  · rw [if_neg a]
    refine valV_snoc k j y kvs ?_
    rw [valV_any] at a
    cases q : valV kvs k with
    | none => rfl
    | some x => rw [q] at a; exact (a rfl).elim
theorem length_putK (kvs : List (κ × V)) (k : κ) (v : V) : (putK kvs k v).length ≤ kvs.length + 1 := by
  unfold putK
  split
  · rw [List.length_map]; omega
  · rw [List.length_append, List.length_cons, List.length_nil]; omega
theorem putK_new {kvs : List (κ × V)} {k : κ} (v : V) (h : valV kvs k = none) : putK kvs k v = kvs ++ [(k, v)] := by
  unfold putK
  rw [valV_any, h]
  exact if_neg (by decide)

theorem RelO.isSome_eq {o : Option V} {u : Option Value} (r : RelO o u) : o.isSome = u.isSome := by
  cases o with
  | none => cases u with
    | none => rfl
    | some _ => exact (show False from r).elim
  | some _ => cases u with
    | none => exact (show False from r).elim
    | some _ => rfl
theorem RelO.getD {o : Option V} {u : Option Value} {d : V} {d' : Value} (r : RelO o u) (rd : RelV d d') : RelV (o.getD d) (u.getD d') := by
  cases o with
  | none => cases u with
    | none => exact rd
    | some _ => exact (show False from r).elim
  | some _ => cases u with
    | none => exact (show False from r).elim
    | some _ => exact r

/-- raw tables of the same keys -/
theorem KV.val {kvs : List (κ × V)} {vs : List (κ × Value)} (r : KV kvs vs) (k : κ) : RelO (valV kvs k) (valueAt vs k) := by
  unfold KV at r
  induction r with
  | nil => exact True.intro
  | @cons p q ps qs h t ih =>
    obtain ⟨h1, h2⟩ := h
    by_cases e : p.1 = k
    · have e' : q.1 = k := h1.symm.trans e
      have b : valueAt (q :: qs) k = some q.2 := by simp [valueAt, List.find?_cons, e']
      rw [valV_pos e, b]; exact h2
    · have e' : ¬ q.1 = k := fun z => e (h1.trans z)
      have b : valueAt (q :: qs) k = valueAt qs k := by simp [valueAt, List.find?_cons, e']
      rw [valV_neg e, b]; exact ih
theorem KV.any {kvs : List (κ × V)} {vs : List (κ × Value)} (r : KV kvs vs) (k : κ) : (kvs.any fun kv => decide (kv.1 = k)) = vs.any fun kv => decide (kv.1 = k) := by
  unfold KV at r
  induction r with
  | nil => rfl
  | cons h t ih => rw [List.any_cons, List.any_cons, ih, h.1]
theorem KV.repl {kvs : List (κ × V)} {vs : List (κ × Value)} (r : KV kvs vs) (k : κ) {y : V} {u : Value} (ry : RelV y u) :
    KV (kvs.map fun kv => if kv.1 = k then (kv.1, y) else kv) (vs.map fun kv => if kv.1 = k then (kv.1, u) else kv) := by
  unfold KV at r ⊢
  induction r with
  | nil => exact .nil
  | @cons p q ps qs h t ih =>
    rw [List.map_cons, List.map_cons]
    refine .cons ?_ ih
    obtain ⟨h1, h2⟩ := h
    by_cases e : p.1 = k
    · rw [if_pos e, if_pos (h1.symm.trans e)]; exact ⟨h1, ry⟩
    · rw [if_neg e, if_neg (fun z => e (h1.trans z))]; exact ⟨h1, h2⟩
theorem KV.put {kvs : List (κ × V)} {vs : List (κ × Value)} (r : KV kvs vs) (k : κ) {y : V} {u : Value} (ry : RelV y u) : KV (putK kvs k y) (stored vs k u) := by
  unfold putK stored
  rw [r.any k]
  by_cases e : (vs.any fun kv => decide (kv.1 = k)) = true
  · rw [if_pos e, if_pos e]; exact r.repl k ry
  · rw [if_neg e, if_neg e]; exact Paired.snoc r ⟨rfl, ry⟩
theorem KV.drop {kvs : List (κ × V)} {vs : List (κ × Value)} (r : KV kvs vs) (k : κ) : KV (dropK kvs k) (without vs k) := by
  unfold KV at r ⊢
  unfold dropK without
  induction r with
  | nil => exact .nil
  | @cons p q ps qs h t ih =>
    obtain ⟨h1, h2⟩ := h
    rw [List.filter_cons, List.filter_cons]
    by_cases e : p.1 = k
    · have a : ¬ decide (p.1 ≠ k) = true := by simp [e]
      have b : ¬ decide (q.1 ≠ k) = true := by simp [h1.symm.trans e]
      rw [if_neg a, if_neg b]; exact ih
    · have e' : ¬ q.1 = k := fun z => e (h1.trans z)
      have a : decide (p.1 ≠ k) = true := by simp [e]
      have b : decide (q.1 ≠ k) = true := by simp [e']
      rw [if_pos a, if_pos b]; exact .cons ⟨h1, h2⟩ ih
theorem KV.keys {kvs : List (κ × V)} {vs : List (κ × Value)} (r : KV kvs vs) : kvs.map (·.1) = vs.map (·.1) := by
  unfold KV at r
  induction r with
  | nil => rfl
  | cons h t ih => rw [List.map_cons, List.map_cons, ih, h.1]
theorem KV.length {kvs : List (κ × V)} {vs : List (κ × Value)} (r : KV kvs vs) : kvs.length = vs.length := Paired.length r
theorem dropK_le (kvs : List (κ × V)) (k : κ) : (dropK kvs k).length ≤ kvs.length := List.length_filter_le _ _
end


/-! ### a tracked dict, its keys ints and texts or tuples of these -/
theorem kV_is {P : Program} {w : World} {k : Key} {u : Value} (r : RelV (kV k) u) : (mixKind P w).is k u = true := by
  cases k with
  | inl i => obtain ⟨t, e⟩ := (show ∃ t, u = Value.int i t from r); subst e; exact mixKind_int P w i t
  | inr x => obtain ⟨t, e⟩ := (show ∃ t, u = Value.str x t from r); subst e; exact mixKind_str P w x t
theorem kV_inj {a b : Key} (e : kV a = kV b) : a = b := by
  cases a with
  | inl i => cases b with
    | inl j => have e' : V.int i = V.int j := e; injection e' with e'; rw [e']
    | inr y => exact nomatch (show V.int i = V.str y from e)
  | inr x => cases b with
    | inl j => exact nomatch (show V.str x = V.int j from e)
    | inr y => have e' : V.str x = V.str y := e; injection e' with e'; rw [e']
theorem kVs_inj : ∀ {a b : List Key}, a.map kV = b.map kV → a = b
  | [], [], _ => rfl
  | [], _ :: _, e => by simp at e
  | _ :: _, [], e => by simp at e
  | x :: xs, y :: ys, e => by
    rw [List.map_cons, List.map_cons] at e
    injection e with e1 e2
    rw [kV_inj e1, kVs_inj e2]
theorem items_are {P : Program} {w : World} : ∀ {ks : List Key} {us : List Value}, Vals (ks.map kV) us → ItemsAre (mixKind P w) ks us
  | [], _, r => by rw [List.map_nil] at r; cases r; exact .nil
  | k :: ks, _, r => by
    rw [List.map_cons] at r
    cases r with
    | cons h t => exact .cons (kV_is h) (items_are t)

/-- raw entries of a dict with tuple keys -/
abbrev KT (H : Hp) : List (List Key × V) → List (List Key × Addr × Value) → Prop := Paired fun p q => p.1 = q.1 ∧ H q.2.1 = some (.tup (p.1.map kV)) ∧ RelV p.2 q.2.2
theorem KT.val {H : Hp} {kvs : List (List Key × V)} {xs : List (List Key × Addr × Value)} (r : KT H kvs xs) (k : List Key) : RelO (valV kvs k) ((atKey xs k).map (·.2)) := by
  induction r with
  | nil => exact True.intro
  | @cons p q ps qs h t ih =>
    obtain ⟨h1, _, h2⟩ := h
    by_cases e : p.1 = k
    · have e' : q.1 = k := h1.symm.trans e
      have b : atKey (q :: qs) k = some q.2 := by simp [atKey, List.find?_cons, e']
      rw [valV_pos e, b]; exact h2
    · have e' : ¬ q.1 = k := fun z => e (h1.trans z)
      have b : atKey (q :: qs) k = atKey qs k := by simp [atKey, List.find?_cons, e']
      rw [valV_neg e, b]; exact ih
theorem KT.repl {H : Hp} {kvs : List (List Key × V)} {xs : List (List Key × Addr × Value)} (r : KT H kvs xs) (k : List Key) {y : V} {u : Value} (ry : RelV y u) :
    KT H (kvs.map fun kv => if kv.1 = k then (kv.1, y) else kv) (xs.map (putAt k u)) := by
  induction r with
  | nil => exact .nil
  | @cons p q ps qs h t ih =>
    rw [List.map_cons, List.map_cons]
    refine .cons ?_ ih
    obtain ⟨h1, h2, h3⟩ := h
    unfold putAt
    by_cases e : p.1 = k
    · rw [if_pos e, if_pos (h1.symm.trans e)]; exact ⟨h1, h2, ry⟩
    · rw [if_neg e, if_neg (fun z => e (h1.trans z))]; exact ⟨h1, h2, h3⟩
theorem KT.put {H : Hp} {kvs : List (List Key × V)} {xs : List (List Key × Addr × Value)} (r : KT H kvs xs) (k : List Key) {b : Addr} {y : V} {u : Value} (hb : H b = some (.tup (k.map kV))) (ry : RelV y u) :
    KT H (putK kvs k y) (storedH xs k b u) := by
  have e : (kvs.any fun kv => decide (kv.1 = k)) = (atKey xs k).isSome := by
    rw [valV_any, (r.val k).isSome_eq, Option.isSome_map]
  unfold putK storedH
  rw [e]
  by_cases q : (atKey xs k).isSome = true
  · rw [if_pos q, if_pos q]; exact r.repl k ry
  · rw [if_neg q, if_neg q]; exact Paired.snoc r ⟨rfl, hb, ry⟩
theorem KT.keeps {H H' : Hp} {kvs : List (List Key × V)} {xs : List (List Key × Addr × Value)} (r : KT H kvs xs) (ht : ∀ b ys, H b = some (.tup ys) → H' b = some (.tup ys)) : KT H' kvs xs :=
  Paired.mapP r fun _ _ z => ⟨z.1, ht _ _ z.2.1, z.2.2⟩

section
variable {P : Program} {w : World} {H : Hp} {h : Heap} {a : Addr}
theorem rd_of {u : HO} (ok : HOk P w H h) (e : Rd H a u) : ObjOk P w H h a u := e.ok ok
theorem dk_rd {kvs : List (Key × V)} (ok : HOk P w H h) (e : Rd H a (.dK kvs)) : kvs.length ≤ sizeLine ∧ (a == sysModules) = false ∧ ∃ vs, KV kvs vs ∧ h.DictOf (mixKind P w) a vs :=
  show ObjOk P w H h a (.dK kvs) from rd_of ok e
theorem dk_of {kvs : List (Key × V)} (ok : HOk P w H h) (e : H a = some (.dK kvs)) : kvs.length ≤ sizeLine ∧ (a == sysModules) = false ∧ ∃ vs, KV kvs vs ∧ h.DictOf (mixKind P w) a vs := dk_rd ok (.inl e)
/-- a tracked tuple of ints and texts is a key -/
theorem key_of {ks : List Key} (ok : HOk P w H h) (e : H a = some (.tup (ks.map kV))) : (tupleKind (mixKind P w)).is h ks a := by
  obtain ⟨_, its, r, o, h1, h2, n, h3⟩ := (show ObjOk P w H h a (.tup (ks.map kV)) from ok a _ e)
  exact ⟨o, its.toArray, n, h1, h2, h3, by simpa using items_are r⟩
theorem dt_rd {kvs : List (List Key × V)} (ok : HOk P w H h) (e : Rd H a (.dT kvs)) : kvs.length ≤ sizeLine ∧ (a == sysModules) = false ∧
    ∃ xs, KT H kvs xs ∧ h.DictOfH (tupleKind (mixKind P w)) a xs := by
  obtain ⟨z, y, xs, r, o, es, ep, h1, h2, h3, h4, h5⟩ := (show ObjOk P w H h a (.dT kvs) from rd_of ok e)
  refine ⟨z, y, xs, r, o, es, ep, h1, h2, h3, h4, fun x hx => ?_, h5⟩
  have all : ∀ {l : List (List Key × V)} {m : List (List Key × Addr × Value)}, KT H l m → ∀ x ∈ m, (tupleKind (mixKind P w)).is h x.1 x.2.1 := by
    intro l m q
    induction q with
    | nil => intro x hx; exact nomatch hx
    | @cons p q ps qs hq t ih =>
      intro x hx
      rcases List.mem_cons.mp hx with e | hx
      · subst e
        exact key_of ok (by rw [← hq.1]; exact hq.2.1)
      · exact ih x hx
  exact all r x hx
theorem dt_of {kvs : List (List Key × V)} (ok : HOk P w H h) (e : H a = some (.dT kvs)) : kvs.length ≤ sizeLine ∧ (a == sysModules) = false ∧
    ∃ xs, KT H kvs xs ∧ h.DictOfH (tupleKind (mixKind P w)) a xs := dt_rd ok (.inl e)
end

/-- what the dict at a holds at the key y -/
def DGet (H : Hp) (a : Addr) (y : V) (r : Option V) : Prop :=
  (∃ kvs k, Rd H a (.dK kvs) ∧ y = kV k ∧ r = valV kvs k) ∨ ∃ kvs k b, Rd H a (.dT kvs) ∧ y = .ref b ∧ H b = some (.tup (k.map kV)) ∧ r = valV kvs k
/-- the heap behind a[y] = v -/
def DPut (H : Hp) (a : Addr) (y v : V) (H' : Hp) : Prop :=
  (∃ kvs k, H a = some (.dK kvs) ∧ y = kV k ∧ kvs.length < sizeLine ∧ H' = upd H a (.dK (putK kvs k v))) ∨
  ∃ kvs k b, H a = some (.dT kvs) ∧ y = .ref b ∧ H b = some (.tup (k.map kV)) ∧ kvs.length < sizeLine ∧ H' = upd H a (.dT (putK kvs k v))
theorem DGet.k {H : Hp} {a : Addr} {kvs : List (Key × V)} {k : Key} (e : H a = some (.dK kvs)) : DGet H a (kV k) (valV kvs k) := .inl ⟨kvs, k, .inl e, rfl, rfl⟩
theorem DGet.t {H : Hp} {a b : Addr} {kvs : List (List Key × V)} {k : List Key} (e : H a = some (.dT kvs)) (eb : H b = some (.tup (k.map kV))) : DGet H a (.ref b) (valV kvs k) := .inr ⟨kvs, k, b, .inl e, rfl, eb, rfl⟩
theorem DPut.k {H : Hp} {a : Addr} {kvs : List (Key × V)} {k : Key} {v : V} (e : H a = some (.dK kvs)) (hl : kvs.length < sizeLine) : DPut H a (kV k) v (upd H a (.dK (putK kvs k v))) := .inl ⟨kvs, k, e, rfl, hl, rfl⟩
theorem DPut.t {H : Hp} {a b : Addr} {kvs : List (List Key × V)} {k : List Key} {v : V} (e : H a = some (.dT kvs)) (eb : H b = some (.tup (k.map kV))) (hl : kvs.length < sizeLine) :
    DPut H a (.ref b) v (upd H a (.dT (putK kvs k v))) := .inr ⟨kvs, k, b, e, rfl, eb, hl, rfl⟩


section
variable {X : Cx} {pins : List (Addr × Obj)} {σ : St} {H : Hp} {s : Shared} {a : Addr} {y v : V} {u r : Value} {o : Option V} {A : Around} {E : Value → Shared → Prop}

theorem Inv.big (I : Inv X pins σ H s) : sysModules < s.heap.objs.size := by
  have h : mainGlobals < s.heap.objs.size := (I.mod.glob.keeps I.bk).lt
  exact Nat.lt_trans (by decide) h

/-- d[y], there -/
theorem d_getItem {Q : Value → Shared → Prop} (hu : A.units + 1 < cLine) (I : Inv X pins σ H s) (g : DGet H a y (some v)) (ry : RelV y u) (h : ∀ w' s', Inv X pins σ H s' → RelV v w' → Q w' s') :
    wpAny (model X.prog X.w) A (getItem (.ref a) u) Q E s := by
  rcases g with ⟨kvs, k, e, ey, l⟩ | ⟨kvs, k, b, e, ey, eb, l⟩
  · subst ey
    obtain ⟨z, hd, vs, rel, dd⟩ := dk_rd I.hok e
    obtain ⟨w', hw, rw'⟩ := RelO.some_of (v := v) (o := valueAt vs k) (by rw [l]; exact rel.val k)
    exact wpAny_getItem_of (kV_is ry) dd.mapOf hw (h w' _ (I.tok _) rw')
  · subst ey
    cases (show u = Value.ref b from ry)
    obtain ⟨z, hd, xs, rel, dd⟩ := dt_rd I.hok e
    obtain ⟨w', hw, rw'⟩ := RelO.some_of (v := v) (o := (atKey xs k).map (·.2)) (by rw [l]; exact rel.val k)
    obtain ⟨p, hp, hp2⟩ := Option.map_eq_some_iff.mp hw
    refine wpAny_getItem_heap (tupleKind_room_in1 hu) (key_of I.hok eb) dd hp ?_
    rw [hp2]
    exact h w' _ (I.tok _) rw'
/-- y in d -/
theorem d_in {Q : Value → Shared → Prop} (hu : A.units + 1 < cLine) (I : Inv X pins σ H s) (g : DGet H a y o) (ry : RelV y u) (h : ∀ s', Inv X pins σ H s' → Q (.bool o.isSome) s') :
    wpAny (model X.prog X.w) A (compareOp .In u (.ref a)) Q E s := by
  rcases g with ⟨kvs, k, e, ey, l⟩ | ⟨kvs, k, b, e, ey, eb, l⟩
  · subst ey
    obtain ⟨z, hd, vs, rel, dd⟩ := dk_rd I.hok e
    refine wpAny_in_of (kV_is ry) hd dd.mapOf ?_
    rw [← (rel.val k).isSome_eq, ← l]
    exact h _ (I.tok _)
  · subst ey
    cases (show u = Value.ref b from ry)
    obtain ⟨z, hd, xs, rel, dd⟩ := dt_rd I.hok e
    refine wpAny_in_heap (tupleKind_room_in1 hu) (key_of I.hok eb) hd dd ?_
    have q := (rel.val k).isSome_eq
    rw [Option.isSome_map] at q
    rw [← q, ← l]
    exact h _ (I.tok _)
theorem d_notIn {Q : Value → Shared → Prop} (hu : A.units + 1 < cLine) (I : Inv X pins σ H s) (g : DGet H a y o) (ry : RelV y u) (h : ∀ s', Inv X pins σ H s' → Q (.bool (!o.isSome)) s') :
    wpAny (model X.prog X.w) A (compareOp .NotIn u (.ref a)) Q E s := by
  rcases g with ⟨kvs, k, e, ey, l⟩ | ⟨kvs, k, b, e, ey, eb, l⟩
  · subst ey
    obtain ⟨z, hd, vs, rel, dd⟩ := dk_rd I.hok e
    refine wpAny_notIn_of (kV_is ry) hd dd.mapOf ?_
    rw [← (rel.val k).isSome_eq, ← l]
    exact h _ (I.tok _)
  · subst ey
    cases (show u = Value.ref b from ry)
    obtain ⟨z, hd, xs, rel, dd⟩ := dt_rd I.hok e
    refine wpAny_notIn_heap (tupleKind_room_in1 hu) (key_of I.hok eb) hd dd ?_
    have q := (rel.val k).isSome_eq
    rw [Option.isSome_map] at q
    rw [← q, ← l]
    exact h _ (I.tok _)
/-- a dict's object is replaced -/
theorem d_write {h' : Heap} {t' : Nat} {ob : HO} (I : Inv X pins σ H s) (mu : Mut (H a)) (hs : Heap.SameBut a s.heap h') (he : ∃ q, h'.get? a = some q) (new : ObjOk X.prog X.w (upd H a ob) h' a ob) :
    Inv X pins σ (upd H a ob) { s with heap := h', toks := t' } :=
  I.write (x := a) (e := a) mu (.inl rfl) (fun b q hb z => (hs.2 b hb).trans z) he new
theorem dk_new {P : Program} {w : World} {H' : Hp} {h' : Heap} {kvs : List (Key × V)} {vs : List (Key × Value)} (z : kvs.length ≤ sizeLine) (hd : (a == sysModules) = false) (rel : KV kvs vs) (dd : h'.DictOf (mixKind P w) a vs) :
    ObjOk P w H' h' a (.dK kvs) := ⟨z, hd, vs, rel, dd⟩
/-- d[y] = v -/
theorem d_setItem {H' : Hp} {Q : Unit → Shared → Prop} (hu : A.units + 1 < cLine) (I : Inv X pins σ H s) (g : DPut H a y v H') (ry : RelV y u) (rv : RelV v r) (h : ∀ s', Inv X pins σ H' s' → Q () s') :
    wpAny (model X.prog X.w) A (setItem (.ref a) u r) Q E s := by
  rcases g with ⟨kvs, k, e, ey, l, eH⟩ | ⟨kvs, k, b, e, ey, eb, l, eH⟩
  · subst ey eH
    obtain ⟨z, hd, vs, rel, dd⟩ := dk_of I.hok e
    have hz : vs.length ≤ sizeLine := by rw [← rel.length]; exact z
    have hl : (putK kvs k v).length ≤ sizeLine := by have := length_putK kvs k v; omega
    refine wpAny_setItem_pairs (hsz := hz) (kV_is ry) dd fun h' dd' hs => h _ ?_
    have he : ∃ q, h'.get? a = some q := let ⟨q, _, _, hq, _⟩ := dd'; ⟨q, hq⟩
    exact d_write I (by rw [e]; exact True.intro) hs he (dk_new hl hd (rel.put k rv) dd')
  · subst ey eH
    cases (show u = Value.ref b from ry)
    obtain ⟨z, hd, xs, rel, dd⟩ := dt_of I.hok e
    have hz : xs.length ≤ sizeLine := by rw [← Paired.length rel]; exact z
    have hl : (putK kvs k v).length ≤ sizeLine := by have := length_putK kvs k v; omega
    refine wpAny_setItem_heap (hsz := hz) (tupleKind_room_in1 hu) (key_of I.hok eb) dd fun h' dd' hs => h _ ?_
    obtain ⟨q, es, ep, hq, h2, h3, h4, _, h5⟩ := dd'
    refine d_write I (by rw [e]; exact True.intro) hs ⟨q, hq⟩ ⟨hl, hd, _, (rel.put k eb rv).keeps fun c ys ec => ?_, q, es, ep, hq, h2, h3, h4, h5⟩
    rw [upd_ne (ne_of ec e (fun z => nomatch z))]
    exact ec
end

section
variable {X : Cx} {pins : List (Addr × Obj)} {σ : St} {H : Hp} {s : Shared} {a : Addr} {kvs : List (Key × V)} {k : Key} {u : Value} {A : Around} {E : Value → Shared → Prop}
/-- del d[k] -/
theorem d_delItem {Q : Unit → Shared → Prop} (I : Inv X pins σ H s) (e : H a = some (.dK kvs)) (ry : RelV (kV k) u) (l : (valV kvs k).isSome = true) (h : ∀ s', Inv X pins σ (upd H a (.dK (dropK kvs k))) s' → Q () s') :
    wpAny (model X.prog X.w) A (delItem (.ref a) u) Q E s := by
  obtain ⟨z, hd, vs, rel, dd⟩ := dk_of I.hok e
  refine wpAny_delItem_slot dd.typeIs (by decide) PySem.F.slot_dict_delitem
    (call_meetsIn PySem.F.slot_dict_delitem dd.typeIs PySem.F.entry_dict_delitem (PySem.F.args_dict_delitem_2 _ _) (meets_dict_delitem_pairs (mixKind X.prog X.w) a (kV_is ry)) ⟨vs, dd, by rw [← rel.length]; exact z, by rw [← (rel.val k).isSome_eq]; exact l, fun h' dd' hs => h _ ?_⟩)
  have he : ∃ q, h'.get? a = some q := let ⟨q, _, _, hq, _⟩ := dd'; ⟨q, hq⟩
  exact d_write I (by rw [e]; exact True.intro) hs he (dk_new (Nat.le_trans (dropK_le kvs k) z) hd (rel.drop k) dd')
/-- d.pop(k[, x]), there -/
theorem d_pop {v : V} {more : List Value} {Q : Value → Shared → Prop} (I : Inv X pins σ H s) (e : H a = some (.dK kvs)) (ry : RelV (kV k) u) (l : valV kvs k = some v) (hm : more = [] ∨ ∃ x, more = [x])
    (h : ∀ w' s', Inv X pins σ (upd H a (.dK (dropK kvs k))) s' → RelV v w' → Q w' s') : wpAny (model X.prog X.w) A (call (.builtin "dict.pop") (.ref a :: u :: more)) Q E s := by
  obtain ⟨z, hd, vs, rel, dd⟩ := dk_of I.hok e
  obtain ⟨w', hw, rw'⟩ := RelO.some_of (v := v) (o := valueAt vs k) (by rw [← l]; exact rel.val k)
  have hp : (keyPart u).isSome = true := by
    cases k with
    | inl i => obtain ⟨t, q⟩ := (show ∃ t, u = Value.int i t from ry); subst q; rfl
    | inr x => obtain ⟨t, q⟩ := (show ∃ t, u = Value.str x t from ry); subst q; rfl
  have ha : argsOk "dict.pop" ⟨.ref a :: u :: more, []⟩ := by
    rcases hm with q | ⟨x, q⟩
    · subst q; exact PySem.F.args_dict_pop_2 _ _
    · subst q; exact PySem.F.args_dict_pop_3 _ _ _
  refine call_meetsIn PySem.F.slot_dict_pop dd.typeIs PySem.F.entry_dict_pop ha (meets_dict_pop_there (mixKind X.prog X.w) a (kV_is ry) more hm hp)
    ⟨vs, w', dd, by rw [← rel.length]; exact z, hw, fun h' dd' hs => h w' _ ?_ rw'⟩
  have he : ∃ q, h'.get? a = some q := let ⟨q, _, _, hq, _⟩ := dd'; ⟨q, hq⟩
  exact d_write I (by rw [e]; exact True.intro) hs he (dk_new (Nat.le_trans (dropK_le kvs k) z) hd (rel.drop k) dd')
/-- d.pop(k, x), not there -/
theorem d_popD {r : Value} {Q : Value → Shared → Prop} (I : Inv X pins σ H s) (e : H a = some (.dK kvs)) (ry : RelV (kV k) u) (l : valV kvs k = none) (h : ∀ s', Inv X pins σ H s' → Q r s') :
    wpAny (model X.prog X.w) A (call (.builtin "dict.pop") [.ref a, u, r]) Q E s := by
  obtain ⟨z, hd, vs, rel, dd⟩ := dk_of I.hok e
  have hn : valueAt vs k = none := RelO.none_of (by rw [← l]; exact rel.val k)
  have hp : (keyPart u).isSome = true := by
    cases k with
    | inl i => obtain ⟨t, q⟩ := (show ∃ t, u = Value.int i t from ry); subst q; rfl
    | inr x => obtain ⟨t, q⟩ := (show ∃ t, u = Value.str x t from ry); subst q; rfl
  exact call_meetsIn PySem.F.slot_dict_pop dd.typeIs PySem.F.entry_dict_pop (PySem.F.args_dict_pop_3 _ _ _) (meets_dict_pop_default (mixKind X.prog X.w) a (kV_is ry) hd hp r) ⟨vs, dd, hn, h _ (I.tok _)⟩
/-- d.clear() -/
theorem d_clear {Q : Value → Shared → Prop} (I : Inv X pins σ H s) (e : H a = some (.dK kvs)) (h : ∀ s', Inv X pins σ (upd H a (.dK [])) s' → Q .none s') : wpAny (model X.prog X.w) A (call (.builtin "dict.clear") [.ref a]) Q E s := by
  obtain ⟨z, hd, vs, rel, dd⟩ := dk_of I.hok e
  refine call_meetsIn PySem.F.slot_dict_clear dd.typeIs PySem.F.entry_dict_clear (PySem.F.args_dict_clear_1 _) (meets_dict_clear (mixKind X.prog X.w) a) ⟨vs, dd, by rw [← rel.length]; exact z, fun h' dd' hs => h _ ?_⟩
  have he : ∃ q, h'.get? a = some q := let ⟨q, _, _, hq, _⟩ := dd'; ⟨q, hq⟩
  exact d_write (t' := s.toks) I (by rw [e]; exact True.intro) hs he (dk_new (Nat.zero_le _) hd .nil dd')
/-- len(d) -/
theorem d_len {Q : Value → Shared → Prop} (I : Inv X pins σ H s) (e : Rd H a (.dK kvs)) (h : ∀ t s', Inv X pins σ H s' → Q (.int kvs.length t) s') : wpAny (model X.prog X.w) A (call (.builtin "len") [.ref a]) Q E s := by
  obtain ⟨z, hd, vs, rel, dd⟩ := dk_rd I.hok e
  refine call_len_dict hd dd (by rw [← rel.length]; rw [sizeLine_eq] at z; omega) ?_
  rw [← rel.length]
  exact h _ _ (I.tok _)
/-- if d -/
theorem d_truth {Q : Bool → Shared → Prop} (I : Inv X pins σ H s) (e : Rd H a (.dK kvs)) (h : ∀ s', Inv X pins σ H s' → Q (!kvs.isEmpty) s') : wpAny (model X.prog X.w) A (truthy (.ref a)) Q E s := by
  obtain ⟨z, hd, vs, rel, dd⟩ := dk_rd I.hok e
  refine wpAny_truthy_dict hd dd (by rw [← rel.length]; rw [sizeLine_eq] at z; omega) ?_
  have q : kvs.isEmpty = vs.isEmpty := by cases rel <;> rfl
  rw [← q]
  exact h _ (I.tok _)
end


/-! ### readings and rules -/
/-- the element of a subscription, not a slice -/
def NoSl (i : Expr) : Prop := ∀ ov iv, subscripted i false ov iv = operate [ov, iv] (getItem ov iv)
theorem subD_of {prog : Program} {w : World} {A : Around} {E : Value → Shared → Prop} {s : Shared} {env : Env} {value slice : Expr} {pos : Pos} {T id : String} {Q : Value → Shared → Prop}
    (hl : typeLookup (.type T) "__getitem__" = pure (some (.builtin id))) (hs : NoSl slice)
    (h : wpAny (model prog w) A (eval value env) (fun o s₁ => wpAny (model prog w) A (eval slice env) (fun i s₂ => s₂.TypeIs o T ∧ wpAny (model prog w) A (getItem o i) Q E s₂) E s₁) E s) :
    wpAny (model prog w) A (eval (.Subscript value slice pos) env) Q E s := by
  refine Subscript_ (wpAny_mono h (fun o s₁ h₁ => wpAny_mono h₁ (fun i s₂ h₂ => ?_) fun _ _ x => x) fun _ _ x => x)
  obtain ⟨hT, h₂⟩ := h₂
  unfold subscriptTail
  refine wpAny_bind ?_
  rw [getitemInPython_of_ne hT.not_modules]
  refine wpAny_bind (wpAny_specialOf hT hl ?_)
  have fin : wpAny (model prog w) A (subscripted slice false o i) (fun r s₃ => wpAny (model prog w) A (letTemporaryGo value o r >>= fun _ => pure r) Q E s₃) E s₂ := by
    rw [hs o i]
    exact wpAny_operating (wpAny_mono h₂ (fun r s₃ h₃ => wpAny_bind (wpAny_letTemporaryGo (wpAny_pure h₃))) fun _ _ x => x)
  first
    | exact wpAny_pure (wpAny_bind fin)
    | exact wpAny_bind (wpAny_pure (wpAny_bind fin))
    | exact wpAny_bind fin

theorem dict_typeIs {X : Cx} {pins : List (Addr × Obj)} {σ : St} {H : Hp} {s : Shared} {a : Addr} {y : V} {o : Option V} (I : Inv X pins σ H s) (g : DGet H a y o) : s.TypeIs (.ref a) "dict" := by
  rcases g with ⟨kvs, k, e, _, _⟩ | ⟨kvs, k, b, e, _, _, _⟩
  · obtain ⟨_, _, vs, _, dd⟩ := dk_rd I.hok e
    exact dd.typeIs
  · obtain ⟨_, _, xs, _, dd⟩ := dt_rd I.hok e
    exact dd.typeIs
theorem dict_noDict {X : Cx} {pins : List (Addr × Obj)} {σ : St} {H : Hp} {s : Shared} {a : Addr} {y : V} {o : Option V} (I : Inv X pins σ H s) (g : DGet H a y o) :
    ∀ b, Value.ref a = .ref b → ∃ ob, s.heap.get? b = some ob ∧ ob.dict = none := fun b q => by
  cases q
  rcases g with ⟨kvs, k, e, _, _⟩ | ⟨kvs, k, b, e, _, _, _⟩
  · obtain ⟨_, _, vs, _, ob, _, _, h1, h2, _⟩ := dk_rd I.hok e
    exact ⟨ob, h1, h2.2.1⟩
  · obtain ⟨_, _, xs, _, ob, _, _, h1, h2, _⟩ := dt_rd I.hok e
    exact ⟨ob, h1, h2.2.1⟩

/-- d[y] -/
def tDGet (td ty : TE) : TE := fun σ H Q => td σ H fun x H1 => ty σ H1 fun y H2 => ∃ a v, x = .ref a ∧ DGet H2 a y (some v) ∧ Q v H2
/-- y in d, y not in d -/
def tDIn (ty td : TE) : TE := fun σ H Q => ty σ H fun y H1 => td σ H1 fun x H2 => ∃ a o, x = .ref a ∧ DGet H2 a y o ∧ Q (.bl o.isSome) H2
def tDNotIn (ty td : TE) : TE := fun σ H Q => ty σ H fun y H1 => td σ H1 fun x H2 => ∃ a o, x = .ref a ∧ DGet H2 a y o ∧ Q (.bl (!o.isSome)) H2
/-- d[y] = v -/
def sDPut (td ty tv : TE) : TS := fun D σ H => tv σ H fun v H1 => td σ H1 fun x H2 => ty σ H2 fun y H3 => ∃ a H4, x = .ref a ∧ DPut H3 a y v H4 ∧ D.nx σ H4
/-- d[y] op= v -/
def sDAug (td ty tv : TE) (rd : V → V → Hp → VK → Prop) : TS := fun D σ H => td σ H fun x H1 => ty σ H1 fun y H2 => ∃ a v, x = .ref a ∧ DGet H2 a y (some v) ∧
  tv σ H2 fun y2 H3 => rd v y2 H3 fun z H4 => ∃ H5, DPut H4 a y z H5 ∧ D.nx σ H5
/-- del d[y] -/
def sDDel (td ty : TE) : TS := fun D σ H => td σ H fun x H1 => ty σ H1 fun y H2 => ∃ a kvs k, x = .ref a ∧ H2 a = some (.dK kvs) ∧ y = kV k ∧ (valV kvs k).isSome = true ∧ D.nx σ (upd H2 a (.dK (dropK kvs k)))

section
variable {X : Cx} {o i e value : Expr} {pos pos' tpos : Pos} {td ty tv : TE}
theorem pe_dget (hu : X.A.units + 1 < cLine) (ho : PE X o td) (hi : PE X i ty) (hs : NoSl i) : PE X (.Subscript o i pos) (tDGet td ty) := by
  intro pins s σ H Q I h
  refine subD_of PySem.F.slot_dict_getitem.lookup hs (thn (ho pins s σ H _ I h) fun u s1 ⟨x, H1, I1, rx, q1⟩ => thn (hi pins s1 σ H1 _ I1 q1) fun iv s2 ⟨y, H2, I2, ry, a, v, ex, g, q2⟩ => ?_)
  subst ex
  obtain rfl : u = Value.ref a := rx
  exact ⟨dict_typeIs I2 g, d_getItem hu I2 g ry fun w' s3 I3 rw' => ⟨v, H2, I3, rw', q2⟩⟩
theorem pc_din (hu : X.A.units + 1 < cLine) (hi : PE X i ty) (ho : PE X o td) : PC X .In i o (tDIn ty td) := by
  intro pins s σ H Q I h
  refine thn (hi pins s σ H _ I h) fun iv s1 ⟨y, H1, I1, ry, q1⟩ => thn (ho pins s1 σ H1 _ I1 q1) fun u s2 ⟨x, H2, I2, rx, a, ov, ex, g, q2⟩ => ?_
  subst ex
  obtain rfl : u = Value.ref a := rx
  exact d_in hu I2 g ry fun s3 I3 => ⟨.bl ov.isSome, H2, I3, rfl, q2⟩
theorem pc_dnotin (hu : X.A.units + 1 < cLine) (hi : PE X i ty) (ho : PE X o td) : PC X .NotIn i o (tDNotIn ty td) := by
  intro pins s σ H Q I h
  refine thn (hi pins s σ H _ I h) fun iv s1 ⟨y, H1, I1, ry, q1⟩ => thn (ho pins s1 σ H1 _ I1 q1) fun u s2 ⟨x, H2, I2, rx, a, ov, ex, g, q2⟩ => ?_
  subst ex
  obtain rfl : u = Value.ref a := rx
  exact d_notIn hu I2 g ry fun s3 I3 => ⟨.bl (!ov.isSome), H2, I3, rfl, q2⟩
theorem ps_dput (hu : X.A.units + 1 < cLine) (ho : PE X o td) (hi : PE X i ty) (hv : PE X value tv) (hs : swapsWith value (some (.Subscript o i pos')) pos.line X.env = pure false) :
    PS X (.Assign [.Subscript o i pos'] value pos) (sDPut td ty tv) := by
  intro pins s σ H D I h
  refine wpAny_Assign_Subscript (thn (hv pins s σ H _ I h) fun r s1 ⟨v, H1, I1, rv, q1⟩ => thn (ho pins s1 σ H1 _ I1 q1) fun u s2 ⟨x, H2, I2, rx, q2⟩ => thn (hi pins s2 σ H2 _ I2 q2) fun iv s3 ⟨y, H3, I3, ry, a, H4, ex, g, q3⟩ => ?_) hs
  subst ex
  obtain rfl : u = Value.ref a := rx
  exact d_setItem hu I3 g ry rv fun s4 I4 => ⟨σ, H4, I4, q3⟩
theorem ps_daug {op : Operator} {rd : V → V → Hp → VK → Prop} (hu : X.A.units + 1 < cLine) (ho : PE X o td) (hi : PE X i ty) (hv : PE X value tv) (hop : InOp X op rd)
    (ha : ∀ ov iv new, augStore i ov iv new = (do holding [new, ov, iv] (setItem ov iv new); release [new, ov, iv] []; pure .next)) : PS X (.AugAssign (.Subscript o i tpos) op value pos) (sDAug td ty tv rd) := by
  intro pins s σ H D I h
  refine wpAny_AugAssign_SubscriptAny (thn (ho pins s σ H _ I h) fun u s1 ⟨x, H1, I1, rx, q1⟩ => thn (hi pins s1 σ H1 _ I1 q1) fun iv s2 ⟨y, H2, I2, ry, a, v, ex, g, q2⟩ => ?_) ha
  subst ex
  obtain rfl : u = Value.ref a := rx
  refine d_getItem hu I2 g ry fun w' s3 I3 rw' => thn (hv pins s3 σ H2 _ I3 q2) fun w2 s4 ⟨y2, H3, I4, ry2, q3⟩ => thn (hop pins s4 σ H3 v y2 w' w2 _ I4 rw' ry2 q3) fun w3 s5 ⟨z, H4, I5, rz, H5, g5, q4⟩ => ?_
  exact d_setItem hu I5 g5 ry rz fun s6 I6 => ⟨σ, H5, I6, q4⟩
theorem ps_ddel (ho : PE X o td) (hi : PE X i ty) : PS X (.Delete [.Subscript o i tpos] pos) (sDDel td ty) := by
  intro pins s σ H D I h
  refine wpAny_Delete (wpAny_deleteEach_cons (wpAny_delete_Subscript (thn (ho pins s σ H _ I h) fun u s1 ⟨x, H1, I1, rx, q1⟩ => thn (hi pins s1 σ H1 _ I1 q1) fun iv s2 ⟨y, H2, I2, ry, a, kvs, k, ex, e, ey, l, q2⟩ => ?_)))
  subst ex ey
  obtain rfl : u = Value.ref a := rx
  exact d_delItem I2 e ry l fun s3 I3 => wpAny_deleteEach_nil ⟨σ, _, I3, q2⟩
end


/-! ### displays -/
theorem dk_empty {P : Program} {w : World} {H : Hp} (h : Heap) (hb : sysModules < h.objs.size) : ObjOk P w H (h.push { cls := .type "dict", data := .dict #[] }) h.objs.size (.dK []) :=
  ⟨Nat.zero_le _, beq_eq_false_iff_ne.mpr (Ne.symm (Nat.ne_of_lt hb)), [], .nil, Heap.DictOf.new h⟩
theorem dt_empty {P : Program} {w : World} {H : Hp} (h : Heap) (hb : sysModules < h.objs.size) : ObjOk P w H (h.push { cls := .type "dict", data := .dict #[] }) h.objs.size (.dT []) :=
  ⟨Nat.zero_le _, beq_eq_false_iff_ne.mpr (Ne.symm (Nat.ne_of_lt hb)), [], .nil, _, #[], 0, Heap.get?_push_size _ rfl, ⟨rfl, rfl, rfl⟩, rfl, rfl, List.nodup_nil⟩
/-- {}, to be a dict of the kind that is wanted -/
def tDNewK : TE := fun _ H Q => ∀ p, H p = none → Q (.ref p) (upd H p (.dK []))
def tDNewT : TE := fun _ H Q => ∀ p, H p = none → Q (.ref p) (upd H p (.dT []))
section
variable {X : Cx} {pos : Pos}
theorem pe_dnewK : PE X (.Dict [] [] pos) tDNewK := fun pins s σ H Q I h =>
  wpAny_Dict_empty ⟨.ref s.heap.objs.size, _, I.laid (a := s.heap.objs.size) (o := .dK []) (t' := s.toks) (fun _ _ q => Heap.get?_push_of_some _ q) (Nat.le_refl _) (dk_empty s.heap I.big), rfl, h _ (I.hok.fresh (Nat.le_refl _))⟩
theorem pe_dnewT : PE X (.Dict [] [] pos) tDNewT := fun pins s σ H Q I h =>
  wpAny_Dict_empty ⟨.ref s.heap.objs.size, _, I.laid (a := s.heap.objs.size) (o := .dT []) (t' := s.toks) (fun _ _ q => Heap.get?_push_of_some _ q) (Nat.le_refl _) (dt_empty s.heap I.big), rfl, h _ (I.hok.fresh (Nat.le_refl _))⟩
end

/-- the pairs of a display, from the left -/
def tPairs : List (TE × TE) → St → Hp → (List (V × V) → Hp → Prop) → Prop
  | [], _, H, Q => Q [] H
  | (tk, tv) :: r, σ, H, Q => tk σ H fun x H1 => tv σ H1 fun y H2 => tPairs r σ H2 fun ps H3 => Q ((x, y) :: ps) H3
abbrev VV : List (V × V) → List (Value × Value) → Prop := Paired fun p q => RelV p.1 q.1 ∧ RelV p.2 q.2
def PPs (X : Cx) (pos : Pos) (keys : List (Option Expr)) (values : List Expr) (trs : List (TE × TE)) : Prop :=
  ∀ (pins : List (Addr × Obj)) (s : Shared) (σ : St) (H : Hp) (Q : List (V × V) → Hp → Prop), Inv X pins σ H s → tPairs trs σ H Q →
    wpAny (model X.prog X.w) X.A (evalPairs (pairTrees keys values X.env pos)) (fun vs s' => ∃ ps H', Inv X pins σ H' s' ∧ VV ps vs ∧ Q ps H') X.xe s
theorem pps_nil {X : Cx} {pos : Pos} : PPs X pos [] [] [] := fun pins s σ H Q I h => pairTrees_nil_walk ⟨[], H, I, .nil, h⟩
theorem pps_cons {X : Cx} {pos : Pos} {k v : Expr} {ks : List (Option Expr)} {vs : List Expr} {tk tv : TE} {trs : List (TE × TE)} (hk : PE X k tk) (hv : PE X v tv) (hr : PPs X pos ks vs trs) :
    PPs X pos (some k :: ks) (v :: vs) ((tk, tv) :: trs) := fun pins s σ H Q I h =>
  pairTrees_cons_walk (thn (hk pins s σ H _ I h) fun u s1 ⟨x, H1, I1, rx, q1⟩ => thn (hv pins s1 σ H1 _ I1 q1) fun w2 s2 ⟨y, H2, I2, ry, q2⟩ =>
    thn (hr pins s2 σ H2 _ I2 q2) fun ws s3 ⟨ps, H3, I3, rel, q3⟩ => ⟨(x, y) :: ps, H3, I3, .cons ⟨rx, ry⟩ rel, q3⟩)

def mergeK (kvs more : List (Key × V)) : List (Key × V) := more.foldl (fun acc kv => putK acc kv.1 kv.2) kvs
theorem KV.merge : ∀ {more : List (Key × V)} {rs : List (Key × Value)} {kvs : List (Key × V)} {vs : List (Key × Value)}, KV more rs → KV kvs vs → KV (mergeK kvs more) (merged vs rs) := by
  intro more rs kvs vs r
  unfold KV at r
  induction r generalizing kvs vs with
  | nil => intro q; exact q
  | @cons p q ps qs h t ih =>
    intro r0
    have e : KV (putK kvs p.1 p.2) (stored vs q.1 q.2) := by
      have := r0.put p.1 h.2
      rw [← h.1]; exact this
    exact ih e
theorem length_mergeK : ∀ (more kvs : List (Key × V)), (mergeK kvs more).length ≤ kvs.length + more.length
  | [], kvs => by show kvs.length ≤ kvs.length + 0; omega
  | p :: r, kvs => by
    have h1 := length_mergeK r (putK kvs p.1 p.2)
    have h2 := length_putK kvs p.1 p.2
    show (mergeK (putK kvs p.1 p.2) r).length ≤ _
    rw [List.length_cons]; omega
theorem carries_of {P : Program} {w : World} : ∀ {kvs : List (Key × V)} {ws : List (Value × Value)}, VV (kvs.map fun kv => (kV kv.1, kv.2)) ws → ∃ rs, Carries (mixKind P w) ws rs ∧ KV kvs rs
  | [], _, r => by rw [List.map_nil] at r; cases r; exact ⟨[], True.intro, .nil⟩
  | p :: kvs, _, r => by
    rw [List.map_cons] at r
    cases r with
    | @cons a b as bs h t =>
      obtain ⟨rs, c, q⟩ := carries_of (P := P) (w := w) t
      obtain ⟨b1, b2⟩ := b
      exact ⟨(p.1, b2) :: rs, ⟨kV_is h.1, rfl, c⟩, .cons ⟨rfl, h.2⟩ q⟩
/-- {k: v, ..} with keys ints and texts; the new dict stands empty while the pairs are made -/
def tDisp (trs : List (TE × TE)) : TE := fun σ H Q => ∀ p, H p = none → tPairs trs σ (upd H p (.dK [])) fun ps H2 => H2 p = some (.dK []) ∧ ∃ kvs : List (Key × V), ps = kvs.map (fun kv => (kV kv.1, kv.2)) ∧ kvs.length ≤ 15 ∧ Q (.ref p) (upd H2 p (.dK (mergeK [] kvs)))
theorem pe_disp {X : Cx} {pos : Pos} {keys : List (Option Expr)} {values : List Expr} {trs : List (TE × TE)} (h : PPs X pos keys values trs) (hall : keys.all (·.isSome) = true) (hl : keys.length = values.length) (h0 : keys ≠ [])
    (h15 : keys.length ≤ 15) : PE X (.Dict keys values pos) (tDisp trs) := by
  intro pins s σ H Q I q
  have hn := I.hok.fresh (Nat.le_refl s.heap.objs.size)
  have I1 := I.laid (a := s.heap.objs.size) (o := .dK []) (h' := s.heap.push { cls := .type "dict", data := .dict #[] }) (t' := s.toks) (fun _ _ q => Heap.get?_push_of_some _ q) (Nat.le_refl _) (dk_empty s.heap I.big)
  refine wpAny_Dict_walk (knd := mixKind X.prog X.w) hall hl h0 h15 (thn (h pins _ σ _ _ I1 (q _ hn)) fun ws s2 ⟨ps, H2, I2, rel, e, kvs, ep, lk, q2⟩ => ?_)
  subst ep
  obtain ⟨rs, c, rk⟩ := carries_of (P := X.prog) (w := X.w) rel
  obtain ⟨z, hd, vs0, r0, dd⟩ := dk_of I2.hok e
  cases r0
  refine ⟨rs, c, dd, fun h' dd' hs => ⟨.ref s.heap.objs.size, _, ?_, rfl, q2⟩⟩
  have hz : (mergeK [] kvs).length ≤ sizeLine := by
    have h1 := length_mergeK kvs []
    rw [List.length_nil] at h1
    rw [sizeLine_eq]; omega
  have he : ∃ q, h'.get? s.heap.objs.size = some q := let ⟨q, _, _, hq, _⟩ := dd'; ⟨q, hq⟩
  exact d_write I2 (by rw [e]; exact True.intro) hs he (dk_new hz hd (rk.merge .nil) dd')


/-! ### methods -/
/-- a method call o.m(e) of a built-in, with one argument: what must be seen of the text -/
structure M1 (X : Cx) (o : Expr) (m : Str) (apos : Pos) (e : Expr) (cpos : Pos) : Prop where
  base : attributeBase o m X.env (eval o X.env) = eval o X.env
  few : ((backTo cpos (starEach [e] X.env)).all (fun x => !x.1) && (backToKw cpos (keywordEach [] X.env)).all (fun x => x.1.isSome)
    && decide (([e] : List Expr).length + ([] : List Keyword).length + (if ([] : List Keyword).isEmpty then 0 else 1) < 30)) = true
  line : (apos.endLine == cpos.line) = true
  trees : backTo cpos (starEach [e] X.env) = [(false, eval e X.env)]
structure M2 (X : Cx) (o : Expr) (m : Str) (apos : Pos) (e f : Expr) (cpos : Pos) : Prop where
  base : attributeBase o m X.env (eval o X.env) = eval o X.env
  few : ((backTo cpos (starEach [e, f] X.env)).all (fun x => !x.1) && (backToKw cpos (keywordEach [] X.env)).all (fun x => x.1.isSome)
    && decide (([e, f] : List Expr).length + ([] : List Keyword).length + (if ([] : List Keyword).isEmpty then 0 else 1) < 30)) = true
  line : (apos.endLine == cpos.line) = true
  trees : backTo cpos (starEach [e, f] X.env) = [(false, eval e X.env), (false, eval f X.env)]

/-- a is a dict, whatever its keys -/
def IsD (H : Hp) (a : Addr) : Prop := (∃ kvs, Rd H a (.dK kvs)) ∨ ∃ kvs, Rd H a (.dT kvs)
theorem isD_at {X : Cx} {pins : List (Addr × Obj)} {σ : St} {H : Hp} {s : Shared} {a : Addr} (I : Inv X pins σ H s) (d : IsD H a) :
    s.TypeIs (.ref a) "dict" ∧ (∀ b, Value.ref a = .ref b → ∃ ob, s.heap.get? b = some ob ∧ ob.dict = none) ∧ (a == sysModules) = false := by
  rcases d with ⟨kvs, e⟩ | ⟨kvs, e⟩
  · obtain ⟨_, hd, vs, _, dd⟩ := dk_rd I.hok e
    refine ⟨dd.typeIs, fun b q => ?_, hd⟩
    cases q
    obtain ⟨ob, _, _, h1, h2, _⟩ := dd
    exact ⟨ob, h1, h2.2.1⟩
  · obtain ⟨_, hd, xs, _, dd⟩ := dt_rd I.hok e
    refine ⟨dd.typeIs, fun b q => ?_, hd⟩
    cases q
    obtain ⟨ob, _, _, h1, h2, _⟩ := dd
    exact ⟨ob, h1, h2.2.1⟩

section
variable {X : Cx} {pins : List (Addr × Obj)} {σ : St} {H : Hp} {s : Shared} {a : Addr} {y d : V} {u r : Value} {o : Option V} {A : Around} {E : Value → Shared → Prop}
/-- d.get(y) -/
theorem d_get1 {Q : Value → Shared → Prop} (hu : A.units + 1 < cLine) (I : Inv X pins σ H s) (g : DGet H a y o) (ry : RelV y u) (h : ∀ w' s', Inv X pins σ H s' → RelV (o.getD .non) w' → Q w' s') :
    wpAny (model X.prog X.w) A (call (.builtin "dict.get") [.ref a, u]) Q E s := by
  rcases g with ⟨kvs, k, e, ey, l⟩ | ⟨kvs, k, b, e, ey, eb, l⟩
  · subst ey
    obtain ⟨z, hd, vs, rel, dd⟩ := dk_rd I.hok e
    refine call_meetsIn PySem.F.slot_dict_get dd.typeIs PySem.F.entry_dict_get (PySem.F.args_dict_get_2 _ _) (meets_dict_get (mixKind X.prog X.w) a (kV_is ry) hd) ⟨_, dd.mapOf, h _ _ (I.tok _) ?_⟩
    rw [l]
    exact (rel.val k).getD rfl
  · subst ey
    cases (show u = Value.ref b from ry)
    obtain ⟨z, hd, xs, rel, dd⟩ := dt_rd I.hok e
    refine call_meetsIn PySem.F.slot_dict_get dd.typeIs PySem.F.entry_dict_get (PySem.F.args_dict_get_2 _ _) (meetsH_dict_get (tupleKind (mixKind X.prog X.w)) a b hd) ⟨tupleKind_room_in1 hu, k, xs, key_of I.hok eb, dd, h _ _ (I.tok _) ?_⟩
    rw [l]
    exact (rel.val k).getD rfl
/-- d.get(y, x) -/
theorem d_get2 {Q : Value → Shared → Prop} (hu : A.units + 1 < cLine) (I : Inv X pins σ H s) (g : DGet H a y o) (ry : RelV y u) (rd : RelV d r) (h : ∀ w' s', Inv X pins σ H s' → RelV (o.getD d) w' → Q w' s') :
    wpAny (model X.prog X.w) A (call (.builtin "dict.get") [.ref a, u, r]) Q E s := by
  rcases g with ⟨kvs, k, e, ey, l⟩ | ⟨kvs, k, b, e, ey, eb, l⟩
  · subst ey
    obtain ⟨z, hd, vs, rel, dd⟩ := dk_rd I.hok e
    refine call_meetsIn PySem.F.slot_dict_get dd.typeIs PySem.F.entry_dict_get (PySem.F.args_dict_get_3 _ _ _) (meets_dict_get_default (mixKind X.prog X.w) a (kV_is ry) hd r) ⟨_, dd.mapOf, h _ _ (I.tok _) ?_⟩
    rw [l]
    exact (rel.val k).getD rd
  · subst ey
    cases (show u = Value.ref b from ry)
    obtain ⟨z, hd, xs, rel, dd⟩ := dt_rd I.hok e
    refine call_meetsIn PySem.F.slot_dict_get dd.typeIs PySem.F.entry_dict_get (PySem.F.args_dict_get_3 _ _ _) (meetsH_dict_get_default (tupleKind (mixKind X.prog X.w)) a b hd r) ⟨tupleKind_room_in1 hu, k, xs, key_of I.hok eb, dd, h _ _ (I.tok _) ?_⟩
    rw [l]
    exact (rel.val k).getD rd
end

def tDGet1 (td ty : TE) : TE := fun σ H Q => td σ H fun x H1 => ∃ a, x = .ref a ∧ IsD H1 a ∧ ty σ H1 fun y H2 => ∃ o, DGet H2 a y o ∧ Q (o.getD .non) H2
def tDGet2 (td ty tx : TE) : TE := fun σ H Q => td σ H fun x H1 => ∃ a, x = .ref a ∧ IsD H1 a ∧ ty σ H1 fun y H2 => tx σ H2 fun z H3 => ∃ o, DGet H3 a y o ∧ Q (o.getD z) H3
/-- d.pop(k): there; d.pop(k, x): there or not -/
def tDPop1 (td ty : TE) : TE := fun σ H Q => td σ H fun x H1 => ∃ a, x = .ref a ∧ IsD H1 a ∧ ty σ H1 fun y H2 => ∃ kvs k v, H2 a = some (.dK kvs) ∧ y = kV k ∧ valV kvs k = some v ∧ Q v (upd H2 a (.dK (dropK kvs k)))
def tDPop2 (td ty tx : TE) : TE := fun σ H Q => td σ H fun x H1 => ∃ a, x = .ref a ∧ IsD H1 a ∧ ty σ H1 fun y H2 => tx σ H2 fun z H3 => ∃ kvs k, H3 a = some (.dK kvs) ∧ y = kV k ∧
  (∀ v, valV kvs k = some v → Q v (upd H3 a (.dK (dropK kvs k)))) ∧ (valV kvs k = none → Q z H3)
section
variable {X : Cx} {o e f : Expr} {apos cpos : Pos} {td ty tx : TE}
theorem pe_dget1 (hu : X.A.units + 1 < cLine) (ho : PE X o td) (he : PE X e ty) (m : M1 X o "get" apos e cpos) : PE X (.Call (.Attribute o "get" apos) [e] [] cpos) (tDGet1 td ty) := by
  intro pins s σ H Q I h
  refine wpAny_Call_method m.base m.few m.line PySem.F.plainAttrs_dict PySem.F.slot_dict_get PySem.F.type_dict_get (thn (ho pins s σ H _ I h) fun u s1 ⟨x, H1, I1, rx, a, ex, d, q1⟩ => ?_)
  subst ex
  obtain rfl : u = Value.ref a := rx
  obtain ⟨t1, t2, _⟩ := isD_at I1 d
  refine ⟨t1, t2, ?_⟩
  rw [m.trees]
  refine Calls.callWith_builtin rfl (Calls.evalArgs_plain (Calls.spliced_cons (thn (he pins s1 σ H1 _ I1 q1) fun iv s2 ⟨y, H2, I2, ry, ov, g, q2⟩ => Calls.spliced_nil ?_)))
  exact d_get1 hu I2 g ry fun w' s3 I3 rw' => ⟨_, H2, I3, rw', q2⟩
theorem pe_dget2 (hu : X.A.units + 1 < cLine) (ho : PE X o td) (he : PE X e ty) (hf : PE X f tx) (m : M2 X o "get" apos e f cpos) : PE X (.Call (.Attribute o "get" apos) [e, f] [] cpos) (tDGet2 td ty tx) := by
  intro pins s σ H Q I h
  refine wpAny_Call_method m.base m.few m.line PySem.F.plainAttrs_dict PySem.F.slot_dict_get PySem.F.type_dict_get (thn (ho pins s σ H _ I h) fun u s1 ⟨x, H1, I1, rx, a, ex, d, q1⟩ => ?_)
  subst ex
  obtain rfl : u = Value.ref a := rx
  obtain ⟨t1, t2, _⟩ := isD_at I1 d
  refine ⟨t1, t2, ?_⟩
  rw [m.trees]
  refine Calls.callWith_builtin rfl (Calls.evalArgs_plain (Calls.spliced_cons (thn (he pins s1 σ H1 _ I1 q1) fun iv s2 ⟨y, H2, I2, ry, q2⟩ =>
    Calls.spliced_cons (thn (hf pins s2 σ H2 _ I2 q2) fun fv s3 ⟨z, H3, I3, rz, ov, g, q3⟩ => Calls.spliced_nil ?_))))
  exact d_get2 hu I3 g ry rz fun w' s4 I4 rw' => ⟨_, H3, I4, rw', q3⟩
theorem pe_dpop1 (ho : PE X o td) (he : PE X e ty) (m : M1 X o "pop" apos e cpos) : PE X (.Call (.Attribute o "pop" apos) [e] [] cpos) (tDPop1 td ty) := by
  intro pins s σ H Q I h
  refine wpAny_Call_method m.base m.few m.line PySem.F.plainAttrs_dict PySem.F.slot_dict_pop PySem.F.type_dict_pop (thn (ho pins s σ H _ I h) fun u s1 ⟨x, H1, I1, rx, a, ex, d, q1⟩ => ?_)
  subst ex
  obtain rfl : u = Value.ref a := rx
  obtain ⟨t1, t2, _⟩ := isD_at I1 d
  refine ⟨t1, t2, ?_⟩
  rw [m.trees]
  refine Calls.callWith_builtin rfl (Calls.evalArgs_plain (Calls.spliced_cons (thn (he pins s1 σ H1 _ I1 q1) fun iv s2 ⟨y, H2, I2, ry, kvs, k, v, ea, ey, l, q2⟩ => Calls.spliced_nil ?_)))
  subst ey
  exact d_pop I2 ea ry l (.inl rfl) fun w' s3 I3 rw' => ⟨v, _, I3, rw', q2⟩
theorem pe_dpop2 (ho : PE X o td) (he : PE X e ty) (hf : PE X f tx) (m : M2 X o "pop" apos e f cpos) : PE X (.Call (.Attribute o "pop" apos) [e, f] [] cpos) (tDPop2 td ty tx) := by
  intro pins s σ H Q I h
  refine wpAny_Call_method m.base m.few m.line PySem.F.plainAttrs_dict PySem.F.slot_dict_pop PySem.F.type_dict_pop (thn (ho pins s σ H _ I h) fun u s1 ⟨x, H1, I1, rx, a, ex, d, q1⟩ => ?_)
  subst ex
  obtain rfl : u = Value.ref a := rx
  obtain ⟨t1, t2, _⟩ := isD_at I1 d
  refine ⟨t1, t2, ?_⟩
  rw [m.trees]
  refine Calls.callWith_builtin rfl (Calls.evalArgs_plain (Calls.spliced_cons (thn (he pins s1 σ H1 _ I1 q1) fun iv s2 ⟨y, H2, I2, ry, q2⟩ =>
    Calls.spliced_cons (thn (hf pins s2 σ H2 _ I2 q2) fun fv s3 ⟨z, H3, I3, rz, kvs, k, ea, ey, q3, q4⟩ => Calls.spliced_nil ?_))))
  subst ey
  cases l : valV kvs k with
  | some v => exact d_pop I3 ea ry l (.inr ⟨fv, rfl⟩) fun w' s4 I4 rw' => ⟨v, _, I4, rw', q3 v l⟩
  | none => exact d_popD I3 ea ry l fun s4 I4 => ⟨z, H3, I4, rz, q4 l⟩
end

/-! ### dict(d): a copy -/
section
variable {X : Cx} {pins : List (Addr × Obj)} {σ : St} {H : Hp} {s : Shared} {a : Addr} {kvs : List (Key × V)} {A : Around} {E : Value → Shared → Prop}
theorem d_copyOf {Q : Value → Shared → Prop} (I : Inv X pins σ H s) (e : Rd H a (.dK kvs)) (h : ∀ p s', H p = none → Inv X pins σ (upd H p (.dK kvs)) s' → Q (.ref p) s') : wpAny (model X.prog X.w) A (call (.type "dict") [.ref a]) Q E s := by
  obtain ⟨z, hd, vs, rel, dd⟩ := dk_rd I.hok e
  refine kt_call_dict hd dd (by rw [← rel.length]; exact z) fun h' dd' hs => ?_
  refine h _ _ (I.hok.fresh (Nat.le_refl _)) (I.laid (a := s.heap.objs.size) (o := .dK kvs) (t' := s.toks) (fun b q hq => ?_) (Nat.le_refl _) (dk_new z (beq_eq_false_iff_ne.mpr (Ne.symm (Nat.ne_of_lt I.big))) rel dd'))
  exact (hs.2 b (Nat.ne_of_lt (Heap.lt_size hq))).trans (Heap.get?_push_of_some _ hq)
end


section
variable {X : Cx} {pins : List (Addr × Obj)} {σ : St} {H : Hp} {s : Shared} {a : Addr} {y : V} {u : Value} {A : Around} {E : Value → Shared → Prop}
/-- d[y], not there: a KeyError -/
theorem d_missing {Q : Value → Shared → Prop} (hu : A.units + 1 < cLine) (hh : A.handled = none) (I : Inv X pins σ H s) (g : DGet H a y none) (ry : RelV y u)
    (h : ∀ h' e t', Heap.NewExc s.heap h' e "KeyError" → E (.ref e) { s with heap := h', toks := t' }) : wpAny (model X.prog X.w) A (getItem (.ref a) u) Q E s := by
  rcases g with ⟨kvs, k, e, ey, l⟩ | ⟨kvs, k, b, e, ey, eb, l⟩
  · subst ey
    obtain ⟨z, hd, vs, rel, dd⟩ := dk_rd I.hok e
    have hn : valueAt vs k = none := RelO.none_of (by rw [l]; exact rel.val k)
    exact wpAny_getItem_missing_of (kV_is ry) hd hh dd.mapOf hn fun h' ex ne => h h' ex _ ne
  · subst ey
    cases (show u = Value.ref b from ry)
    obtain ⟨z, hd, xs, rel, dd⟩ := dt_rd I.hok e
    have hn : (atKey xs k).map (·.2) = none := RelO.none_of (by rw [l]; exact rel.val k)
    exact wpAny_getItem_missing_heap (tupleKind_room_in1 hu) (key_of I.hok eb) hd hh dd (Option.map_eq_none_iff.mp hn) fun h' ex ne => h h' ex _ ne
end
end L2

namespace Att
open PySem PySem.W PySem.Calls PyProof.Rows

/-! ### the script -/
theorem ints_of_wellAll {P : Params} {h : Heap} : ∀ (ns : List Int) (vs : List Value), WellAll P h vs (ns.map WData.int) → IntsAre vs ns := by
  intro ns
  induction ns with
  | nil =>
    intro vs w
    rw [List.map_nil] at w
    cases w
    exact .nil
  | cons n ns ih =>
    intro vs w
    rw [List.map_cons] at w
    cases w with
    | cons a b =>
      cases a
      exact .cons _ _ (ih _ b)

theorem script_of {l : OpenLaw} {n : Nat} (hn : l.most = some n) {P : Params} {h : Heap} {args : List WData} {vals : List Value}
    (hpre : l.row.toRowW.claim.pre args = true) (hwl : WellAll P h vals args) :
    ∃ a vs ns, vals = [Value.ref a] ∧ args = [WData.list (ns.map WData.int)] ∧ h.get? a = some { cls := .type "list", data := .seq vs.toArray } ∧ IntsAre vs ns ∧ ns.length ≤ n := by
  have hsh : WShape.hasAll [] args [.list .int] = true := (pre_splitW hpre).1
  have hc : l.pre.holds [] { args := args } = true := (pre_splitW hpre).2
  obtain ⟨d, r, rfl, h1, h2⟩ := hasAllW_cons hsh
  obtain rfl := hasAllW_nil h2
  obtain ⟨xs, rfl, h3⟩ := hasW_list h1
  obtain ⟨ns, rfl⟩ := items_int h3
  have hlen : ns.length ≤ n := by
    unfold OpenLaw.pre at hc
    have h4 : (WTm.not (.lt (.lit (.int (n : Int))) (.len (.arg 0)))).holds [] { args := [.list (ns.map .int)] } = true := by
      have h4 := (holds_andW hc).1
      rw [hn] at h4
      exact h4
    have h5 := condW_of h4 (w_not (w_lt w_lit (w_len_list (w_arg rfl))))
    rw [List.length_map] at h5
    refine Nat.le_of_not_lt fun q => ?_
    have q' : (n : Int) < ((ns.length : Nat) : Int) := by omega
    first
      | (rw [decide_eq_true q'] at h5; exact absurd h5 (by decide))
      | (simp at h5; omega)
  cases hwl with
  | cons w1 w2 =>
    cases w2
    cases w1 with
    | list ho hall => exact ⟨_, _, ns, rfl, rfl, ho, ints_of_wellAll ns _ hall, hlen⟩

theorem post_true (l : OpenLaw) (args : List WData) : l.row.toRowW.claim.post args (.bool true) args = true :=
  postW_of (r := l.row.toRowW) (X := (true == true))
    (show WShape.has [] (.bool true) .bool = true by first | rfl | decide | simp [WShape.has, WShape.arms, WShape.armsAll])
    (show (WTm.eq .res (.lit (.bool true))).value [] { args := args, res := some (.bool true), after := args } = some (.bool (true == true)) from w_eq_bool (w_res rfl) w_lit) rfl

/-! ### the attachment: holds_open's last premise (the goal 'hc' behind k_head) from a wpAny of the law's body -/
theorem attach {l : OpenLaw} {n : Nat} {q : Program} {loose : List Str} {XP : (Str → Option Value) → Heap → Prop} {YP : World → Heap → Prop} {d : DefRec} {x : Str}
    (hn : l.most = some n) (hdf : d.params.defaults = [])
    (hbind : ∀ pm cd doc v : Value, bindArgs (docDef d.name d.params d.body d.scope pm cd doc) ⟨[v], []⟩ = pure [(x, v)])
    (hx : d.scope.names.lookup x = some .local ∨ d.scope.names.lookup x = some .cell)
    (hk : d.scope.kind = .function) (hco : d.scope.isCoroutine = false) (hgen : d.scope.isGenerator = false)
    (body : ∀ (w : World) (s₀ s₁ s : Shared) (mg mb : Str → Option Value) (fa : Addr) (o : Obj) (pm cd doc : Value) (a : Addr) (vs : List Value) (ns : List Int),
      Ground q loose [] XP w s₀ mg mb s₁.heap → YP w s₁.heap →
      s₁.heap.get? fa = some o → o.data = .func (docDef d.name d.params d.body d.scope pm cd doc) → s₁.heap.CodeRec cd d.name → mg d.name = some (.ref fa) →
      s₁.heap.get? a = some { cls := .type "list", data := .seq vs.toArray } → IntsAre vs ns → ns.length ≤ n →
      s.gens = #[] → s.os = s₁.os →
      Fr s₁.heap s₁.heap.objs.size s.heap (bindL (envOfC d.name d.scope s₁.heap.objs.size fa cd).kindOf [(x, .ref a)] fun _ => none) →
      Cl s₁.heap.objs.size (cellsFrom (s₁.heap.objs.size + 1) d.scope.names []) s.heap (bindC (envOfC d.name d.scope s₁.heap.objs.size fa cd).kindOf [(x, .ref a)] fun _ => none) →
      wpAny (model l.prog w) (callerA.deeper (envOfC d.name d.scope s₁.heap.objs.size fa cd)) (execs d.body (envOfC d.name d.scope s₁.heap.objs.size fa cd))
        (fun f s' => f = .ret (.bool true) ∧ OldK s₁.heap s'.heap ∧ s'.os = s₁.os ∧ AllBare s'.gens) (fun _ _ => False) s) :
    WalkO q loose XP YP l.row.toRowW d [] (fun f vs => PySem.call f vs) := by
  intro w s₀ s₁ mg mb G Y fa o pm cd doc dV kV ho hd hcd hD hmg hg args vals as hpre hlay hrd hwl hlo
  obtain rfl : dV = .none := Dflts.none hD hdf
  obtain rfl : kV = .none := Dflts.noKw hD
  obtain ⟨a, vs, ns, rfl, rfl, hobj, hints, hlen⟩ := script_of hn hpre hwl
  refine enter_call ?_
  refine call_cells_ret (o := o) (by rw [depth_caller]; decide) ho (fd_plain hd) G.T.nolimit hcd (hbind pm cd doc (.ref a)) (fun y hy => ?_) (fun h₁ tk F X => ?_) hco hgen hk
  · obtain rfl : y = (x, Value.ref a) := List.mem_singleton.mp hy
    rcases hx with e | e
    · exact .inl e
    · exact .inr ⟨e, cellsFrom_some _ _ _ (.inl e)⟩
  · refine wpAny_mono (body w s₀ s₁ { s₁ with heap := h₁, toks := tk } mg mb fa o pm cd doc a vs ns G Y ho (fd_plain hd) hcd hmg hobj hints hlen hg rfl F X) (fun f s' hq => ?_) (fun _ _ hq => hq)
    obtain ⟨rfl, h2, h3, h4⟩ := hq
    exact ⟨.inl ⟨.bool true, .bool true, [], rfl, fun _ => rfl, .bool true, post_true l _, fun _ => ⟨List.Pairwise.nil, fun _ hm => (nomatch hm)⟩⟩, h2, h3, h4⟩

/-- the same from a codeAny of the CALL (for a layer whose function contracts speak of calls) -/
theorem attach_call {l : OpenLaw} {n : Nat} {q : Program} {loose : List Str} {XP : (Str → Option Value) → Heap → Prop} {YP : World → Heap → Prop} {d : DefRec}
    (hn : l.most = some n) (hdf : d.params.defaults = [])
    (call : ∀ (w : World) (s₀ s₁ : Shared) (mg mb : Str → Option Value) (fa : Addr) (o : Obj) (pm cd doc : Value) (a : Addr) (vs : List Value) (ns : List Int),
      Ground q loose [] XP w s₀ mg mb s₁.heap → YP w s₁.heap →
      s₁.heap.get? fa = some o → o.data = .func (docDef d.name d.params d.body d.scope pm cd doc) → s₁.heap.CodeRec cd d.name → mg d.name = some (.ref fa) →
      s₁.heap.get? a = some { cls := .type "list", data := .seq vs.toArray } → IntsAre vs ns → ns.length ≤ n → s₁.gens = #[] →
      codeAny (model l.prog w) callerA (.call (.ref fa) ⟨[.ref a], []⟩) (fun r s' => r = .ok (.ret (.bool true)) ∧ OldK s₁.heap s'.heap ∧ s'.os = s₁.os ∧ AllBare s'.gens) s₁) :
    WalkO q loose XP YP l.row.toRowW d [] (fun f vs => PySem.call f vs) := by
  intro w s₀ s₁ mg mb G Y fa o pm cd doc dV kV ho hd hcd hD hmg hg args vals as hpre hlay hrd hwl hlo
  obtain rfl : dV = .none := Dflts.none hD hdf
  obtain rfl : kV = .none := Dflts.noKw hD
  obtain ⟨a, vs, ns, rfl, rfl, hobj, hints, hlen⟩ := script_of hn hpre hwl
  refine enter_call (codeAny_mono (call w s₀ s₁ mg mb fa o pm cd doc a vs ns G Y ho (fd_plain hd) hcd hmg hobj hints hlen hg) fun r s' hq => ?_)
  obtain ⟨rfl, h2, h3, h4⟩ := hq
  exact ⟨.inl ⟨.bool true, .bool true, [], rfl, fun _ => rfl, .bool true, post_true l _, fun _ => ⟨List.Pairwise.nil, fun _ hm => (nomatch hm)⟩⟩, h2, h3, h4⟩

/-- the same where the top left finished generators (o_head chose holds_openN): nothing may have changed at all and no generator may be left -/
theorem attachN {l : OpenLaw} {n : Nat} {q : Program} {loose : List Str} {XP : (Str → Option Value) → Heap → Prop} {YP : World → Heap → Prop} {d : DefRec} {x : Str}
    (hn : l.most = some n) (hdf : d.params.defaults = [])
    (hbind : ∀ pm cd doc v : Value, bindArgs (docDef d.name d.params d.body d.scope pm cd doc) ⟨[v], []⟩ = pure [(x, v)])
    (hx : d.scope.names.lookup x = some .local ∨ d.scope.names.lookup x = some .cell)
    (hk : d.scope.kind = .function) (hco : d.scope.isCoroutine = false) (hgen : d.scope.isGenerator = false)
    (body : ∀ (w : World) (s₀ s₁ s : Shared) (mg mb : Str → Option Value) (fa : Addr) (o : Obj) (pm cd doc : Value) (a : Addr) (vs : List Value) (ns : List Int),
      Ground q loose [] XP w s₀ mg mb s₁.heap → YP w s₁.heap →
      s₁.heap.get? fa = some o → o.data = .func (docDef d.name d.params d.body d.scope pm cd doc) → s₁.heap.CodeRec cd d.name → mg d.name = some (.ref fa) →
      s₁.heap.get? a = some { cls := .type "list", data := .seq vs.toArray } → IntsAre vs ns → ns.length ≤ n →
      s.gens = #[] → s.os = s₁.os →
      Fr s₁.heap s₁.heap.objs.size s.heap (bindL (envOfC d.name d.scope s₁.heap.objs.size fa cd).kindOf [(x, .ref a)] fun _ => none) →
      Cl s₁.heap.objs.size (cellsFrom (s₁.heap.objs.size + 1) d.scope.names []) s.heap (bindC (envOfC d.name d.scope s₁.heap.objs.size fa cd).kindOf [(x, .ref a)] fun _ => none) →
      wpAny (model l.prog w) (callerA.deeper (envOfC d.name d.scope s₁.heap.objs.size fa cd)) (execs d.body (envOfC d.name d.scope s₁.heap.objs.size fa cd))
        (fun f s' => f = .ret (.bool true) ∧ (∀ b o, s₁.heap.get? b = some o → s'.heap.get? b = some o) ∧ s'.os = s₁.os ∧ s'.gens = #[]) (fun _ _ => False) s) :
    WalkN q loose XP YP l.row.toRowW d [] (fun f vs => PySem.call f vs) := by
  intro w s₀ s₁ mg mb G Y fa o pm cd doc dV kV ho hd hcd hD hmg hg args vals as hpre hlay hrd hwl hlo
  obtain rfl : dV = .none := Dflts.none hD hdf
  obtain rfl : kV = .none := Dflts.noKw hD
  obtain ⟨a, vs, ns, rfl, rfl, hobj, hints, hlen⟩ := script_of hn hpre hwl
  refine enter_callW ?_
  refine call_cells_ret (o := o) (by rw [depth_caller]; decide) ho (fd_plain hd) G.T.nolimit hcd (hbind pm cd doc (.ref a)) (fun y hy => ?_) (fun h₁ tk F X => ?_) hco hgen hk
  · obtain rfl : y = (x, Value.ref a) := List.mem_singleton.mp hy
    rcases hx with e | e
    · exact .inl e
    · exact .inr ⟨e, cellsFrom_some _ _ _ (.inl e)⟩
  · refine wpAny_mono (body w s₀ s₁ { s₁ with heap := h₁, toks := tk } mg mb fa o pm cd doc a vs ns G Y ho (fd_plain hd) hcd hmg hobj hints hlen hg rfl F X) (fun f s' hq => ?_) (fun _ _ hq => hq)
    obtain ⟨rfl, h2, h3, h4⟩ := hq
    exact ⟨.inl ⟨.bool true, .bool true, [], rfl, fun _ => rfl, .bool true, post_true l _, fun _ => ⟨List.Pairwise.nil, fun _ hm => (nomatch hm)⟩⟩, h2, h3, h4⟩

/-! ### rules over ANY heap (no ledger) from facts about the written part K: the library's own take a ledger (News) for what they write -/
section
variable {prog : Program} {w : World} {A : Around} {E : Value → Shared → Prop} {s : Shared} {K : Frag}

/-- a def of the module, or a method (qual 'C.m'), entered: the frame is the next address; cells behind it -/
theorem call_fn {R : Result → Shared → Prop} {name qual : Str} {params : Arguments} {body : List Stmt} {scope : Scope} {dV kV doc pm cdv ct oc : Value} {an od : Option Addr} {osl : Array (Option Value)} {f : Addr} {args : Args} {binds : List (Str × Value)}
    (X : K.In s.heap) (hlim : s.heap.NoLimit) (ho : K.lookup f = some ⟨oc, od, .func (fnOf name qual params body scope dV kV doc pm an cdv ct), osl⟩) (hcd : codeIn K cdv qual = true) (hroom : A.depth < recursionLimit)
    (hbind : BindsTo s (fnOf name qual params body scope dV kV doc pm an cdv ct) args binds)
    (hkind : (binds.all fun y => scope.names.lookup y.1 == some .local || scope.names.lookup y.1 == some .cell) = true)
    (h : ∀ s₁, InCallC s s.heap.objs.size (bindL (envOfC qual scope s.heap.objs.size f cdv).kindOf binds fun _ => none) (cellsFrom (s.heap.objs.size + 1) scope.names [])
        (bindC (envOfC qual scope s.heap.objs.size f cdv).kindOf binds fun _ => none) s₁ →
      wpAny (model prog w) (A.deeper (envOfC qual scope s.heap.objs.size f cdv)) (execs body (envOfC qual scope s.heap.objs.size f cdv))
        (fun fl s' => R (.ok (.ret (match fl with | .ret v => v | _ => .none))) s')
        (fun e s' => wpAny (model prog w) (A.deeper (envOfC qual scope s.heap.objs.size f cdv)) (leaving (envOfC qual scope s.heap.objs.size f cdv) e) (fun _ s'' => R (.error e) s'') (fun e' s'' => R (.error e') s'') s') s₁)
    (hco : scope.isCoroutine = false) (hgen : scope.isGenerator = false) (hk : scope.kind = .function) : codeAny (model prog w) A (.call (.ref f) args) R s := by
  refine codeAny_call_function hroom (X _ _ ho) rfl hco hgen rfl (codeRec_of X hcd) (hbind _ _ _ _ ?_)
  refine wpAny_newFunctionEnv_cells hk (kindsX hkind _) fun env he s₁ x => ?_
  subst he
  exact ⟨hlim.keeps x.toInCall.keep, codeAny_func (h s₁ x)⟩

/-- C(..): dict at size, instance at size + 1, then __init__ -/
theorem make_obj {R : Result → Shared → Prop} {C fI : Addr} {rest : List Value} {kw : List (Str × Value)}
    (X : K.In s.heap) (hm : makesIn K C = true) (hi : findIn K (.ref C) "__init__" = some (some (.ref fI))) (hf : isFn K (.ref fI) = true)
    (h : codeAny (model prog w) (A.under (.builtin "type.__call__" ⟨.ref C :: rest, kw⟩)) (.call (.ref fI) ⟨.ref (s.heap.objs.size + 1) :: rest, kw⟩) (InitBack (s.heap.objs.size + 1) R)
      { s with heap := (s.heap.push emptyDict).push (instObj C s.heap.objs.size) }) : codeAny (model prog w) A (.call (.ref C) ⟨rest, kw⟩) R s := by
  obtain ⟨hh, g, d, t, os⟩ := s
  exact make_core (makes_of X hm) (looks_findIn X hi) (fun self => bind_fn X self (beq_iff_eq.mp hf)) (.inl rfl) h

/-- x.name where the instance's dict holds the name and the class does not -/
theorem get_field {x C : Addr} {ox : Obj} {es : List DictEntry} {n : Nat} {name : Str} {expr : Bool} {v : Value} {Q : Value → Shared → Prop}
    (X : K.In s.heap) (I : PySem.W.InstAt s.heap x ox C (some (dictOf es n))) (hg : plainGet K C name = true) (hh : hasDictIn K C = true) (ha : findIn K (.ref C) name = some none)
    (hl : getL name es = some (some v)) (hv : handedIn v = true) (h : Q v { s with toks := s.toks + 1 }) : wpAny (model prog w) A (getAttr (.ref x) name expr) Q E s :=
  get_value X I (plainGet_of hg).1 (findObj_own hh ha rfl hl) hv h

/-- x.m(..): the method found in the class -/
theorem get_method {x C f : Addr} {ox : Obj} {es : List DictEntry} {n : Nat} {name : Str} {pl : Sem Bool} {Q : Value × List Value → Shared → Prop}
    (X : K.In s.heap) (I : PySem.W.InstAt s.heap x ox C (some (dictOf es n))) (hg : plainGet K C name = true) (hf : findIn K (.ref C) name = some (some (.ref f))) (ht : isFn K (.ref f) = true)
    (hl : getL name es = some none) (h : Q (.ref f, [.ref x]) s) : wpAny (model prog w) A (getMethod (.ref x) name pl) Q E s :=
  method_fn X I (plainGet_of hg).1 (plainGet_of hg).2 hf (beq_iff_eq.mp ht) (by show (lookIn name (dictOf es n)).map _ = _; rw [lookIn_dict, hl]; rfl) h

/-! the whole heap as the ledger: makes every rule that writes through a ledger a rule over any heap -/
def noObjs (h : Heap) : Heap := { h with objs := #[] }
theorem noObjs_get (h : Heap) (b : Addr) : (noObjs h).get? b = none := by
  cases e : (noObjs h).get? b with
  | none => rfl
  | some o => exact absurd (Heap.lt_size e) (Nat.not_lt_zero _)
def ledger (h : Heap) (L d : Addr) : List (Addr × Obj) := (List.range h.objs.size).filterMap fun a => if a = L ∨ a = d then none else (h.get? a).map fun o => (a, o)
theorem mem_ledger {h : Heap} {L d a : Addr} {o : Obj} : (a, o) ∈ ledger h L d ↔ a ≠ L ∧ a ≠ d ∧ h.get? a = some o := by
  unfold ledger
  rw [List.mem_filterMap]
  constructor
  · rintro ⟨b, _, e⟩
    split at e
    · cases e
    · rename_i hb
      obtain ⟨o', ho, e'⟩ := Option.map_eq_some_iff.mp e
      cases e'
      exact ⟨fun q => hb (.inl q), fun q => hb (.inr q), ho⟩
  · rintro ⟨n1, n2, ho⟩
    refine ⟨a, List.mem_range.mpr (Heap.lt_size ho), ?_⟩
    rw [if_neg (show ¬ (a = L ∨ a = d) from fun q => q.elim n1 n2), ho] <;> rfl
theorem news_ledger {h : Heap} {L d : Addr} {od : Obj} (hne : d ≠ L) (ho : h.get? d = some od) : News (noObjs h) L h ([] ++ (d, od) :: ledger h L d) := by
  rintro ⟨a, o⟩ hp
  rcases List.mem_cons.mp hp with e | hp
  · cases e
    exact ⟨ho, hne, noObjs_get _ _⟩
  · obtain ⟨n1, n2, e⟩ := mem_ledger.mp hp
    exact ⟨e, n1, noObjs_get _ _⟩
theorem fr_all {h : Heap} {L : Addr} {m : Str → Option Value} (n : h.Ns L m) : Fr (noObjs h) L h m :=
  ⟨n, fun b o e => (by rw [noObjs_get] at e; cases e), Nat.zero_le _⟩
/-- Upd of the head entry (for append_K, setItem_K ..) -/
theorem upd_ledger {h : Heap} {L d : Addr} {o o' : Obj} : Upd d o o' ((d, o) :: ledger h L d) ((d, o') :: ledger h L d) :=
  .head fun ⟨_, _⟩ hp => (mem_ledger.mp hp).2.1

/-- x.name = v over any heap: L is any namespace of the heap (the frame's, say): its map stays, its object is not told; all else but the dict stays -/
theorem set_field {x C dx L : Addr} {ox : Obj} {m : Str → Option Value} {es es' : List DictEntry} {n n' : Nat} {name : Str} {v : Value} {Q : Unit → Shared → Prop}
    (X : K.In s.heap) (I : PySem.W.InstAt s.heap x ox C (some (dictOf es n))) (hd : ox.dict = some dx) (hL : s.heap.Ns L m) (hne : dx ≠ L)
    (hs : findIn K (.ref C) "__setattr__" = some (some (.builtin "object.__setattr__"))) (hp : plainOver K C = true) (ht : takerIn K C name = some none) (hh : hasDictIn K C = true) (hl : (getL name es).isSome = true)
    (e : (putL name (PyData.keyHash w.params name) (.str name (s.toks + 1)) v es, putN name es n) = (es', n')) (hz : es'.length ≤ 1000)
    (h : ∀ h' : Heap, h'.Ns L m → h'.get? dx = some (dictOf es' n') → (∀ b o, b ≠ dx → b ≠ L → s.heap.get? b = some o → h'.get? b = some o) → Q () { s with heap := h', toks := s.toks + 2 }) :
    wpAny (model prog w) A (setAttr (.ref x) name v) Q E s := by
  obtain ⟨e1, e2⟩ := Prod.mk.inj e
  have hdx : s.heap.get? dx = some (dictOf es n) := by
    have := I.dict
    rw [hd] at this
    exact this
  refine set_plain X I hs (osa_dict (s := { s with toks := s.toks + 1 }) (h₀ := noObjs s.heap) (L := L) (m := m) (od := dictOf es n) (od' := dictOf es' n') (es := es') (n := n') (pre := []) (post := ledger s.heap L dx)
    (fr_all hL) (news_ledger hne hdx) X I hd hp ht hh hl (fun _ q => nomatch q) (fun ⟨_, _⟩ q => (mem_ledger.mp q).2.1) (by rw [putName_dict, e1, e2]) rfl hz fun h' F' N' => ?_)
  exact h h' F'.ns (N'.get (List.Mem.head _)) fun b o n1 n2 ho => N'.get (List.Mem.tail _ (mem_ledger.mpr ⟨n2, n1, ho⟩))
end
end Att

namespace L2
open PySem PySem.Spec PyProof.Rows

theorem vals_ints : ∀ {vs : List Value} {ns : List Int}, IntsAre vs ns → Vals (ns.map V.int) vs
  | _, _, .nil => .nil
  | _, _, .cons n t h => .cons ⟨t, rfl⟩ (vals_ints h)

/-- nothing is tracked but the script, known to the object (or it is an object of the module) -/
def Only (H : Hp) : Prop := ∀ b, H b = none ∨ ∃ o xs, H b = some (.frz o (.lst xs))

/-- THE HEAD: the law's promise, at the heap behind the top. F, the promise of the law's def, may use that base is part of the heap (so K.In base, base.Ns mainGlobals mg stand in Mod) -/
theorem law_call {P : Program} {w : World} {K : PySem.W.Frag} {mg mb : Str → Option Value} {CX : CXT} {k : Nat} {fa a : Addr} {fd : FuncData} {x : Str} {sp : Sp} {s₁ : Shared} {vs : List Value} {ns : List Int}
    (KX : K.In s₁.heap) (hns : s₁.heap.Ns mainGlobals mg) (hb : s₁.heap.Ns builtinsNs mb) (hbb : ∀ x : Str, x ≠ "__name__" → mb x = bootBuiltins x) (hlim : s₁.heap.NoLimit) (hg : s₁.gens = #[])
    (ha : s₁.heap.get? a = some { cls := .type "list", data := .seq vs.toArray }) (hi : IntsAre vs ns) (hl : ns.length ≤ sizeLine) (hr : Room k callerA)
    (F : ∀ base : Heap, K.In base → base.Ns mainGlobals mg → FnOk P w K mg base CX k fa fd [x] sp) (hbind : ∀ (s : Shared) (u : Value), BindsTo s fd ⟨[u], []⟩ [(x, u)])
    (hsp : ∀ H : Hp, Only H → SqL K H a (ns.map V.int) → sp [.ref a] H (fun v _ => v = .bl true) fun _ _ _ => False)
    (hCX : ∀ H e s', CX [] H s₁ (fun _ _ _ => False) e s' → False) :
    codeAny (model P w) callerA (.call (.ref fa) ⟨[.ref a], []⟩) (fun r s' => r = .ok (.ret (.bool true)) ∧ OldK s₁.heap s'.heap ∧ s'.os = s₁.os ∧ AllBare s'.gens) s₁ := by
  have rv := vals_ints hi
  have lenV := hi.length
  -- from an abstract heap in which nothing but the script may be tracked
  have core : ∀ H : Hp, Only H → SqL K H a (ns.map V.int) → HOk P w H s₁.heap → (∀ b, H b ≠ none → b = a) → (H a ≠ none → K.lookup a = none) →
      codeAny (model P w) callerA (.call (.ref fa) ⟨[.ref a], []⟩) (fun r s' => r = .ok (.ret (.bool true)) ∧ OldK s₁.heap s'.heap ∧ s'.os = s₁.os ∧ AllBare s'.gens) s₁ := by
    intro H hO hS hok hA hK
    have base_of : ∀ {b : Addr} {o : Obj}, s₁.heap.get? b = some o → H b = none → (hidT s₁.heap H).get? b = some o := fun e n => hidT_get e n
    have noA : ∀ {b : Addr} {o : Obj} {es : Array DictEntry} {ep : Nat}, s₁.heap.get? b = some o → o.data = .dict es ep → H b = none := fun {b o es ep} e d => by
      cases q : H b with
      | none => rfl
      | some u =>
        have e' : b = a := hA b (by rw [q]; simp)
        subst e'
        rw [ha] at e; cases e
        have d' : Data.seq vs.toArray _ = Data.dict es ep := d
        cases d'
    have nsK : ∀ {b : Addr} {m : Str → Option Value}, s₁.heap.Ns b m → (hidT s₁.heap H).Ns b m := fun {b m} ⟨o, es, ep, e, d, r⟩ => ⟨o, es, ep, base_of e (noA e d), d, r⟩
    have hKb : K.In (hidT s₁.heap H) := fun b o e => base_of (KX b o e) (by
      cases q : H b with
      | none => rfl
      | some u =>
        have e' : b = a := hA b (by rw [q]; simp)
        subst e'
        rw [hK (by rw [q]; simp)] at e; cases e)
    have hM : Mod K mg (hidT s₁.heap H) := ⟨hKb, nsK hns, ⟨mb, nsK hb, hbb⟩, let ⟨mc, h1, h2⟩ := hlim; ⟨mc, nsK h1, h2⟩⟩
    have e0 : Env0 P w K mg (hidT s₁.heap H) callerA [] s₁ H := ⟨rfl, hM, fun b o e => of_hidT e, Nat.le_of_eq (hidT_size _ _), trivial, fun b hb => absurd (show b ∈ ([] : List Addr) from hb) (by simp), hok, .of_eq hg⟩
    refine codeAny_mono ((F _ hKb (nsK hns)).run callerA [] s₁ H ⟨[.ref a], []⟩ [.ref a] [.ref a] _ _ hr e0 (hbind s₁ (.ref a)) (.cons rfl .nil) (hsp H hO hS)) fun r s' h => ?_
    cases r with
    | error e => exact (hCX H e s' h).elim
    | ok fl =>
      cases fl with
      | next => exact False.elim h
      | brk => exact False.elim h
      | cont => exact False.elim h
      | ret u =>
        obtain ⟨v, H', os, bare, un, hok', r', q⟩ := h
        have q' : v = .bl true := q
        subst q'
        obtain rfl : u = Value.bool true := r'
        refine ⟨rfl, OldK.of_keep fun b o e => ?_, os, bare⟩
        cases q : H b with
        | none => exact un.keep b o e q (by intro z; exact absurd (show b ∈ ([] : List Addr) from z) (by simp)) (by simp)
        | some u =>
          rcases hO b with z | ⟨ob, xs, z⟩
          · rw [q] at z; cases z
          · have z2 := un.frzs b ob _ z
            obtain ⟨e1, _⟩ := hok b _ z
            obtain ⟨e2, _⟩ := hok' b _ z2
            rw [e] at e1; cases e1
            exact e2
  cases hk : K.lookup a with
  | some o =>
    -- the script is one of the module's own objects
    have e := KX a o hk
    rw [ha] at e
    cases e
    refine core (fun _ => none) (fun _ => .inl rfl) (.inr ⟨_, vs.toArray, _, hk, rfl, rfl, rfl, by rw [List.size_toArray, lenV]; exact hl, by simpa using rv⟩) (fun b u z => by have z' : (none : Option HO) = some u := z; cases z') (fun b z => absurd rfl z) fun z => absurd rfl z
  | none =>
    refine core (fun b => if b = a then some (.frz { cls := .type "list", data := .seq vs.toArray } (.lst (ns.map V.int))) else none) (fun b => ?_) (.inl (.inr ⟨{ cls := .type "list", data := .seq vs.toArray }, if_pos rfl⟩)) (fun b u z => ?_) (fun b z => ?_) fun _ => hk
    · by_cases hb : b = a
      · exact .inr ⟨_, _, if_pos hb⟩
      · exact .inl (if_neg hb)
    · by_cases hb : b = a
      · have z' := (if_pos hb).symm.trans z
        cases z'
        subst hb
        exact ⟨ha, by rw [List.length_map]; exact hl, vs, _, rv, ha⟩
      · have z' := (if_neg hb).symm.trans z
        cases z'
    · by_cases hb : b = a
      · exact hb
      · exact absurd (if_neg hb) z
end L2

namespace L2
open PySem PySem.Spec PyProof.Rows

abbrev KOf {K : PySem.W.Frag} {h : Heap} (_ : K.In h) : PySem.W.Frag := K

/-- the goal that k_head leaves (case hc), from the law's promise. F gives the function object fd (K's own) once, then the promise over every base -/
theorem walk_of {l : PySem.W.OpenLaw} {n k : Nat} {q : Program} {loose : List Str} {XP : (Str → Option Value) → Heap → Prop} {YP : World → Heap → Prop} {d : DefRec} {K : Params → PySem.W.Frag} {CX : World → CXT} {sp : World → Sp} {x : Str}
    (hn : l.most = some n) (hn2 : n ≤ sizeLine) (hdf : d.params.defaults = []) (hr : Room k callerA)
    (hY : ∀ (w : World) (h : Heap), YP w h → (K w.params).In h)
    (F : ∀ (w : World) (mg : Str → Option Value) (fa : Addr) (h : Heap), (K w.params).In h → h.Ns mainGlobals mg → mg d.name = some (.ref fa) →
      ∃ fd : FuncData, (∀ (s : Shared) (u : Value), BindsTo s fd ⟨[u], []⟩ [(x, u)]) ∧
        ∀ base : Heap, (K w.params).In base → base.Ns mainGlobals mg → FnOk l.prog w (K w.params) mg base (CX w) k fa fd [x] (sp w))
    (hsp : ∀ (w : World) (H : Hp) (a : Addr) (ns : List Int), ns.length ≤ n → Only H → SqL (K w.params) H a (ns.map V.int) → sp w [.ref a] H (fun v _ => v = .bl true) fun _ _ _ => False)
    (hCX : ∀ (w : World) (H : Hp) (s : Shared) (e : Value) (s' : Shared), CX w [] H s (fun _ _ _ => False) e s' → False) :
    PySem.W.WalkO q loose XP YP l.row.toRowW d [] (fun f vs => PySem.call f vs) := by
  refine Att.attach_call hn hdf fun w s₀ s₁ mg mb fa o pm cd doc a vs ns G Y ho hd hcd hmg hobj hints hlen hg => ?_
  have KX := hY w _ Y
  obtain ⟨fd, hb, hF⟩ := F w mg fa _ KX G.T.g hmg
  exact law_call KX G.T.g G.T.b G.T.builtins G.T.nolimit hg hobj hints (Nat.le_trans hlen hn2) hr hF hb (fun H hO hS => hsp w H a ns hlen hO hS) fun H e s' => hCX w H s₁ e s'
/-- the same where the promise hangs on the written part alone: (sp := My.sp_law), no hole under a binder -/
theorem walk_ofK {l : PySem.W.OpenLaw} {n k : Nat} {q : Program} {loose : List Str} {XP : (Str → Option Value) → Heap → Prop} {YP : World → Heap → Prop} {d : DefRec} {K : Params → PySem.W.Frag} {CX : CXT} {sp : PySem.W.Frag → Sp} {x : Str}
    (hn : l.most = some n) (hn2 : n ≤ sizeLine) (hdf : d.params.defaults = []) (hr : Room k callerA)
    (hY : ∀ (w : World) (h : Heap), YP w h → (K w.params).In h)
    (F : ∀ (w : World) (mg : Str → Option Value) (fa : Addr) (h : Heap), (K w.params).In h → h.Ns mainGlobals mg → mg d.name = some (.ref fa) →
      ∃ fd : FuncData, (∀ (s : Shared) (u : Value), BindsTo s fd ⟨[u], []⟩ [(x, u)]) ∧
        ∀ base : Heap, (K w.params).In base → base.Ns mainGlobals mg → FnOk l.prog w (K w.params) mg base CX k fa fd [x] (sp (K w.params)))
    (hsp : ∀ (K : PySem.W.Frag) (H : Hp) (a : Addr) (ns : List Int), ns.length ≤ n → Only H → SqL K H a (ns.map V.int) → sp K [.ref a] H (fun v _ => v = .bl true) fun _ _ _ => False)
    (hCX : ∀ (H : Hp) (s : Shared) (e : Value) (s' : Shared), CX [] H s (fun _ _ _ => False) e s' → False) :
    PySem.W.WalkO q loose XP YP l.row.toRowW d [] (fun f vs => PySem.call f vs) :=
  walk_of (K := K) (CX := fun _ => CX) (sp := fun w => sp (K w.params)) hn hn2 hdf hr hY F (fun w H a ns h1 h2 h3 => hsp (K w.params) H a ns h1 h2 h3) fun _ H s e s' => hCX H s e s'
end L2



/-! SHORT WORDS over the layer: a def of the text, its body, what a loop and a test want. -/
namespace L2
open PySem PySem.Spec PyProof.Rows

/-! ### the text by places -/
/-- the j-th statement of a class's body -/
def inClass (s : Stmt) (j : Nat) : Stmt := match s with
  | .ClassDef _ _ _ body _ _ _ _ _ _ _ => body.getD j (.Pass ⟨0, 0, 0, 0⟩)
  | _ => .Pass ⟨0, 0, 0, 0⟩
def defArgs (s : Stmt) : Arguments := match s with
  | .FunctionDef _ a _ _ _ _ _ _ _ _ => a
  | _ => { posonlyargs := [], args := [], vararg := none, kwonlyargs := [], kw_defaults := [], kwarg := none, defaults := [] }
def defBody (s : Stmt) : List Stmt := match s with
  | .FunctionDef _ _ b _ _ _ _ _ _ _ => b
  | _ => []
def defScope (s : Stmt) : Scope := match s with
  | .FunctionDef _ _ _ _ _ _ sc _ _ _ => sc
  | _ => { kind := .function, names := [], isGenerator := false, isCoroutine := false }

/-! ### no exception leaves a def -/
abbrev CX0 : CXT := fun _ _ _ _ _ _ => False
abbrev E0 : XK := fun _ _ _ => False
theorem pass0 {X : Cx} : Passes CX0 X E0 := fun _ _ _ _ _ _ _ h => h.elim

/-! ### a def (or method) of the text as it stands behind the top -/
structure Fun (K : PySem.W.Frag) (x qual : Str) (st : Stmt) (f : Addr) (fd : FuncData) : Prop where
  ex : ∃ (oc : Value) (od : Option Addr) (kV doc pm : Value) (an : Option Addr) (cdv ct : Value) (osl : Array (Option Value)),
    fd = PySem.W.fnOf x qual (defArgs st) (defBody st) (defScope st) .none kV doc pm an cdv ct ∧ K.lookup f = some ⟨oc, od, .func fd, osl⟩ ∧ PySem.W.codeIn K cdv qual = true
  kp : PySem.W.keepIn K (.ref f) = true
section
variable {P : Program} {w : World} {K : PySem.W.Frag} {mg : Str → Option Value} {base : Heap}
/-- THE RULE for a def: its body as a term of rules, and the reading of that term -/
theorem Fun.ok {x qual : Str} {st : Stmt} {f : Addr} {fd : FuncData} {N ps : List Str} {k : Nat} {sp : Sp} (F : Fun K x qual st f fd) (S : FnScope N ps (defScope st)) (len : ∀ vs H Q E, sp vs H Q E → vs.length = ps.length)
    (hbody : ∀ (cdv : Value) (A : Around) (outer : List Env) (s : Shared) (H : Hp) (vs : List V) (Q : VK) (E : XK), Room k (A.deeper (envOfC qual (defScope st) s.heap.objs.size f cdv)) → sp vs H Q E →
      ∃ t, PSs (cxOf CX0 P w K mg base N qual (defScope st) f cdv A outer s H E).nox (defBody st) t ∧ t { nx := fun _ H' => Q .non H', rt := Q } (start N vs) H) : FnOk P w K mg base CX0 (k + 1) f fd ps sp := by
  obtain ⟨oc, od, kV, doc, pm, an, cdv, ct, osl, rfl, lk, hcd⟩ := F.ex
  refine fn_of lk hcd S len fun A outer s H vs Q E hr hsp => ?_
  obtain ⟨t, h, q⟩ := hbody cdv A outer s H vs Q E hr hsp
  exact ⟨t, h.nox, q⟩
/-- how its arguments bind (no defaults): h is «fun _ _ _ _ _ _ us hl => match us, hl with | [_, _], _ => rfl», one _ a parameter -/
theorem Fun.binds {x qual : Str} {st : Stmt} {f : Addr} {fd : FuncData} {ps : List Str} (F : Fun K x qual st f fd)
    (h : ∀ (kV doc pm : Value) (an : Option Addr) (cdv ct : Value) (us : List Value), us.length = ps.length → bindArgs (PySem.W.fnOf x qual (defArgs st) (defBody st) (defScope st) .none kV doc pm an cdv ct) ⟨us, []⟩ = pure (ps.zip us)) : Binds K fd ps [] := by
  obtain ⟨oc, od, kV, doc, pm, an, cdv, ct, osl, rfl, lk, hcd⟩ := F.ex
  exact .all (h kV doc pm an cdv ct)
theorem fun_mk {x qual : Str} {st : Stmt} {f : Addr} {oc : Value} {od an : Option Addr} {osl : Array (Option Value)} {kV doc pm cdv ct : Value} (l : K.lookup f = some ⟨oc, od, .func (PySem.W.fnOf x qual (defArgs st) (defBody st) (defScope st) .none kV doc pm an cdv ct), osl⟩)
    (c : PySem.W.codeIn K cdv qual = true) (k : PySem.W.keepIn K (.ref f) = true) : Fun K x qual st f (PySem.W.fnOf x qual (defArgs st) (defBody st) (defScope st) .none kV doc pm an cdv ct) := ⟨⟨oc, od, kV, doc, pm, an, cdv, ct, osl, rfl, l, c⟩, k⟩
end
theorem hu_of {A : Around} {k : Nat} (hr : Room k A) : A.units + 1 < cLine := Nat.lt_of_le_of_lt (Nat.add_le_add_left (by decide : 1 ≤ 64) _) hr.units
theorem small1000 {n : Nat} (h : n ≤ 1000) : n < sizeLine := Nat.lt_of_le_of_lt h (by decide)

/-! ### expressions in short: the name that stands in the i-th slot -/
section
variable {X : Cx}
theorem pv (i : Nat) {x : Str} {pos : Pos} (hN : X.N[i]? = some x := by rfl) (hv : Vis X.env.scope x := by first | exact Or.inl rfl | exact Or.inr (Or.inl rfl) | exact Or.inr (Or.inr rfl)) (hd : (x == ("__debug__" : Str)) = false := by decide)
    (hcd : (x == ("__classdict__" : Str)) = false := by decide) : PE X (.Name x pos) (tVar i) := pe_var hN hv hd hcd
end

/-! ### tests -/
theorem iteF {A B : Prop} (h : B) : if false = true then A else B := by
  rw [if_neg Bool.false_ne_true]
  exact h
theorem iteT {A B : Prop} (h : A) : if true = true then A else B := by
  rw [if_pos rfl]
  exact h
theorem ite2 {c A B : Prop} [Decidable c] (h1 : c → A) (h2 : ¬ c → B) : if c then A else B := by
  by_cases h : c
  · rw [if_pos h]
    exact h1 h
  · rw [if_neg h]
    exact h2 h
theorem iteNS {c A B : Prop} [Decidable c] (hc : c) (h : B) : if (!decide c) = true then A else B := by
  rw [decide_eq_true hc]
  exact iteF h

/-! ### heaps -/
/-- all that was tracked is as it was -/
def Same (H H' : Hp) : Prop := ∀ b o, H b = some o → H' b = some o
theorem Same.refl (H : Hp) : Same H H := fun _ _ h => h
theorem Same.trans {H H1 H2 : Hp} (a : Same H H1) (b : Same H1 H2) : Same H H2 := fun c o h => b c o (a c o h)
theorem Same.free {H H' : Hp} (e : Same H H') {l : Addr} (h : H' l = Option.none) : H l = Option.none := by
  cases q : H l with
  | none => rfl
  | some o =>
    rw [e l o q] at h
    cases h
theorem Same.seq {K : PySem.W.Frag} {H H' : Hp} {a : Addr} {xs : List V} (e : Same H H') (h : SqL K H a xs) : SqL K H' a xs := by
  rcases h with (h | ⟨o, h⟩) | h
  · exact .inl (.inl (e _ _ h))
  · exact .inl (.inr ⟨o, e _ _ h⟩)
  · exact .inr h

end L2

namespace L2
open PySem PySem.Spec PyProof.Rows
section
variable {X : Cx}
/-- len of a dict -/
theorem call_lenD : CallR X (.builtin "len") (fun xs H Q => ∃ a kvs, xs = [V.ref a] ∧ H a = some (.dK kvs) ∧ Q (.int kvs.length) H) := by
  intro pins s σ H xs us Q I r h
  obtain ⟨a, kvs, rfl, ha, q⟩ := h
  obtain ⟨u, rfl, ru⟩ := vals1 r
  cases ru
  exact d_len I (.inl ha) fun t s' I' => ⟨.int kvs.length, H, I', ⟨t, rfl⟩, q⟩
end
/-! ### a dict's pairs: keys that differ -/
section
variable {κ : Type} [DecidableEq κ]
theorem valV_not {kvs : List (κ × V)} {k : κ} (h : valV kvs k = none) : ¬ k ∈ kvs.map (·.1) := by
  intro m
  obtain ⟨p, hp, e⟩ := List.mem_map.mp m
  have q : (kvs.any fun kv => decide (kv.1 = k)) = true := List.any_eq_true.mpr ⟨p, hp, decide_eq_true e⟩
  rw [valV_any, h] at q
  exact absurd q (by simp)
theorem valV_in {kvs : List (κ × V)} {k : κ} {v : V} (h : valV kvs k = some v) : k ∈ kvs.map (·.1) := by
  have q : (kvs.any fun kv => decide (kv.1 = k)) = true := by
    rw [valV_any, h]
    all_goals rfl
  obtain ⟨p, hp, e⟩ := List.any_eq_true.mp q
  exact List.mem_map.mpr ⟨p, hp, of_decide_eq_true e⟩
theorem nd_snoc : ∀ {l : List κ} {k : κ}, l.Nodup → ¬ k ∈ l → (l ++ [k]).Nodup
  | [], k, _, _ => by simp
  | a :: r, k, h, hk => by
    obtain ⟨h1, h2⟩ := List.nodup_cons.mp h
    show (a :: (r ++ [k])).Nodup
    refine List.nodup_cons.mpr ⟨fun m => ?_, nd_snoc h2 fun m => hk (List.mem_cons.mpr (Or.inr m))⟩
    rcases List.mem_append.mp m with q | q
    · exact h1 q
    · exact hk (List.mem_cons.mpr (Or.inl (List.mem_singleton.mp q).symm))
theorem nd_putK {kvs : List (κ × V)} {k : κ} (v : V) (hn : (kvs.map (·.1)).Nodup) (h : valV kvs k = none) : ((putK kvs k v).map (·.1)).Nodup := by
  rw [putK_new v h, List.map_append]
  exact nd_snoc hn (valV_not h)
theorem dropK_pos {p : κ × V} {r : List (κ × V)} {k : κ} (e : p.1 = k) : dropK (p :: r) k = dropK r k := by
  unfold dropK
  rw [List.filter_cons, if_neg (by simp [e])]
theorem dropK_neg {p : κ × V} {r : List (κ × V)} {k : κ} (e : ¬ p.1 = k) : dropK (p :: r) k = p :: dropK r k := by
  unfold dropK
  rw [List.filter_cons, if_pos (by simp [e])]
theorem dropK_no : ∀ {kvs : List (κ × V)} {k : κ}, ¬ k ∈ kvs.map (·.1) → dropK kvs k = kvs
  | [], _, _ => rfl
  | p :: r, k, h => by
    have h' : ¬ k ∈ r.map (·.1) := fun m => by
      obtain ⟨q, hq, e⟩ := List.mem_map.mp m
      exact h (List.mem_map.mpr ⟨q, List.mem_cons.mpr (Or.inr hq), e⟩)
    rw [dropK_neg fun e => h (List.mem_map.mpr ⟨p, List.mem_cons.mpr (Or.inl rfl), e⟩), dropK_no h']
theorem dropK_mem {kvs : List (κ × V)} {k : κ} {p : κ × V} (h : p ∈ dropK kvs k) : p ∈ kvs := (List.mem_filter.mp h).1
theorem nd_dropK : ∀ {kvs : List (κ × V)} {k : κ}, (kvs.map (·.1)).Nodup → ((dropK kvs k).map (·.1)).Nodup
  | [], _, _ => List.nodup_nil
  | p :: r, k, h => by
    have h : (p.1 :: r.map (·.1)).Nodup := h
    obtain ⟨h1, h2⟩ := List.nodup_cons.mp h
    by_cases e : p.1 = k
    · rw [dropK_pos e]
      exact nd_dropK h2
    · rw [dropK_neg e]
      show (p.1 :: (dropK r k).map (·.1)).Nodup
      refine List.nodup_cons.mpr ⟨fun m => h1 ?_, nd_dropK h2⟩
      obtain ⟨q, hq, eq⟩ := List.mem_map.mp m
      exact List.mem_map.mpr ⟨q, dropK_mem hq, eq⟩
theorem dropK_len : ∀ {kvs : List (κ × V)} {k : κ}, (kvs.map (·.1)).Nodup → k ∈ kvs.map (·.1) → (dropK kvs k).length + 1 = kvs.length
  | [], _, _, m => by simp at m
  | p :: r, k, h, m => by
    have h : (p.1 :: r.map (·.1)).Nodup := h
    have m : k = p.1 ∨ k ∈ r.map (·.1) := List.mem_cons.mp m
    obtain ⟨h1, h2⟩ := List.nodup_cons.mp h
    by_cases e : p.1 = k
    · subst e
      rw [dropK_pos rfl, dropK_no h1]
      all_goals rfl
    · have m' : k ∈ r.map (·.1) := m.resolve_left fun z => e z.symm
      have q := dropK_len h2 m'
      rw [dropK_neg e, List.length_cons, List.length_cons]
      omega
end
end L2

namespace RW
/-- all hours of a span told one by one -/
def hrs (a b w : Int) : List Int := (List.range w.toNat).flatMap fun (i : Nat) => (List.range (b - a).toNat).map fun (j : Nat) => a + (j : Int) + 168 * (i : Int)
theorem mem_hrs {a b w h : Int} : h ∈ hrs a b w ↔ ∃ i j : Nat, (i : Int) < w ∧ a + (j : Int) < b ∧ h = a + (j : Int) + 168 * (i : Int) := by
  unfold hrs
  simp only [List.mem_flatMap, List.mem_range, List.mem_map]
  constructor
  · rintro ⟨i, hi, j, hj, rfl⟩
    exact ⟨i, j, by omega, by omega, rfl⟩
  · rintro ⟨i, j, hi, hj, rfl⟩
    exact ⟨i, by omega, j, by omega, rfl⟩
theorem mem_hrs' {a b w h : Int} : h ∈ hrs a b w ↔ ∃ i : Int, 0 ≤ i ∧ i < w ∧ a + 168 * i ≤ h ∧ h < b + 168 * i := by
  rw [mem_hrs]
  constructor
  · rintro ⟨i, j, hi, hj, rfl⟩
    exact ⟨i, by omega, by omega, by omega, by omega⟩
  · rintro ⟨i, h0, hi, h1, h2⟩
    exact ⟨i.toNat, (h - a - 168 * i).toNat, by omega, by omega, by omega⟩
theorem len_flat {α β : Type} (f : α → List β) (n : Nat) : ∀ l : List α, (∀ x ∈ l, (f x).length = n) → (l.flatMap f).length = l.length * n
  | [], _ => by simp
  | x :: l, h => by
    rw [List.flatMap_cons, List.length_append, len_flat f n l (fun y hy => h y (List.mem_cons_of_mem _ hy)), h x List.mem_cons_self, List.length_cons, Nat.succ_mul]
    omega
theorem len_hrs (a b w : Int) : (hrs a b w).length = w.toNat * (b - a).toNat := by
  unfold hrs
  rw [len_flat _ (b - a).toNat _ (fun x _ => by simp)]
  simp
def hasB (a b w h : Int) : Bool :=
  decide ((if (h - b) / 168 + 1 > 0 then (h - b) / 168 + 1 else 0) ≤ (if (h - a) / 168 < w - 1 then (h - a) / 168 else w - 1))
theorem hasB_iff (a b w h : Int) : hasB a b w h = true ↔ h ∈ hrs a b w := by
  rw [mem_hrs']
  unfold hasB
  rw [decide_eq_true_eq]
  constructor
  · intro q
    refine ⟨if (h - b) / 168 + 1 > 0 then (h - b) / 168 + 1 else 0, ?_, ?_, ?_, ?_⟩ <;> split at q <;> split at q <;> split <;> omega
  · rintro ⟨i, h0, hi, h1, h2⟩
    split <;> split <;> omega
def emptyB (a b w : Int) : Bool := decide (b ≤ a) || decide (w < 1)
def meetB (a b w c d v : Int) : Bool :=
  if emptyB a b w || emptyB c d v then false else
  decide ((if (c - b) / 168 + 1 > 1 - v then (c - b) / 168 + 1 else 1 - v) ≤ (if (d - a - 1) / 168 < w - 1 then (d - a - 1) / 168 else w - 1))
theorem meetB_iff (a b w c d v : Int) : meetB a b w c d v = true ↔ ∃ h, h ∈ hrs a b w ∧ h ∈ hrs c d v := by
  unfold meetB emptyB
  constructor
  · intro q
    split at q
    · cases q
    · rename_i e
      simp only [Bool.or_eq_true, decide_eq_true_eq, not_or] at e
      rw [decide_eq_true_eq] at q
      -- the number of weeks apart
      have : ∃ m : Int, 1 - v ≤ m ∧ (c - b) / 168 + 1 ≤ m ∧ m ≤ w - 1 ∧ m ≤ (d - a - 1) / 168 := by
        refine ⟨if (c - b) / 168 + 1 > 1 - v then (c - b) / 168 + 1 else 1 - v, ?_, ?_, ?_, ?_⟩ <;> split at q <;> split at q <;> split <;> omega
      obtain ⟨m, h1, h2, h3, h4⟩ := this
      -- weeks i of the one, i - m of the other
      have : ∃ i j : Int, 0 ≤ i ∧ i < w ∧ 0 ≤ j ∧ j < v ∧ i - j = m := by
        by_cases hm : 0 ≤ m
        · exact ⟨m, 0, by omega, by omega, by omega, by omega, by omega⟩
        · exact ⟨0, -m, by omega, by omega, by omega, by omega, by omega⟩
      obtain ⟨i, j, i0, i1, j0, j1, ij⟩ := this
      refine ⟨if a + 168 * i ≤ c + 168 * j then c + 168 * j else a + 168 * i, mem_hrs'.mpr ⟨i, i0, i1, ?_, ?_⟩, mem_hrs'.mpr ⟨j, j0, j1, ?_, ?_⟩⟩ <;> split <;> omega
  · rintro ⟨h, h1, h2⟩
    obtain ⟨i, i0, i1, i2, i3⟩ := mem_hrs'.mp h1
    obtain ⟨j, j0, j1, j2, j3⟩ := mem_hrs'.mp h2
    rw [if_neg (by simp only [Bool.or_eq_true, decide_eq_true_eq, not_or]; omega), decide_eq_true_eq]
    split <;> split <;> omega
/-- moved by whole weeks -/
theorem hrs_shift (a b w f h : Int) : h + f ∈ hrs (a + f) (b + f) w ↔ h ∈ hrs a b w := by
  rw [mem_hrs', mem_hrs']
  constructor
  · rintro ⟨i, h0, hi, h1, h2⟩
    exact ⟨i, h0, hi, by omega, by omega⟩
  · rintro ⟨i, h0, hi, h1, h2⟩
    exact ⟨i, h0, hi, by omega, by omega⟩
theorem hasB_shift (a b w f h : Int) : hasB (a + f) (b + f) w (h + f) = hasB a b w h := by
  have := hasB_iff (a + f) (b + f) w (h + f)
  have := hasB_iff a b w h
  have := hrs_shift a b w f h
  cases e : hasB (a + f) (b + f) w (h + f) <;> cases e' : hasB a b w h <;> simp_all
theorem meetB_shift (a b w c d v f : Int) : meetB (a + f) (b + f) w (c + f) (d + f) v = meetB a b w c d v := by
  rw [Bool.eq_iff_iff, meetB_iff, meetB_iff]
  constructor
  · rintro ⟨h, h1, h2⟩
    refine ⟨h - f, (hrs_shift a b w f _).mp ?_, (hrs_shift c d v f _).mp ?_⟩ <;> rw [Int.sub_add_cancel] <;> assumption
  · rintro ⟨h, h1, h2⟩
    exact ⟨h + f, (hrs_shift ..).mpr h1, (hrs_shift ..).mpr h2⟩
theorem meetB_comm (a b w c d v : Int) : meetB c d v a b w = meetB a b w c d v := by
  rw [Bool.eq_iff_iff, meetB_iff, meetB_iff]
  constructor <;> rintro ⟨h, h1, h2⟩ <;> exact ⟨h, h2, h1⟩
end RW
namespace RW
def rowH (a : Int) (i j : Nat) : List Int := (List.range j).map fun (j : Nat) => a + (j : Int) + 168 * (i : Int)
def hrsN (a b : Int) (n : Nat) : List Int := (List.range n).flatMap fun (i : Nat) => rowH a i (b - a).toNat
theorem hrs_eq (a b w : Int) : hrs a b w = hrsN a b w.toNat := rfl
theorem hrsN_zero (a b : Int) : hrsN a b 0 = [] := rfl
theorem hrsN_succ (a b : Int) (n : Nat) : hrsN a b (n + 1) = hrsN a b n ++ rowH a n (b - a).toNat := by
  unfold hrsN
  rw [List.range_succ, List.flatMap_append]
  simp
theorem rowH_succ (a : Int) (i j : Nat) : rowH a i (j + 1) = rowH a i j ++ [a + (j : Int) + 168 * (i : Int)] := by
  unfold rowH
  rw [List.range_succ, List.map_append]
  rfl
theorem len_rowH (a : Int) (i j : Nat) : (rowH a i j).length = j := by simp [rowH]
theorem len_hrsN (a b : Int) (n : Nat) : (hrsN a b n).length = n * (b - a).toNat := by
  unfold hrsN
  rw [len_flat _ (b - a).toNat _ (fun x _ => len_rowH _ _ _)]
  simp
/-- what a span of the law's may be -/
def Bd (a b w : Int) : Prop := 0 ≤ a ∧ a ≤ 2000 ∧ a < b ∧ b ≤ a + 168 ∧ 1 ≤ w ∧ w ≤ 40
theorem Bd.size {a b w : Int} (h : Bd a b w) : w.toNat * (b - a).toNat ≤ 6720 := by
  obtain ⟨h1, h2, h3, h4, h5, h6⟩ := h
  exact Nat.le_trans (Nat.mul_le_mul (show w.toNat ≤ 40 by omega) (show (b - a).toNat ≤ 168 by omega)) (by decide)
theorem any_due (a b w c d v : Int) : ((hrs c d v).any fun h => decide (h ∈ hrs a b w)) = meetB a b w c d v := by
  rw [Bool.eq_iff_iff, meetB_iff, List.any_eq_true]
  constructor
  · rintro ⟨h, h1, h2⟩
    exact ⟨h, of_decide_eq_true h2, h1⟩
  · rintro ⟨h, h1, h2⟩
    exact ⟨h, h2, decide_eq_true h1⟩
theorem hasB_dec (a b w h : Int) : hasB a b w h = decide (h ∈ hrs a b w) := by
  rw [Bool.eq_iff_iff, hasB_iff, decide_eq_true_iff]
end RW

namespace L2
open PySem PySem.Spec PyProof.Rows
/-! ### a def of the text by its name -/
structure Fn (P : Program) (w : World) (K : PySem.W.Frag) (mg : Str → Option Value) (base : Heap) (j : Nat) (x : Str) (ps : List Str) (sp : Sp) : Prop where
  ex : ∃ f fd, FnOk P w K mg base CX0 j f fd ps sp ∧ mg x = some (.ref f) ∧ PySem.W.keepIn K (.ref f) = true ∧ Binds K fd ps []
section
variable {X : Cx} {x : Str} {p pos : Pos} {e : Expr} {es : List Expr} {t : TA} {j k : Nat} {ps : List Str} {sp : Sp}
theorem pe_fn (F : Fn X.prog X.w X.K X.mg X.base j x ps sp) (hr : Room k X.A) (ha : PA X (e :: es) t) (hj : j ≤ k := by decide) (hg : Gl X x := by rfl) (hdb : (x == ("__debug__" : Str)) = false := by decide)
    (he : starEach (e :: es) X.env = (false, eval e X.env) :: starEach es X.env := by rfl) (hpl : (backTo pos (starEach es X.env)).any (·.1) = false := by rfl) : PE X (.Call (.Name x p) (e :: es) [] pos) (tCall sp [] E0 t) := by
  obtain ⟨f, fd, F, hm, hk, hb⟩ := F.ex
  exact pe_call F (hr.mono hj) hg hm hk hb .nil pass0 ha hdb he hpl
/-- a whole number of the module's -/
theorem pe_gint {n : Int} (h : ∃ u, X.mg x = some (.int n u)) (hg : Gl X x := by rfl) (hd : (x == ("__debug__" : Str)) = false := by decide) : PE X (.Name x pos) (tC (.int n)) := by
  obtain ⟨u, h⟩ := h
  exact pe_glob hg h ⟨u, rfl⟩ hd
/-- a built-in type's name -/
theorem pe_gty {T : String} (hm : X.mg x = none) (hv : bootBuiltins x = some (.type T)) (hg : Gl X x := by rfl) (hn : x ≠ "__name__" := by decide) (hd : (x == ("__debug__" : Str)) = false := by decide) : PE X (.Name x pos) (tC (.ty T)) :=
  pe_bltn hg hm hv rfl hn hd
/-- isinstance(x, T), T a built-in type -/
theorem call_isin : CallR X (.builtin "isinstance") (fun xs H Q => ∃ x T t b, xs = [x, .ty T] ∧ TyOf X.K H x t ∧ PySem.W.kitOne X.K t (.type T) = some b ∧ Q (.bl b) H) := by
  intro pins s σ H xs us Q I r h
  obtain ⟨x, T, t, b, rfl, ty, e, q⟩ := h
  obtain ⟨u, v, rfl, rx, rt⟩ := vals2 r
  cases (show v = Value.type T from rt)
  exact isinst_ok I rx ty e fun tk => ⟨.bl b, H, I.tok tk, rfl, q⟩
end
theorem bt_bool : bootBuiltins "bool" = some (.type "bool") := by decide +kernel
theorem bt_int : bootBuiltins "int" = some (.type "int") := by decide +kernel
theorem bt_str : bootBuiltins "str" = some (.type "str") := by decide +kernel
theorem bt_list : bootBuiltins "list" = some (.type "list") := by decide +kernel
theorem bt_tuple : bootBuiltins "tuple" = some (.type "tuple") := by decide +kernel
/-! ### heaps that grow -/
theorem Same.new {H : Hp} {p : Addr} {o : HO} (h : H p = none) : Same H (upd H p o) := fun b u e => by
  rw [upd_ne (ne_of_none e h)]; exact e
theorem Same.put {H H1 : Hp} {p : Addr} {o : HO} (s : Same H H1) (h : H p = none) : Same H (upd H1 p o) := fun b u e => by
  rw [upd_ne (ne_of_none e h)]; exact s b u e
theorem Same.tup {K : PySem.W.Frag} {H H' : Hp} {a : Addr} {xs : List V} (e : Same H H') (h : SqT K H a xs) : SqT K H' a xs := by
  rcases h with (h | ⟨o, h⟩) | h
  · exact .inl (.inl (e _ _ h))
  · exact .inl (.inr ⟨o, e _ _ h⟩)
  · exact .inr h
theorem len2 : 2 ≤ sizeLine := by decide
theorem len3 : 3 ≤ sizeLine := by decide
theorem len5 : 5 ≤ sizeLine := by decide
theorem lt6 : 5 < sizeLine := by decide
theorem lt6' : 6 < sizeLine := by decide
theorem small_of {n : Nat} (h : n ≤ 1000000) : n < sizeLine := Nat.lt_of_le_of_lt h (by decide)
end L2
namespace L2
/-- a cut between two statements: what is to hold there -/
theorem seq_at {t u : TS} {D : Ends} {σ : St} {H : Hp} (Pv : St → Hp → Prop) (h1 : ∀ M : St → Hp → Prop, (∀ σ' H', Pv σ' H' → M σ' H') → t { D with nx := M } σ H) (h2 : ∀ σ' H', Pv σ' H' → u D σ' H') : tSeq t u D σ H := h1 (u D) h2
theorem cut_all {xs : List V} {n : Nat} (h : xs.length ≤ n) : cutV xs none (some (n : Int)) = xs := by
  unfold cutV
  rw [HT.sIx_none, HT.sIx_nat, List.drop_zero, Nat.sub_zero, Nat.min_eq_right h, List.take_length]
theorem cut_1000 {xs : List V} (h : xs.length ≤ 1000) : cutV xs none (some 1000) = xs := cut_all (n := 1000) h
theorem kit_self {K : PySem.W.Frag} {T : String} : PySem.W.kitOne K (.type T) (.type T) = some true := if_pos (by simp)
end L2
namespace L2
open PySem PySem.Spec PyProof.Rows
/-! ### a def as the top has written it -/
structure FunAt (K : PySem.W.Frag) (x : Str) (st : Stmt) : Prop where
  ex : ∃ (f : Addr) (oc : Value) (od : Option Addr) (kV doc pm : Value) (an : Option Addr) (cdv ct : Value) (osl : Array (Option Value)), PySem.W.nsIn K mainGlobals x = some (some (.ref f)) ∧
    K.lookup f = some ⟨oc, od, .func (PySem.W.fnOf x x (defArgs st) (defBody st) (defScope st) .none kV doc pm an cdv ct), osl⟩ ∧ PySem.W.codeIn K cdv x = true ∧ PySem.W.keepIn K (.ref f) = true
theorem fun_at {K : PySem.W.Frag} {x : Str} {st : Stmt} {f : Addr} {oc : Value} {od : Option Addr} {kV doc pm : Value} {an : Option Addr} {cdv ct : Value} {osl : Array (Option Value)} (a : PySem.W.nsIn K mainGlobals x = some (some (.ref f)))
    (l : K.lookup f = some ⟨oc, od, .func (PySem.W.fnOf x x (defArgs st) (defBody st) (defScope st) .none kV doc pm an cdv ct), osl⟩) (c : PySem.W.codeIn K cdv x = true) (k : PySem.W.keepIn K (.ref f) = true) : FunAt K x st := ⟨f, oc, od, kV, doc, pm, an, cdv, ct, osl, a, l, c, k⟩
theorem FunAt.fn {P : Program} {w : World} {K : PySem.W.Frag} {mg : Str → Option Value} {base h : Heap} {x : Str} {st : Stmt} {j : Nat} {ps : List Str} {sp : Sp} (A : FunAt K x st) (X : K.In h) (G : h.Ns mainGlobals mg)
    (ok : ∀ f fd, Fun K x x st f fd → FnOk P w K mg base CX0 j f fd ps sp)
    (b : ∀ (kV doc pm : Value) (an : Option Addr) (cdv ct : Value) (us : List Value), us.length = ps.length → bindArgs (PySem.W.fnOf x x (defArgs st) (defBody st) (defScope st) .none kV doc pm an cdv ct) ⟨us, []⟩ = pure (ps.zip us)) : Fn P w K mg base j x ps sp := by
  obtain ⟨f, oc, od, kV, doc, pm, an, cdv, ct, osl, a, l, c, k⟩ := A.ex
  have F := fun_mk (st := st) l c k
  exact ⟨f, _, ok f _ F, PySem.W.mg_of X G a, k, F.binds b⟩
theorem FunAt.law {K : PySem.W.Frag} {mg : Str → Option Value} {h : Heap} {x y : Str} {st : Stmt} {fa : Addr} (A : FunAt K x st) (X : K.In h) (G : h.Ns mainGlobals mg) (e : mg x = some (.ref fa))
    (b : ∀ (kV doc pm : Value) (an : Option Addr) (cdv ct v : Value), bindArgs (PySem.W.fnOf x x (defArgs st) (defBody st) (defScope st) .none kV doc pm an cdv ct) ⟨[v], []⟩ = pure [(y, v)]) :
    ∃ fd : FuncData, (∀ (s : Shared) (v : Value), BindsTo s fd ⟨[v], []⟩ [(y, v)]) ∧ Fun K x x st fa fd := by
  obtain ⟨f, oc, od, kV, doc, pm, an, cdv, ct, osl, a, l, c, k⟩ := A.ex
  have e' := e.symm.trans (PySem.W.mg_of X G a)
  cases e'
  exact ⟨_, fun s v => .of_eq (b _ _ _ _ _ _ _), fun_mk (st := st) l c k⟩
end L2
namespace L2
theorem set_go {i : Nat} {v : V} {σ : St} {H : Hp} {Q : St → Hp → Prop} (h : Q (σ.set i (some v)) H) : gName i v σ H Q := h
end L2

namespace L2
open PySem PySem.Spec PyProof.Rows
/-! ### exceptions: how they lie, how they leave a frame -/
section
variable {P : Program} {w : World} {H : Hp} {h : Heap} {a : Addr} {o : HO}
theorem ObjOk.there (x : ObjOk P w H h a o) : ∃ ob, h.get? a = some ob := by
  cases o with
  | lst xs => obtain ⟨_, _, _, _, e⟩ := x; exact ⟨_, e⟩
  | tup xs => obtain ⟨_, _, _, _, e, _⟩ := x; exact ⟨_, e⟩
  | dK kvs => obtain ⟨_, _, _, _, _, _, _, e, _⟩ := x; exact ⟨_, e⟩
  | dT kvs => obtain ⟨_, _, _, _, _, _, _, e, _⟩ := x; exact ⟨_, e⟩
  | set S n => obtain ⟨_, _, _, _, e, _⟩ := x; exact ⟨_, e⟩
  | ins C dx fs => obtain ⟨_, _, _, e, _⟩ := x; exact ⟨_, e⟩
  | own y => exact x
  | xd fs => obtain ⟨_, ⟨_, _, _, e, _⟩, _⟩ := x; exact ⟨_, e⟩
  | rng lo hi => obtain ⟨_, _, _, e⟩ := x; exact ⟨_, e⟩
  | frz ob u => obtain ⟨e, _⟩ := x; exact ⟨_, e⟩
  | tbl ps => exact ⟨_, (show h.get? a = some _ from x)⟩
  | met f y => exact ⟨_, (show h.get? a = some _ from x)⟩
  | ext φ => obtain ⟨_, e, _⟩ := x; exact e
theorem HOk.none_of (ok : HOk P w H h) (e : h.get? a = none) : H a = none := by
  cases q : H a with
  | none => rfl
  | some u =>
    obtain ⟨ob, z⟩ := (ok a u q).there
    rw [e] at z; cases z
end
/-- an exception of the class C at e, its traceback none yet or one that no frame holds; N: the addresses that are new -/
def ExcAt (N : Addr → Prop) (h : Heap) (e : Addr) (C : Value) : Prop :=
  N e ∧ ∃ oe vs a0, h.get? e = some oe ∧ oe.cls = C ∧ oe.data = .fields vs ∧ vs[0]? = some a0 ∧
    (vs[1]? = some .none ∨ ∃ T oT ts, vs[1]? = some (.ref T) ∧ T ≠ e ∧ N T ∧ h.get? T = some oT ∧ oT.data = .fields ts ∧ ts[3]? = some .none)
theorem ExcAt.mono {N N' : Addr → Prop} {h : Heap} {e : Addr} {C : Value} (x : ExcAt N h e C) (k : ∀ b, N b → (∃ o, h.get? b = some o) → N' b) : ExcAt N' h e C := by
  obtain ⟨n, oe, vs, a0, h1, h2, h3, h4, h5⟩ := x
  refine ⟨k e n ⟨oe, h1⟩, oe, vs, a0, h1, h2, h3, h4, h5.imp id ?_⟩
  rintro ⟨T, oT, ts, q1, q2, q3, q4, q5⟩
  exact ⟨T, oT, ts, q1, q2, k T q3 ⟨oT, q4⟩, q4, q5⟩
/-- all but the frames (up to their slots) and new records are kept -/
structure KeptX (fr : List Addr) (N : Addr → Prop) (h h' : Heap) : Prop where
  keep : ∀ b o, h.get? b = some o → b ∉ fr → (¬ N b ∨ ∀ vs, o.data ≠ .fields vs) → h'.get? b = some o
  slot : ∀ b o, h.get? b = some o → b ∈ fr → ∃ sl, h'.get? b = some { o with slots := sl }
section
variable {M : Model} {A : Around} {E : Value → Shared → Prop} {s : Shared} {base : Heap} {env : Env} {outer : List Env} {L e : Addr} {C : Value} {N : Addr → Prop} {Q : Unit → Shared → Prop}
/-- the heap without the frames, the exception, its traceback -/
theorem hid_of (hl : s.heap.FunFrames base (env :: outer)) (x : ExcAt N s.heap e C) (hN : ∀ b, s.heap.get? b = none → N b) : ∃ B : Heap, B.StaysIn s.heap ∧ s.heap.FunFrames B (env :: outer) ∧ B.get? e = none ∧
    (∀ T oT ts oe vs, s.heap.get? e = some oe → oe.data = .fields vs → vs[1]? = some (.ref T) → s.heap.get? T = some oT → oT.data = .fields ts → ts[3]? = some Value.none → B.get? T = none) ∧
    ∀ h', B.StaysIn h' → (∀ b o, s.heap.get? b = some o → (∀ vs, o.data ≠ .fields vs) → ∃ sl, h'.get? b = some { o with slots := sl }) →
      KeptX (frs (env :: outer)) N s.heap h' ∧ ∀ T, B.get? T = none → T ≠ e → (∃ oT ts, h'.get? T = some oT ∧ oT.data = .fields ts) → N T := by
  obtain ⟨n, oe, vs, a0, h1, h2, h3, h4, h5⟩ := x
  have nofr : ∀ b o ws, s.heap.get? b = some o → o.data = .fields ws → b ∉ frs (env :: outer) := fun b o ws q d hb => by
    obtain ⟨_, o', ho, hnf⟩ := hl.mem hb
    rw [q] at ho; cases ho
    exact hnf ws d
  have fr : ∀ (l : List Addr) (env' : Env), env' ∈ env :: outer → ∀ a, env'.frame = some a → a ∈ frs (env :: outer) ++ l := fun l env' he a ha => List.mem_append_left _ (List.mem_filterMap.mpr ⟨env', he, ha⟩)
  have main : ∀ l : List Addr, e ∈ l → (∀ b ∈ l, N b ∧ ∃ o ws, s.heap.get? b = some o ∧ o.data = .fields ws) → ∀ h', (PySem.W.hideAll s.heap (frs (env :: outer) ++ l)).StaysIn h' → (∀ b o, s.heap.get? b = some o → (∀ vs, o.data ≠ .fields vs) → ∃ sl, h'.get? b = some { o with slots := sl }) →
      KeptX (frs (env :: outer)) N s.heap h' ∧ ∀ T, (PySem.W.hideAll s.heap (frs (env :: outer) ++ l)).get? T = none → T ≠ e → (∃ oT ts, h'.get? T = some oT ∧ oT.data = .fields ts) → N T := by
    intro l _ hlN h' st sl
    refine ⟨⟨fun b o q hb hn => ?_, fun b o q hb => ?_⟩, fun T hT _ hTf => ?_⟩
    · refine st b o (PySem.W.hideAll_get _ q fun z => ?_)
      rcases List.mem_append.mp z with z | z
      · exact hb z
      · obtain ⟨y1, o', ws, y2, y3⟩ := hlN b z
        rw [q] at y2; cases y2
        rcases hn with hn | hn
        · exact hn y1
        · exact hn ws y3
    · obtain ⟨_, o', ho, hnf⟩ := hl.mem hb
      rw [q] at ho; cases ho
      exact sl b o q hnf
    · cases q : s.heap.get? T with
      | none => exact hN T q
      | some o =>
        by_cases z : T ∈ frs (env :: outer) ++ l
        · rcases List.mem_append.mp z with z | z
          · obtain ⟨_, o', ho, hnf⟩ := hl.mem z
            rw [q] at ho; cases ho
            obtain ⟨sl', y⟩ := sl T o q hnf
            obtain ⟨oT, ts, y1, y2⟩ := hTf
            rw [y] at y1; cases y1
            exact absurd y2 (hnf ts)
          · exact (hlN T z).1
        · rw [PySem.W.hideAll_get _ q z] at hT; cases hT
  rcases h5 with h5 | ⟨T, oT, ts, q1, q2, q3, q4, q5, q6⟩
  · refine ⟨PySem.W.hideAll s.heap (frs (env :: outer) ++ [e]), fun b o q => PySem.W.of_hideAll _ q, PySem.W.funFrames_hide hl (fr _), PySem.W.hideAll_none _ (by simp), fun T oT ts oe' vs' y1 y2 y3 => ?_, main [e] (by simp) fun b hb => ?_⟩
    · rw [h1] at y1; cases y1
      rw [h3] at y2; cases y2
      rw [h5] at y3; cases y3
    · rw [List.mem_singleton.mp hb]; exact ⟨n, oe, vs, h1, h3⟩
  · refine ⟨PySem.W.hideAll s.heap (frs (env :: outer) ++ [e, T]), fun b o q => PySem.W.of_hideAll _ q, PySem.W.funFrames_hide hl (fr _), PySem.W.hideAll_none _ (by simp), fun T' oT' ts' oe' vs' y1 y2 y3 _ _ _ => ?_, main [e, T] (by simp) fun b hb => ?_⟩
    · rw [h1] at y1; cases y1
      rw [h3] at y2; cases y2
      rw [q1] at y3; cases y3
      exact PySem.W.hideAll_none _ (by simp)
    · simp only [List.mem_cons, List.not_mem_nil, or_false] at hb
      rcases hb with rfl | rfl
      · exact ⟨n, oe, vs, h1, h3⟩
      · exact ⟨q3, oT, ts, q4, q5⟩
theorem leave_gen (hfr : A.frames = some (env :: outer)) (hl : s.heap.FunFrames base (env :: outer)) (hf : env.frame = some L) (x : ExcAt N s.heap e C) (hN : ∀ b, s.heap.get? b = none → N b)
    (h : ∀ h', KeptX (frs (env :: outer)) N s.heap h' → ExcAt N h' e C → Q () { s with heap := h' }) : wpAny M A (leaving env (.ref e)) Q E s := by
  obtain ⟨B, b1, b2, b3, b4, b5⟩ := hid_of hl x hN
  obtain ⟨n, oe, vs, a0, h1, rfl, h3, h4, h5⟩ := x
  have fin : ∀ h', Heap.LeftW B (env :: outer) e oe.cls a0 s.heap h' → Q () { s with heap := h' } := by
    rintro h' ⟨k1, _, ⟨oe', vs', T, oT, ts, t1, ⟨t2, t3⟩, t4, t5, t6, t7, t8, t9, t10⟩, k4⟩
    obtain ⟨g1, g2⟩ := b5 h' k1 k4
    exact h h' g1 ⟨n, oe', vs', a0, t1, t2, t4, t3, .inr ⟨T, oT, ts, t5, t7, g2 T t6 t7 ⟨oT, ts, t8, t9⟩, t8, t9, t10⟩⟩
  rcases h5 with h5 | ⟨T, oT, ts, q1, q2, q3, q4, q5, q6⟩
  · exact wpAny_leaving_firstW hfr b2 hf h1 b1 b3 h3 h5 h4 fin
  · exact wpAny_leaving_nextW hfr b2 hf ⟨oe, vs, T, oT, ts, h1, ⟨rfl, h4⟩, h3, q1, b4 T oT ts oe vs h1 h3 q1 q4 q5 q6, q2, q4, q5, q6⟩ b1 b3 fin
end
end L2

namespace L2
open PySem PySem.Spec PyProof.Rows
/-! ### comprehensions -/
theorem wpAny_pure_then {M : Model} {A : Around} {α : Type} {E E' : Value → Shared → Prop} {s : Shared} {t : Sem Unit} {u : Sem α} {P : Unit → Shared → Prop} {Q : α → Shared → Prop} (e : t = pure ()) (h : wpAny M A t P E s) (k : P () s → wpAny M A u Q E' s) : wpAny M A u Q E' s := by
  subst e
  exact fun Γ p hΓ => k (h Γ p hΓ) Γ p hΓ
/-- the context of a comprehension's block -/
abbrev Cx.blk (X : Cx) (scope : Scope) (N' : List Str) (cl : List (Str × Addr)) (C : Addr) (fp : List Addr) (s3 : Shared) (H3 : Hp) : Cx :=
  { X with N := N', s₀ := s3, H₀ := H3, env := compEnvC scope cl C X.env, outer := X.stack, stack := X.stack, ex := fp, fn := fun _ => false, pn := [], xe := fun _ _ => False }
/-- the captured names: their cells, their places in the def's frame -/
def FvOk (X : Cx) (scope : Scope) (cl : List (Str × Addr)) : List Str → List Nat → Prop
  | [], [] => True
  | y :: r, j :: q => (X.N[j]? = some y ∧ X.env.scope.names.lookup y = some .cell ∧ ((relabel scope X.env).names.lookup y = some .cell ∨ (relabel scope X.env).names.lookup y = some .free) ∧ cl.lookup y = X.env.cells.lookup y) ∧ FvOk X scope cl r q
  | _, _ => False
def ClIn (cells : List (Str × Addr)) : List (Str × Addr) → Prop
  | [] => True
  | p :: r => cells.lookup p.1 = some p.2 ∧ ClIn cells r
theorem ClIn.look {cells : List (Str × Addr)} : ∀ {cl : List (Str × Addr)}, ClIn cells cl → ∀ {x : Str} {c : Addr}, cl.lookup x = some c → cells.lookup x = some c
  | [], _, _, _, e => by simp at e
  | (y, d) :: r, h, x, c, e => by
    rw [List.lookup_cons] at e
    cases q : x == y with
    | true => rw [q] at e; rw [beq_iff_eq.mp q]; exact h.1.trans e
    | false => rw [q] at e; exact ClIn.look h.2 e
theorem FvOk.get {X : Cx} {scope : Scope} {cl : List (Str × Addr)} : ∀ {fv : List Str} {js : List Nat}, FvOk X scope cl fv js → ∀ {i : Nat} {y : Str}, fv[i]? = some y → ∃ j, js[i]? = some j ∧ X.N[j]? = some y ∧ X.env.scope.names.lookup y = some .cell ∧ ((relabel scope X.env).names.lookup y = some .cell ∨ (relabel scope X.env).names.lookup y = some .free) ∧ cl.lookup y = X.env.cells.lookup y
  | [], [], _, i, y, e => by simp at e
  | z :: r, j :: q, h, 0, y, e => by simp at e; subst e; exact ⟨j, rfl, h.1⟩
  | z :: r, j :: q, h, i + 1, y, e => by
    obtain ⟨j', h1, h2⟩ := FvOk.get h.2 (i := i) (y := y) (by simpa using e)
    exact ⟨j', by simpa using h1, h2⟩
  | [], _ :: _, h, _, _, _ => False.elim h
  | _ :: _, [], h, _, _, _ => False.elim h
theorem FvOk.len {X : Cx} {scope : Scope} {cl : List (Str × Addr)} : ∀ {fv : List Str} {js : List Nat}, FvOk X scope cl fv js → fv.length = js.length
  | [], [], _ => rfl
  | _ :: _, _ :: _, h => by simp [FvOk.len h.2]
  | [], _ :: _, h => False.elim h
  | _ :: _, [], h => False.elim h
/-- the names' values at the block's start -/
def startC (σ : St) (js : List Nat) : St := none :: js.map fun j => (σ[j]?).join
structure CompOk (X : Cx) (scope : Scope) (x : Str) (fv : List Str) (js : List Nat) (cl : List (Str × Addr)) : Prop where
  clos : closureFor scope X.env = pure cl
  kind : scope.kind = .function
  cell : ∀ y ∈ scope.names, y.2 ≠ .cell
  names : ∀ y ∈ scope.names, y.2 = .local → scope.names.lookup y.1 = some .local
  loc : scope.names.lookup x = some .local
  fvs : FvOk X scope cl fv js
  sub : ClIn X.env.cells cl
  has : ((relabel scope X.env).names.all fun p => (p.2 != .cell && p.2 != .free) || (cl.lookup p.1).isSome) = true
  nd : (x :: fv).Nodup
theorem lookup_mem {α : Type} : ∀ {l : List (Str × α)} {x : Str} {k : α}, l.lookup x = some k → (x, k) ∈ l
  | [], _, _, e => by simp at e
  | (y, d) :: r, x, k, e => by
    rw [List.lookup_cons] at e
    cases q : x == y with
    | true => rw [q] at e; cases e; rw [beq_iff_eq.mp q]; exact List.mem_cons_self
    | false => rw [q] at e; exact List.mem_cons_of_mem _ (lookup_mem e)
section
variable {X : Cx} {scope : Scope} {x : Str} {fv : List Str} {js : List Nat} {cl : List (Str × Addr)} {pins : List (Addr × Obj)} {σ : St} {H : Hp} {s : Shared} {fp : List Addr}
theorem blk_ok (c : CompOk X scope x fv js cl) (I : Inv X pins σ H s) (hf : ∀ b ∈ fp, FpOk X pins H b) (ho : ∀ b ∈ fp, ∃ o, s.heap.get? b = some o) : (X.blk scope (x :: fv) cl s.heap.objs.size fp s H).Ok where
  mod := I.ok.mod
  kind := c.kind
  glob := I.ok.glob
  blt := I.ok.blt
  above := Nat.le_refl _
  inj := fun x y d h1 h2 => I.ok.inj x y d (c.sub.look h1) (c.sub.look h2)
  has := fun y hy => by
    have hy' : ∃ k, (relabel scope X.env).names.lookup y = some k ∧ (k = .cell ∨ k = .free) := by
      rcases hy with h | h
      · exact ⟨_, h, .inl rfl⟩
      · exact ⟨_, h, .inr rfl⟩
    obtain ⟨k, h1, h2⟩ := hy'
    have := List.all_eq_true.mp c.has (y, k) (lookup_mem h1)
    show ∃ c, cl.lookup y = some c
    rcases h2 with rfl | rfl <;> exact Option.isSome_iff_exists.mp (by simpa using this)
  cab := fun _ _ h => by cases h
  hd := I.ok.hd
  frames := I.ok.frames
  stk := .inl rfl
  exf := fun b hb => ⟨fun z => by
    obtain ⟨o, q⟩ := ho b hb
    have := Heap.lt_size q
    rw [show b = s.heap.objs.size from z] at this
    exact absurd this (Nat.lt_irrefl _), fun y d h => (hf b hb).2.2.2.2.1 y d (c.sub.look h)⟩
  bs := I.bs
  bsz := Nat.le_trans I.ok.bsz I.sz
  noex := fun b o q hb => by
    rcases (hf b hb).2.2.2.1 with z | z
    · exact I.ok.noex b o q z
    · exact absurd (Nat.lt_of_lt_of_le (Heap.lt_size q) (Nat.le_trans I.ok.bsz z)) (Nat.lt_irrefl _)
  exfs := fun b hb z => by
    rcases List.mem_cons.mp (I.stkSub b z) with z | z
    · exact (hf b hb).2.1 z
    · exact (hf b hb).2.2.1 z
  funs := I.stack
  frf := I.stkFree
theorem blk_inv (c : CompOk X scope x fv js cl) (I : Inv X pins σ H s) (hf : ∀ b ∈ fp, FpOk X pins H b) (ho : ∀ b ∈ fp, ∃ o, s.heap.get? b = some o) {h1 : Heap} {tk : Nat} {m : Str → Option Value} (hn : h1.Ns s.heap.objs.size m)
    (kp : ∀ b o, s.heap.get? b = some o → h1.get? b = some o) : Inv (X.blk scope (x :: fv) cl s.heap.objs.size fp s H) [] (startC σ js) H { s with heap := h1, toks := tk } := by
  refine ⟨blk_ok c I hf ho, rfl, I.bare, Un.kept kp, ⟨m, hn, fun i y v e1 e2 _ => ?_⟩, fun y d h => ?_, I.hok.fresh (Nat.le_refl _), fun y d h => I.freeC y d (c.sub.look h), fun p hp => (by cases hp), I.hok.kept kp, ?_⟩
  · cases i with
    | zero => cases e2
    | succ i =>
      have e1' : fv[i]? = some y := by simpa using e1
      obtain ⟨j, g1, g2, g3, g4, g5⟩ := c.fvs.get e1'
      have e2' : (js.map fun j => (σ[j]?).join)[i]? = some (some v) := by simpa [startC] using e2
      rw [List.getElem?_map, g1] at e2'
      replace e2' : some ((σ[j]?).join) = some (some v) := e2'
      have e3 : σ[j]? = some (some v) := by
        cases q : σ[j]? with
        | none => rw [q] at e2'; cases e2'
        | some w => rw [q] at e2'; exact e2'
      obtain ⟨m0, hn0, hl⟩ := I.loc
      obtain ⟨u, ru, l⟩ := hl j y v g2 e3 (.inr (.inl g3))
      refine ⟨u, ru, .inr ⟨g4, ?_⟩⟩
      rcases l with ⟨l, _⟩ | ⟨_, d, l1, o, l2, l3⟩
      · have : X.env.kindOf y = some .cell := g3
        rw [l] at this; cases this
      · exact ⟨d, g5.trans l1, o, kp _ _ l2, l3⟩
  · obtain ⟨v, o, q1, q2⟩ := I.cell y d (c.sub.look h)
    exact ⟨v, o, kp _ _ q1, q2⟩
  · show (startC σ js).length = (x :: fv).length
    simp [startC, c.fvs.len]
end
/-- the turns of a comprehension: W: the invariant by the turn and a measure; the list so far stands at p -/
def CompW (J : It) (p : Addr) (σ0 : St) (H0 : Hp) (tc : TT) (te : TE) (Q : VK) : Prop := ∃ W : Nat → Nat → St → Hp → Prop, (∃ m, W 0 m σ0 H0) ∧ ∀ i m σ' H', W i m σ' H' →
  (J.stop i H' ∧ Q (.ref p) H') ∨ (J.go i H' ∧ ∀ x H'', J.yld i H' x H'' → tc (σ'.set 0 (some x)) H'' fun b H3 => if b = true then te (σ'.set 0 (some x)) H3 fun y H4 => ∃ ys, H4 p = some (.lst ys) ∧ ys.length < sizeLine ∧ ∃ m', m' < m ∧ W (i + 1) m' (σ'.set 0 (some x)) (upd H4 p (.lst (ys ++ [y])))
    else ∃ m', m' < m ∧ W (i + 1) m' (σ'.set 0 (some x)) H3)
/-- [te for x in .. if tc] -/
def tComp (js : List Nat) (wi : TI) (tc : TT) (te : TE) : TE := fun σ H Q => wi σ H fun J H1 => ∀ p, H1 p = none → CompW J p (startC σ js) (upd H1 p (.lst [])) tc te Q
/-- the tests of a comprehension: none or one -/
def tTrue : TT := fun _ H Q => Q true H
def PTs (X : Cx) (ifs : List Expr) (tc : TT) : Prop := (ifs = [] ∧ tc = tTrue) ∨ ∃ c, ifs = [c] ∧ PT X c tc
section
variable {X : Cx} {scope : Scope} {x y : Str} {fv : List Str} {js : List Nat} {cl : List (Str × Addr)} {elt iter : Expr} {ifs : List Expr} {px py pos spos : Pos} {wi : TI} {tc : TT} {te : TE} {i : Nat}
/-- the block, to its end -/
theorem comp_run {use : Option (Value → Sem Unit)} {R : Value → Shared → Prop} (hc : X.calm = true) (c : CompOk X scope x fv js cl) (hi : PI X (.Name x px) iter wi)
    (ht : ∀ C fp s3 H3, PTs (X.blk scope (x :: fv) cl C fp s3 H3) ifs tc) (he : ∀ C fp s3 H3, PE (X.blk scope (x :: fv) cl C fp s3 H3) elt te)
    {pins : List (Addr × Obj)} {s : Shared} {σ : St} {H : Hp} {Q : VK} (I : Inv X pins σ H s) (h : tComp js wi tc te σ H Q)
    (fin : ∀ p H' C s', Inv X pins σ H' s' → Q (.ref p) H' → H' C = none → C ≠ X.env.locals → X.s₀.heap.objs.size ≤ C → (∀ z d, X.env.cells.lookup z = some d → d ≠ C) → (∀ p ∈ X.pn ++ pins, p.1 ≠ C) → (∃ m, s'.heap.Ns C m) → compPost (model X.prog X.w) X.A X.xe use R (.ref p) C (.ok .next) s')
    (hs : ∀ x, foldedSetIterable iter X.env x = pure x) :
    wpAny (model X.prog X.w) X.A (comprehension (.ListComp elt [⟨.Name x px, iter, ifs, 0⟩] scope pos) scope X.env (firstIterPos [⟨.Name x px, iter, ifs, 0⟩] pos) (newList []) false (eval iter X.env) use) R X.xe s := by
  refine wpAny_comprehension_free rfl hs c.clos c.kind c.names (thn (hi pins s σ H _ I h) fun v s1 h1 => thn h1 fun itv s2 h2 => ?_)
  obtain ⟨it, fp, tn, J, H2, e, I2, T, st2, f2, h2⟩ := h2
  subst e
  refine wpAny_newObj_type ?_
  have I3 := I2.lnew (t' := s2.toks) (ys := []) (its := []) .nil (Nat.zero_le _)
  have hp := I2.fresh
  obtain ⟨W, ⟨m0, w0⟩, turn⟩ := h2 _ hp
  have nfp : ∀ b ∈ fp, b ≠ s2.heap.objs.size := fun b hb z => by
    obtain ⟨o, q, _⟩ := T.obj _ _ st2 b hb
    have := Heap.lt_size q
    rw [z] at this; exact absurd this (Nat.lt_irrefl _)
  have f3 : ∀ b ∈ fp, FpOk X pins (upd H2 s2.heap.objs.size (.lst [])) b := fun b hb => ⟨by rw [upd_ne (nfp b hb)]; exact (f2 b hb).1, (f2 b hb).2⟩
  have k3 : ∀ b o, s2.heap.get? b = some o → (s2.heap.push { cls := .type "list", data := .seq ([] : List Value).toArray }).get? b = some o := fun b o q => Heap.get?_push_of_some _ q
  have st3 := T.keep _ _ _ st2 fun b _ o q => k3 b o q
  have o3 : ∀ b ∈ fp, ∃ o, (s2.heap.push { cls := .type "list", data := .seq ([] : List Value).toArray }).get? b = some o := fun b hb => by
    obtain ⟨o, q, _⟩ := T.obj _ _ st3 b hb
    exact ⟨o, q⟩
  generalize hH3 : upd H2 s2.heap.objs.size (.lst []) = H3 at I3 w0 f3
  generalize hs3 : ({ s2 with heap := s2.heap.push { cls := .type "list", data := .seq ([] : List Value).toArray }, toks := s2.toks } : Shared) = s3 at I3
  have hs3h : s3.heap = s2.heap.push { cls := .type "list", data := .seq ([] : List Value).toArray } := by rw [← hs3]
  rw [← hs3h] at st3 o3
  show wpAny (model X.prog X.w) X.A (newFunctionEnv scope X.env.globals cl [] X.env.qual none .none (some X.env)) _ X.xe _
  refine wpAny_newFunctionEnv c.cell (by intro y hy; simp at hy) (fun h4 hn4 hs4 => ?_) c.kind
  have k4 : ∀ b o, s3.heap.get? b = some o → h4.get? b = some o := fun b o q => hs4.extBut b o (Nat.ne_of_lt (Heap.lt_size q)) (Heap.get?_push_of_some _ q)
  have I4 := blk_inv (fp := fp) (tk := s3.toks + ([] : List (Str × Value)).length) c I3 f3 o3 hn4 k4
  have st4 := T.keep _ _ _ st3 fun b _ o q => k4 b o q
  have stat : ∀ {H' : Hp}, (∀ b ∈ fp, H' b = none) → ∀ b ∈ fp, FpOk (X.blk scope (x :: fv) cl s3.heap.objs.size fp s3 H3) [] H' b := fun hn b hb =>
    ⟨hn b hb, (I4.ok.exf b hb).1, I4.ok.exfs b hb, .inl hb, (I4.ok.exf b hb).2, fun p hp => by cases hp⟩
  have hcl : X.calm = true := hc
  -- the loop
  have loop : ∀ s5 : Shared, s5 = { s3 with heap := h4, toks := s3.toks + ([] : List (Str × Value)).length } → codeAny (model X.prog X.w) X.A (.compLoop (.ListComp elt [⟨.Name x px, iter, ifs, 0⟩] scope pos) 0 (.ref it) (.ref s2.heap.objs.size) (compEnvC scope cl s3.heap.objs.size X.env))
      (compPost (model X.prog X.w) X.A X.xe use R (.ref s2.heap.objs.size) s3.heap.objs.size) s5 := by
    rintro s5 rfl
    refine codeAny_compLoop_tests (fun n s' => ∃ i σ' H', Inv (X.blk scope (x :: fv) cl s3.heap.objs.size fp s3 H3) [] σ' H' s' ∧ tn i s'.heap ∧ (∀ b ∈ fp, H' b = none) ∧ W i n σ' H') ?_ m0 ⟨0, startC σ js, H3, I4, st4, fun b hb => (f3 b hb).1, w0⟩
    rintro n s5 ⟨i, σ5, H5, I5, st5, fr5, w5⟩
    rcases turn i n σ5 H5 w5 with ⟨stop, qn⟩ | ⟨go, step⟩
    · refine wpAny_mono (T.done (X.blk scope (x :: fv) cl s3.heap.objs.size fp s3 H3) rfl rfl rfl hcl i [] s5 σ5 H5 (fun _ _ => False) I5 (stat fr5) st5 stop) (fun r s6 ⟨hr, I6⟩ => ?_) fun _ _ z => z.elim
      subst hr
      have chk : ∀ b ∈ fp, (b ∈ X.ex ∨ X.s₀.heap.objs.size ≤ b) ∧ b ≠ X.env.locals ∧ (∀ z d, X.env.cells.lookup z = some d → d ≠ b) ∧ ∀ p ∈ X.pn ++ pins, p.1 ≠ b := fun b hb => ⟨(f3 b hb).2.2.2.1, (f3 b hb).2.1, (f3 b hb).2.2.2.2.1, (f3 b hb).2.2.2.2.2⟩
      have un : Un (frs X.stack) fp H3 H5 s3.heap s6.heap := I6.base
      obtain ⟨m6, hn6, _⟩ := I6.loc
      refine fin s2.heap.objs.size H5 s3.heap.objs.size s6 (I3.call' I6.os un I6.hok I6.bare chk) qn I6.free (fun z => ?_) I3.sz (fun z d hz => ?_) (fun p hp => ?_) ⟨m6, hn6⟩
      · have := I3.lt
        rw [← z] at this; exact absurd this (Nat.lt_irrefl _)
      · obtain ⟨v, o, q, _⟩ := I3.cell z d hz
        exact Nat.ne_of_lt (Heap.lt_size q)
      · exact Nat.ne_of_lt (Heap.lt_size (I3.pin p hp).1)
    · refine wpAny_mono (T.item (X.blk scope (x :: fv) cl s3.heap.objs.size fp s3 H3) rfl rfl rfl hcl i [] s5 σ5 H5 (fun _ _ => False) I5 (stat fr5) st5 go) (fun r s6 ⟨u, hr, h6⟩ => ?_) fun _ _ z => z.elim
      subst hr
      refine wpAny_pure_then rfl h6 fun ⟨v, H6, I6, r6, y6, st6, fr6⟩ => ?_
      have I6' := I6.pinned (stat fr6) (T.obj _ _ st6)
      have hg := pg_name (X := X.blk scope (x :: fv) cl s3.heap.objs.size fp s3 H3) (i := 0) (x := x) (pos := px) c.nd rfl (.inl (lookup_relabel_local c.loc)) (.inr (lookup_relabel_local c.loc))
      refine wpAny_mono (hg _ s6 σ5 H6 v u (fun σ' H' => σ' = σ5.set 0 (some v) ∧ H' = H6) I6' r6 ⟨rfl, rfl⟩) (fun _ s7 ⟨σ7, H7, I7, e7, e7'⟩ => ?_) fun _ _ z => z.elim
      subst e7 e7'
      have st := step v _ y6
      have tst : wpAny (model X.prog X.w) X.A (forIn ifs true fun c r => if r = true then do let ok ← isTrue c (compEnvC scope cl s3.heap.objs.size X.env) (eval c (compEnvC scope cl s3.heap.objs.size X.env)); pure (ForInStep.yield ok) else pure (ForInStep.yield r))
          (TP (X.blk scope (x :: fv) cl s3.heap.objs.size fp s3 H3) ([] ++ pinsAt fp s6.heap) (σ5.set 0 (some v)) fun b H3 => if b = true then te (σ5.set 0 (some v)) H3 fun y H4 => ∃ ys, H4 s2.heap.objs.size = some (.lst ys) ∧ ys.length < sizeLine ∧ ∃ m', m' < n ∧ W (i + 1) m' (σ5.set 0 (some v)) (upd H4 s2.heap.objs.size (.lst (ys ++ [y]))) else ∃ m', m' < n ∧ W (i + 1) m' (σ5.set 0 (some v)) H3) (fun _ _ => False) s7 := by
        rcases ht s3.heap.objs.size fp s3 H3 with ⟨e1, e2⟩ | ⟨cc, e1, e2⟩
        · subst e1
          rw [e2] at st
          exact wpAny_tests_nil ⟨_, I7, st⟩
        · subst e1
          exact wpAny_tests_one (e2 _ s7 _ _ _ I7 st)
      have again : ∀ {H8 : Hp} {s8 : Shared} {m'}, Inv (X.blk scope (x :: fv) cl s3.heap.objs.size fp s3 H3) ([] ++ pinsAt fp s6.heap) (σ5.set 0 (some v)) H8 s8 → m' < n → W (i + 1) m' (σ5.set 0 (some v)) H8 →
          ∃ m, m < n ∧ ∃ i σ' H', Inv (X.blk scope (x :: fv) cl s3.heap.objs.size fp s3 H3) [] σ' H' s8 ∧ tn i s8.heap ∧ (∀ b ∈ fp, H' b = none) ∧ W i m σ' H' := fun {H8 s8 m'} I8 hm w8 => by
        refine ⟨m', hm, i + 1, _, H8, I8.unpinned, T.keep _ _ _ st6 fun b hb o e => (I8.pin (b, o) (mem_pinsAt hb e)).1, fun b hb => ?_, w8⟩
        obtain ⟨o, e, _⟩ := T.obj _ _ st6 b hb
        exact (I8.pin (b, o) (mem_pinsAt hb e)).2.1
      refine wpAny_mono tst (fun ok s8 ⟨H8, I8, q8⟩ => ?_) fun _ _ z => z.elim
      cases ok with
      | false =>
        rw [if_neg Bool.false_ne_true] at q8 ⊢
        obtain ⟨m', hm, w8⟩ := q8
        exact again I8 hm w8
      | true =>
        rw [if_pos rfl] at q8 ⊢
        refine wpAny_mono (he s3.heap.objs.size fp s3 H3 _ s8 _ H8 _ I8 q8) (fun z s9 ⟨y9, H9, I9, r9, ys, g1, g2, m', hm, w9⟩ => ?_) fun _ _ z => z.elim
        refine wpAny_mono (mt_append (X := X.blk scope (x :: fv) cl s3.heap.objs.size fp s3 H3) _ s9 _ H9 (.ref s2.heap.objs.size) [y9] (.ref s2.heap.objs.size) [z] (fun _ H' => H' = upd H9 s2.heap.objs.size (.lst (ys ++ [y9]))) I9 rfl (.cons r9 .nil) ⟨_, ys, y9, rfl, rfl, g1, g2, rfl⟩) (fun _ s10 ⟨_, H10, I10, _, e10⟩ => ?_) fun _ _ z => z.elim
        subst e10
        exact again I10 hm w9
  exact codeAny_compStart_list (loop _ rfl) (T.self _ 0 _ _ _ st4 (loop _ rfl))
theorem pe_comp (hc : X.calm = true) (c : CompOk X scope x fv js cl) (hi : PI X (.Name x px) iter wi) (ht : ∀ C fp s3 H3, PTs (X.blk scope (x :: fv) cl C fp s3 H3) ifs tc) (he : ∀ C fp s3 H3, PE (X.blk scope (x :: fv) cl C fp s3 H3) elt te)
    (hs : ∀ x, foldedSetIterable iter X.env x = pure x := by intro _; rfl) : PE X (.ListComp elt [⟨.Name x px, iter, ifs, 0⟩] scope pos) (tComp js wi tc te) := by
  intro pins s σ H Q I h
  rw [eval_ListComp]
  exact comp_run (use := none) hc c hi ht he I h (fun p H' C s' I' q n0 n1 n2 n3 n4 ⟨m, hn⟩ => ⟨m, hn, fun h' hs' => ⟨.ref p, H', I'.turned (t' := s'.toks) (fun b o hb e => (hs'.2 b hb).trans e) n0 n1 (.inr n2) n3 n4, rfl, q⟩⟩) hs
/-- name = [..] -/
theorem ps_setComp (hc : X.calm = true) (c : CompOk X scope x fv js cl) (hi : PI X (.Name x px) iter wi) (ht : ∀ C fp s3 H3, PTs (X.blk scope (x :: fv) cl C fp s3 H3) ifs tc) (he : ∀ C fp s3 H3, PE (X.blk scope (x :: fv) cl C fp s3 H3) elt te)
    (hN : X.N.Nodup) (hi' : X.N[i]? = some y) (hx : Loc X.env.scope y) (hsw : swapsWith (.ListComp elt [⟨.Name x px, iter, ifs, 0⟩] scope pos) (some (.Name y py)) spos.line X.env = pure true) (hf : X.fn y = true ∨ X.env.scope.names.lookup y = some .local := by first | exact .inl rfl | exact .inr rfl)
    (hs : ∀ x, foldedSetIterable iter X.env x = pure x := by intro _; rfl) : PS X (.Assign [.Name y py] (.ListComp elt [⟨.Name x px, iter, ifs, 0⟩] scope pos) spos) (tAsg (tComp js wi tc te) (gName i)) := by
  intro pins s σ H D I h
  rw [exec_Assign_Name_used _ _ _ _ hsw]
  refine wpAny_bind (wpAny_standAt (wpAny_bind ?_))
  show wpAny _ X.A (do let _ ← comprehension (.ListComp elt [⟨.Name x px, iter, ifs, 0⟩] scope pos) scope X.env _ (newList []) false (eval iter X.env) (some (assign (.Name y py) X.env))) _ _ s
  refine wpAny_bind (wpAny_mono (comp_run (use := some (assign (.Name y py) X.env)) (R := fun _ s' => ∃ σ' H', Inv X pins σ' H' s' ∧ D.nx σ' H') hc c hi ht he I h (fun p H' C s' I' q n0 n1 n2 n3 n4 ⟨m, hn⟩ => ?_) hs) (fun _ s' q => wpAny_pure (wpAny_pure q)) fun _ _ z => z)
  show wpAny _ X.A (assign (.Name y py) X.env (.ref p)) _ _ s'
  refine wpAny_assign_Name (store_ok2 I' hN hi' hx (v := .ref p) rfl (fun s2 I2 hb => ?_) hf)
  obtain ⟨a, hsb, ha⟩ := hb
  have nC : C ≠ a := by
    rcases ha with rfl | ha
    · exact n1
    · exact (n3 _ _ ha).symm
  exact ⟨m, hn.sameBut hsb nC, fun h' hs' => ⟨_, H', I2.turned (t' := s2.toks) (fun b o hb e => (hs'.2 b hb).trans e) n0 n1 (.inr n2) n3 n4, q⟩⟩
end
end L2

namespace L2
open PySem PySem.Spec PyProof.Rows
/-! ### more operations: texts, equal lists, index -/
/-- these values are references to tuples -/
abbrev TupsAt (H : Hp) : List V → List (List V) → Prop := Paired fun v vs => ∃ a, v = .ref a ∧ H a = some (.tup vs)
theorem TupsAt.same {H H' : Hp} (e : Same H H') {rs : List V} {vss : List (List V)} (h : TupsAt H rs vss) : TupsAt H' rs vss := Paired.mapP h fun _ _ ⟨a, h1, h2⟩ => ⟨a, h1, e _ _ h2⟩
theorem TupsAt.get {H : Hp} : ∀ {rs : List V} {vss : List (List V)} {i : Nat} {v : V}, TupsAt H rs vss → rs[i]? = some v → ∃ a vs, v = .ref a ∧ H a = some (.tup vs) ∧ vss[i]? = some vs
  | _, _, _, _, .nil, e => by simp at e
  | _, _, 0, _, .cons ⟨a, h1, h2⟩ _, e => by simp at e; subst e; exact ⟨a, _, h1, h2, rfl⟩
  | _, _, i + 1, v, .cons _ t, e => by
    obtain ⟨a, vs, h1, h2, h3⟩ := TupsAt.get (i := i) (v := v) t (by simpa using e)
    exact ⟨a, vs, h1, h2, by simpa using h3⟩
theorem TupsAt.at {H : Hp} : ∀ {rs : List V} {vss : List (List V)} {i : Nat} {vs : List V}, TupsAt H rs vss → vss[i]? = some vs → ∃ a, rs[i]? = some (.ref a) ∧ H a = some (.tup vs)
  | _, _, _, _, .nil, e => by simp at e
  | _, _, 0, _, .cons ⟨a, h1, h2⟩ _, e => by simp at e; subst e h1; exact ⟨a, rfl, h2⟩
  | _, _, i + 1, vs, .cons _ t, e => by
    obtain ⟨a, h1, h2⟩ := TupsAt.at (i := i) (vs := vs) t (by simpa using e)
    exact ⟨a, by simpa using h1, h2⟩
theorem TupsAt.len {H : Hp} {rs : List V} {vss : List (List V)} (h : TupsAt H rs vss) : rs.length = vss.length := Paired.length h
theorem TupsAt.append {H : Hp} : ∀ {rs ts : List V} {vss wss : List (List V)}, TupsAt H rs vss → TupsAt H ts wss → TupsAt H (rs ++ ts) (vss ++ wss)
  | _, _, _, _, .nil, h => h
  | _, _, _, _, .cons a t, h => .cons a (TupsAt.append t h)
theorem TupsAt.take {H : Hp} : ∀ {rs : List V} {vss : List (List V)} (n : Nat), TupsAt H rs vss → TupsAt H (rs.take n) (vss.take n)
  | _, _, 0, _ => .nil
  | _, _, _ + 1, .nil => .nil
  | _, _, n + 1, .cons a t => .cons a (TupsAt.take n t)
theorem TupsAt.drop {H : Hp} : ∀ {rs : List V} {vss : List (List V)} (n : Nat), TupsAt H rs vss → TupsAt H (rs.drop n) (vss.drop n)
  | _, _, 0, h => h
  | _, _, _ + 1, .nil => .nil
  | _, _, n + 1, .cons _ t => TupsAt.drop n t
/-- whole numbers and texts -/
def isv : V → Bool
  | .int _ => true
  | .str _ => true
  | _ => false
theorem flat_isv {v : V} (h : isv v = true) : flatV v = true := by cases v <;> first | rfl | cases h
theorem eqV_isv {a b : V} (ha : isv a = true) (hb : isv b = true) : eqV a b = decide (a = b) := by
  cases a <;> cases ha <;> cases b <;> cases hb
  · rename_i i j; show (i == j) = _; rw [dec_int]
  · exact (decide_eq_false (fun z => by cases z)).symm
  · exact (decide_eq_false (fun z => by cases z)).symm
  · rename_i i j; show (i == j) = _; rw [dec_str]
section
variable {X : Cx} {pins : List (Addr × Obj)} {σ : St} {H : Hp} {s : Shared} {A : Around}
theorem all_range {α : Type} [DecidableEq α] : ∀ (xs ys : List α), ((List.range (min xs.length ys.length)).all (fun j => decide (xs[j]? = ys[j]?)) && xs.length == ys.length) = decide (xs = ys) := by
  intro xs ys
  rw [Bool.eq_iff_iff]
  simp only [Bool.and_eq_true, List.all_eq_true, List.mem_range, decide_eq_true_eq, beq_iff_eq]
  constructor
  · rintro ⟨h1, h2⟩
    apply List.ext_getElem?
    intro i
    by_cases hi : i < xs.length
    · exact h1 i (by omega)
    · rw [List.getElem?_eq_none (by omega), List.getElem?_eq_none (by omega)]
  · rintro rfl
    exact ⟨fun _ _ => rfl, rfl⟩
theorem eqAt_tup {a b : Addr} {vs ws : List V} (I : Inv X pins σ H s) (ha : H a = some (.tup vs)) (hb : H b = some (.tup ws)) (fv : vs.all isv = true) (fw : ws.all isv = true) (hu : A.units < cLine) : SeqAt.EqAt A s (.ref a) (.ref b) (decide (vs = ws)) := by
  by_cases e : a = b
  · subst e
    rw [ha] at hb; cases hb
    rw [decide_eq_true rfl]
    exact SeqAt.EqAt.same _
  · obtain ⟨its, r1, p1, _⟩ := I.tuple (SqT.of (K := X.K) ha)
    obtain ⟨its2, r2, p2, _⟩ := I.tuple (SqT.of (K := X.K) hb)
    have l1 := r1.length
    have l2 := r2.length
    refine SeqAt.EqAt.of_refs e ?_
    have key := SeqAt.RcAt.tuples (A := A) (s := s) (e := fun j => decide (vs[j]? = ws[j]?)) p1 p2 hu fun j h1 h2 => ?_
    · rw [List.size_toArray, List.size_toArray, ← l1, ← l2, all_range] at key
      exact key
    · rw [List.size_toArray] at h1 h2
      have g1 : vs[j]? = some vs[j] := List.getElem?_eq_getElem (by omega)
      have g2 : ws[j]? = some ws[j] := List.getElem?_eq_getElem (by omega)
      obtain ⟨u1, q1, ru1⟩ := r1.get g1
      obtain ⟨u2, q2, ru2⟩ := r2.get g2
      have i1 := List.all_eq_true.mp fv _ (List.mem_of_getElem? g1)
      have i2 := List.all_eq_true.mp fw _ (List.mem_of_getElem? g2)
      have e1 : its.toArray[j] = u1 := by
        rw [List.getElem?_eq_getElem (by omega)] at q1
        simpa using Option.some.inj q1
      have e2 : its2.toArray[j] = u2 := by
        rw [List.getElem?_eq_getElem (by omega)] at q2
        simpa using Option.some.inj q2
      show SeqAt.EqAt A.in1 s its.toArray[j] its2.toArray[j] (decide (vs[j]? = ws[j]?))
      have e3 : (decide (vs[j]? = ws[j]?)) = eqV vs[j] ws[j] := by
        rw [eqV_isv i1 i2, g1, g2]
        exact decide_eq_decide.mpr ⟨Option.some.inj, congrArg some⟩
      rw [e1, e2, e3]
      exact eqAt_V ru1 ru2 (flat_isv i1) (flat_isv i2)
/-- two lists of tuples of whole numbers and texts -/
def rEqT (K : PySem.W.Frag) (neg : Bool) : R2 := fun x y H Q => ∃ a b rs ts vss wss, x = .ref a ∧ y = .ref b ∧ SqL K H a rs ∧ SqL K H b ts ∧ TupsAt H rs vss ∧ TupsAt H ts wss ∧ (∀ vs ∈ vss, vs.all isv = true) ∧ (∀ vs ∈ wss, vs.all isv = true) ∧ Q (.bl (if neg then !decide (vss = wss) else decide (vss = wss))) H
theorem lists_eqAt {a b : Addr} {rs ts : List V} {vss wss : List (List V)} {its its2 : List Value} (I : Inv X pins σ H s) (r1 : Vals rs its) (r2 : Vals ts its2) (t1 : TupsAt H rs vss) (t2 : TupsAt H ts wss)
    (f1 : ∀ vs ∈ vss, vs.all isv = true) (f2 : ∀ vs ∈ wss, vs.all isv = true) (hu : A.units + 1 < cLine) (j : Nat) (h1 : j < its.toArray.size) (h2 : j < its2.toArray.size) : SeqAt.EqAt A.in1 s its.toArray[j] its2.toArray[j] (decide (vss[j]? = wss[j]?)) := by
  have l1 := r1.length
  have l2 := r2.length
  have l3 := t1.len
  have l4 := t2.len
  rw [List.size_toArray] at h1 h2
  have g1 : rs[j]? = some rs[j] := List.getElem?_eq_getElem (by omega)
  have g2 : ts[j]? = some ts[j] := List.getElem?_eq_getElem (by omega)
  obtain ⟨u1, q1, ru1⟩ := r1.get g1
  obtain ⟨u2, q2, ru2⟩ := r2.get g2
  obtain ⟨p, vs, z1, z2, z3⟩ := t1.get g1
  obtain ⟨q, ws, y1, y2, y3⟩ := t2.get g2
  rw [z1] at ru1
  rw [y1] at ru2
  cases ru1
  cases ru2
  have e1 : its.toArray[j] = Value.ref p := by
    rw [List.getElem?_eq_getElem (by omega)] at q1
    simpa using Option.some.inj q1
  have e2 : its2.toArray[j] = Value.ref q := by
    rw [List.getElem?_eq_getElem (by omega)] at q2
    simpa using Option.some.inj q2
  have e3 : (decide (vss[j]? = wss[j]?)) = decide (vs = ws) := by
    rw [z3, y3]
    exact decide_eq_decide.mpr ⟨Option.some.inj, congrArg some⟩
  rw [e1, e2, e3]
  exact eqAt_tup I z2 y2 (f1 vs (List.mem_of_getElem? z3)) (f2 ws (List.mem_of_getElem? y3)) (by show A.units + 1 < cLine; exact hu)
theorem op_eqL (hu : X.A.units + 1 < cLine) : OpR X (compareOp .Eq) (rEqT X.K false) := by
  intro pins s σ H x y v u Q I rx ry h
  obtain ⟨a, b, rs, ts, vss, wss, rfl, rfl, h1, h2, t1, t2, f1, f2, q⟩ := h
  cases rx
  cases ry
  obtain ⟨its, r1, p1, _⟩ := I.list h1
  obtain ⟨its2, r2, p2, _⟩ := I.list h2
  have l1 := r1.length
  have l2 := r2.length
  have l3 := t1.len
  have l4 := t2.len
  rw [if_neg (by decide)] at q
  by_cases hl : vss.length = wss.length
  · refine SeqAt.eq_listAt p1.isList p2.isList (by simp; omega) (by omega) (fun j z1 z2 => lists_eqAt (a := a) (b := b) I r1 r2 t1 t2 f1 f2 hu j z1 z2) ⟨.bl _, H, I, rfl, ?_⟩
    have e := all_range vss wss
    rw [hl, Nat.min_self, beq_self_eq_true, Bool.and_true] at e
    rw [List.size_toArray, show its.length = wss.length by omega, e]
    exact q
  · refine SeqAt.eq_list_lengthsAt p1.isList p2.isList (by simp; omega) (by omega) ⟨.bl _, H, I, rfl, ?_⟩
    rw [decide_eq_false (fun z => hl (by rw [z]))] at q
    exact q
theorem op_neL (hu : X.A.units + 1 < cLine) : OpR X (compareOp .NotEq) (rEqT X.K true) := by
  intro pins s σ H x y v u Q I rx ry h
  obtain ⟨a, b, rs, ts, vss, wss, rfl, rfl, h1, h2, t1, t2, f1, f2, q⟩ := h
  cases rx
  cases ry
  obtain ⟨its, r1, p1, _⟩ := I.list h1
  obtain ⟨its2, r2, p2, _⟩ := I.list h2
  have l1 := r1.length
  have l2 := r2.length
  have l3 := t1.len
  have l4 := t2.len
  rw [if_pos rfl] at q
  by_cases hl : vss.length = wss.length
  · refine SeqAt.RcNeAt.lists p1.isList p2.isList (by simp; omega) (by omega) (fun j z1 z2 => lists_eqAt (a := a) (b := b) I r1 r2 t1 t2 f1 f2 hu j z1 z2) X.prog X.w X.xe _ ⟨.bl _, H, I, rfl, ?_⟩
    have e := all_range vss wss
    rw [hl, Nat.min_self, beq_self_eq_true, Bool.and_true] at e
    rw [List.size_toArray, show its.length = wss.length by omega, e]
    exact q
  · refine SeqAt.RcNeAt.lists_lengths p1.isList p2.isList (by simp; omega) (by omega) X.prog X.w X.xe _ ⟨.bl _, H, I, rfl, ?_⟩
    rw [decide_eq_false (fun z => hl (by rw [z]))] at q
    exact q
/-- a list and an empty list -/
def rEqE (K : PySem.W.Frag) (neg : Bool) : R2 := fun x y H Q => ∃ a b xs, x = .ref a ∧ y = .ref b ∧ SqL K H a xs ∧ SqL K H b [] ∧ Q (.bl (if neg then !xs.isEmpty else xs.isEmpty)) H
theorem op_eqE (hu : X.A.units < cLine) : OpR X (compareOp .Eq) (rEqE X.K false) := by
  intro pins s σ H x y v u Q I rx ry h
  obtain ⟨a, b, xs, rfl, rfl, h1, h2, q⟩ := h
  cases rx
  cases ry
  obtain ⟨its, r1, p1, _⟩ := I.list h1
  obtain ⟨its2, r2, p2, _⟩ := I.list h2
  have l1 := r1.length
  have l2 : its2 = [] := by cases r2; rfl
  subst l2
  cases xs with
  | nil =>
    have : its = [] := by cases r1; rfl
    subst this
    exact SeqAt.eq_listAt (e := fun _ => true) p1.isList p2.isList rfl hu (fun j z1 _ => absurd z1 (by simp)) ⟨.bl _, H, I, rfl, q⟩
  | cons z zs => exact SeqAt.eq_list_lengthsAt p1.isList p2.isList (by simp only [List.size_toArray, ← l1]; rfl) hu ⟨.bl _, H, I, rfl, q⟩
theorem op_neE (hu : X.A.units < cLine) : OpR X (compareOp .NotEq) (rEqE X.K true) := by
  intro pins s σ H x y v u Q I rx ry h
  obtain ⟨a, b, xs, rfl, rfl, h1, h2, q⟩ := h
  cases rx
  cases ry
  obtain ⟨its, r1, p1, _⟩ := I.list h1
  obtain ⟨its2, r2, p2, _⟩ := I.list h2
  have l1 := r1.length
  have l2 : its2 = [] := by cases r2; rfl
  subst l2
  cases xs with
  | nil =>
    have : its = [] := by cases r1; rfl
    subst this
    exact SeqAt.RcNeAt.lists (e := fun _ => true) p1.isList p2.isList rfl hu (fun j z1 _ => absurd z1 (by simp)) X.prog X.w X.xe _ ⟨.bl _, H, I, rfl, q⟩
  | cons z zs => exact SeqAt.RcNeAt.lists_lengths p1.isList p2.isList (by simp only [List.size_toArray, ← l1]; rfl) hu X.prog X.w X.xe _ ⟨.bl _, H, I, rfl, q⟩
/-- xs.index(x), there; flat items -/
def rIndex : V → List V → Hp → VK → Prop := fun x vs H Q => ∃ l xs y j, x = .ref l ∧ vs = [y] ∧ H l = some (.lst xs) ∧ flatV y = true ∧ xs.all flatV = true ∧ (∃ z, xs[j]? = some z ∧ eqV z y = true) ∧ (∀ i z, i < j → xs[i]? = some z → eqV z y = false) ∧ Q (.int (j : Nat)) H
theorem mt_index : MtR X "list.index" rIndex := by
  intro pins s σ H x vs v us Q I rx rv h
  obtain ⟨l, xs, y, j, rfl, rfl, hH, fy, fs, ⟨z, hz, ez⟩, hno, q⟩ := h
  cases rx
  obtain ⟨u, rfl, ru⟩ := rv.one
  obtain ⟨sz, its, n, r, hl, e⟩ := I.lstM hH
  obtain ⟨w, hw, rw'⟩ := r.get hz
  have hj : j < its.length := (List.getElem?_eq_some_iff.mp hw).1
  have at_ : ∀ i (hi : i < its.length) z', xs[i]? = some z' → eqU y its[i] = eqV z' y := fun i hi z' hz' => by
    obtain ⟨w', hw', rw2⟩ := r.get hz'
    rw [List.getElem?_eq_getElem hi] at hw'
    rw [Option.some.inj hw']
    exact eqU_of rw2 (List.all_eq_true.mp fs _ (List.mem_of_getElem? hz'))
  refine call_meets F.slot_list_index ⟨_, e, rfl⟩ F.entry_list_index (F.args_list_index_2 _ _) (SeqAt.list_indexAt l its.toArray n none #[] u (eqU y) j (by simpa using hj) ?_ ?_ ?_) ⟨e, fun w' hw' => mem_eqAt ru fy r fs w' (by simpa using hw'), ?_⟩
  · have := line63; omega
  · show eqU y its.toArray[j] = true
    rw [List.getElem_toArray, at_ j hj z hz]; exact ez
  · intro m hm hmj
    have hm' : m < its.length := by simpa using hm
    show eqU y its.toArray[m] = false
    have g : xs[m]? = some xs[m] := List.getElem?_eq_getElem (by omega)
    rw [List.getElem_toArray, at_ m hm' _ g]
    exact hno m _ hmj g
  · exact ⟨.int j, H, I.tok _, ⟨_, rfl⟩, q⟩
/-- a text so many times: some text of that length -/
def rMulS : R2 := fun x y H Q => ∃ z n, x = .str z ∧ y = .int n ∧ 1 < n ∧ n ≤ 1000 ∧ 1 ≤ z.length ∧ z.length ≤ 1000 ∧ ∀ t : Str, t.length ≤ 1000000 → Q (.str t) H
theorem foldl_size (l : List (Array Nat)) : ∀ acc : Array Nat, (l.foldl (· ++ ·) acc).size = acc.size + (l.map (·.size)).sum := by
  induction l with
  | nil => intro acc; simp
  | cons a r ih => intro acc; rw [List.foldl_cons, ih]; simp; omega
theorem op_mul_str : OpR X (binaryOp .Mult) rMulS := by
  intro pins s σ H x y v u Q I rx ry h
  obtain ⟨z, n, rfl, rfl, n1, n2, z1, z2, q⟩ := h
  obtain ⟨t, rfl⟩ := rx
  obtain ⟨t', rfl⟩ := ry
  have hc : (n == 1 || z.length == 0) = false := by
    rw [Bool.or_eq_false_iff]
    exact ⟨by simp; omega, by simp; omega⟩
  have hm : z.length * n.toNat ≤ 1000000 := Nat.le_trans (Nat.mul_le_mul z2 (show n.toNat ≤ 1000 by omega)) (by decide)
  have hlen : (⟨(List.replicate n.toNat z.cps).foldl (· ++ ·) #[]⟩ : Str).length = z.length * n.toNat := by
    show ((List.replicate n.toNat z.cps).foldl (· ++ ·) #[]).size = _
    rw [foldl_size]
    simp [List.map_replicate, List.sum_replicate_nat]
    exact Nat.mul_comm _ _
  refine P.mul_str ?_ (fun _ _ => ?_) (fun _ _ => ?_) ?_
  · rw [Bool.or_eq_false_iff]
    exact ⟨decide_eq_false (by omega), decide_eq_false (by omega)⟩
  · have h1 : (z.length : Int) ≤ (2 ^ 63 - 1) / n := by
      refine Int.le_ediv_of_mul_le (by omega) ?_
      have h2 : (z.length : Int) * n = ((z.length * n.toNat : Nat) : Int) := by
        rw [Int.natCast_mul, Int.toNat_of_nonneg (by omega)]
      rw [h2]
      omega
    omega
  · unfold Builtin.Str.tooLong
    exact decide_eq_false (by have : (sizeLine : Nat) = 16777216 := rfl; omega)
  · rw [if_neg (by omega), if_neg (by rw [hc]; decide)]
    refine ⟨by rw [hlen]; exact Nat.le_of_lt (small_of hm), ⟨.str _, H, I.tok _, ⟨_, rfl⟩, q _ (by rw [hlen]; exact hm)⟩⟩
/-- t[lo:hi] of a text: some text that is no longer -/
def rSlS : V → Option Int → Option Int → Hp → VK → Prop := fun x _ _ H Q => ∃ z, x = .str z ∧ z.length ≤ sizeLine ∧ ∀ t : Str, t.length ≤ z.length → Q (.str t) H
theorem sl_str : SlR X rSlS := by
  intro pins s σ H x v vl vu lo hi sl Q I rx hs pl pu h
  obtain ⟨z, rfl, hz, q⟩ := h
  obtain ⟨t, rfl⟩ := rx
  have part : ∀ {v : Value} {o : Option Int}, IsPart v o → ∃ p, v = partValue p := fun {v o} p => by
    cases p with
    | none => exact ⟨none, rfl⟩
    | int i t => exact ⟨some (i, t), rfl⟩
  obtain ⟨l, rfl⟩ := part pl
  obtain ⟨r, rfl⟩ := part pu
  refine ⟨"str", _, F.slot_str_getitem.lookup, typeIs_str _ _ _, wpAny_getItem_str_slice (l := l) (u := r) (st := none) hs rfl ?_⟩
  unfold sliceMade
  have len : (if ((((none : Option (Int × Tok)).map (·.1)).getD 1 == 1 && (slicePicked z l r none).length == z.length) = true) then z else (⟨((slicePicked z l r none).filterMap (z.cps[·]?)).toArray⟩ : Str)).length ≤ z.length := by
    split
    · exact Nat.le_refl _
    · show ((slicePicked z l r none).filterMap (z.cps[·]?)).toArray.size ≤ _
      rw [List.size_toArray]
      exact Nat.le_trans (List.length_filterMap_le _ _) (sliceIndices_le _ _ _)
  exact post_val_or_str ⟨Nat.le_trans len hz, fun t' k => ⟨.str _, H, I.tok _, ⟨_, rfl⟩, q _ len⟩⟩
/-- the signs of a text of plain signs -/
def Its (x : Str) : It := ⟨fun i _ => i < x.length, fun i H v H' => H' = H ∧ ∃ c, x.cps[i]? = some c ∧ v = .str ⟨#[c]⟩, fun i _ => x.length ≤ i⟩
theorem turn_str {P : Program} {w : World} {K : PySem.W.Frag} {tg : Expr} (x : Str) (t : Tok) (it : Addr) : Turn P w K tg (Its x) [it] it (fun i h => h.IsStrIter it "str_ascii_iterator" x t i) where
  mem := by simp
  obj := fun i h st b hb => by
    have e : b = it := by simpa using hb
    subst e
    obtain ⟨o, e, c, d⟩ := st
    exact ⟨o, e, fun v z => by rw [d] at z; cases z⟩
  keep := fun i h h' st k => let ⟨o, e, r⟩ := st; ⟨o, k it (by simp) o e, r⟩
  item := by
    intro X hP hw hK hc i pins s σ H E I hf st hg
    subst hP hw hK
    have hi : i < x.cps.size := hg
    obtain ⟨f0, f1, f2, f3, f4, f5⟩ := hf it (by simp)
    refine wpAny_pyNext_ascii_item st (c := x.cps[i]) (Array.getElem?_eq_getElem hi) fun h' st' sb => ?_
    have I1 : Inv X pins σ H { s with heap := h', toks := s.toks + 1 } := I.turned (fun b o hb e => (sb.2 b hb).trans e) f0 f1 f3 f4 f5
    obtain ⟨o, e, c, d⟩ := id st'
    exact ⟨_, rfl, go_of (s := { s with heap := h', toks := s.toks + 1 }) e c d (by decide) ⟨.str ⟨#[x.cps[i]]⟩, H, I1, ⟨_, rfl⟩, ⟨rfl, _, Array.getElem?_eq_getElem hi, rfl⟩, st', fun b hb => (hf b hb).1⟩⟩
  done := by
    intro X hP hw hK hc i pins s σ H E I hf st hg
    subst hP hw hK
    have hi : x.cps.size ≤ i := hg
    obtain ⟨f0, f1, f2, f3, f4, f5⟩ := hf it (by simp)
    exact wpAny_pyNext_ascii_end (I.ok.hd hc) st (Array.getElem?_eq_none hi) fun h' eb => ⟨rfl, I.turned (t' := s.toks) (fun b o hb e => eb b o hb e) f0 f1 f3 f4 f5⟩
  self := fun _ _ _ _ _ st h => wpAny_pyIter_striter_ascii st h
def iStr (x : Str) : TI := fun _ H R => R (Its x) H
theorem pi_strC {tg : Expr} {x : Str} {j} {pos : Pos} (ha : x.cps.all (· < 128) = true) : PI X tg (.Constant (.str x) j pos) (iStr x) := by
  intro pins s σ H R I h
  refine thn (pe_str (X := X) (x := x) (j := j) (pos := pos) pins s σ H (fun v H' => v = .str x ∧ H' = H) I ⟨rfl, rfl⟩) fun v s1 ⟨y, H1, I1, r1, e1, e2⟩ => ?_
  subst e1 e2
  obtain ⟨t, rfl⟩ := r1
  refine wpAny_pyIter_ascii ha ?_
  refine ⟨s1.heap.objs.size, [s1.heap.objs.size], _, _, _, rfl, I1.kept (t' := s1.toks) fun b o e => Heap.get?_push_of_some _ e, turn_str x t _, ⟨_, Heap.get?_push_size _ rfl, rfl, rfl⟩, fun b hb => ?_, h⟩
  have e : b = s1.heap.objs.size := by simpa using hb
  subst e
  exact I1.fpOk (Nat.le_refl _) (I1.hok.fresh (Nat.le_refl _))
end
end L2

namespace L2
open PySem PySem.Spec PyProof.Rows
/-! ### comprehensions in short -/
theorem comp_list {K : PySem.W.Frag} {a p : Addr} (xs : List V) {js : List Nat} {σ : St} {H : Hp} {tc : TT} {te : TE} {Q : VK} (Pv : Nat → St → Hp → Prop) (h0 : Pv 0 (startC σ js) (upd H p (.lst []))) (hl : ∀ i σ H, i ≤ xs.length → Pv i σ H → SqL K H a xs)
    (hs : ∀ i x σ' H', xs[i]? = some x → Pv i σ' H' → ∀ R : St → Hp → Prop, (∀ σ H, Pv (i + 1) σ H → R σ H) → tc (σ'.set 0 (some x)) H' fun b H3 => if b = true then te (σ'.set 0 (some x)) H3 fun y H4 => ∃ ys, H4 p = some (.lst ys) ∧ ys.length < sizeLine ∧ R (σ'.set 0 (some x)) (upd H4 p (.lst (ys ++ [y]))) else R (σ'.set 0 (some x)) H3)
    (hd : ∀ σ H, Pv xs.length σ H → Q (.ref p) H) :
    CompW (Itl K a) p (startC σ js) (upd H p (.lst [])) tc te Q := by
  refine ⟨fun i m σ H => m = xs.length - i ∧ i ≤ xs.length ∧ Pv i σ H, ⟨xs.length, by simp, Nat.zero_le _, h0⟩, ?_⟩
  rintro i m σ' H' ⟨rfl, hi, hP⟩
  have hL := hl i σ' H' hi hP
  by_cases e : i = xs.length
  · subst e
    exact .inl ⟨⟨xs, hL, Nat.le_refl _⟩, hd σ' H' hP⟩
  · have hlt : i < xs.length := by omega
    refine .inr ⟨⟨xs, xs[i], hL, List.getElem?_eq_getElem hlt⟩, ?_⟩
    rintro x H'' ⟨rfl, hx⟩
    exact hs i x σ' _ (hx xs hL) hP (fun σ2 H2 => ∃ m', m' < xs.length - i ∧ m' = xs.length - (i + 1) ∧ i + 1 ≤ xs.length ∧ Pv (i + 1) σ2 H2) fun σ2 H2 q => ⟨xs.length - (i + 1), by omega, rfl, by omega, q⟩
/-- a test and an element that leave the heap as it is -/
theorem comp_pure {K : PySem.W.Frag} {a p : Addr} {xs : List V} {js : List Nat} {σ : St} {H : Hp} {tc : TT} {te : TE} {Q : VK} (b : V → Bool) (f : V → V) (hL : SqL K H a xs) (hp : H p = none) (hz : xs.length ≤ 1000000)
    (ht : ∀ x ∈ xs, ∀ H', Same H H' → ∀ R : Bool → Hp → Prop, R (b x) H' → tc (some x :: js.map fun j => (σ[j]?).join) H' R) (he : ∀ x ∈ xs, ∀ H', Same H H' → ∀ R : VK, R (f x) H' → te (some x :: js.map fun j => (σ[j]?).join) H' R)
    (hd : Q (.ref p) (upd H p (.lst ((xs.filter b).map f)))) :
    CompW (Itl K a) p (startC σ js) (upd H p (.lst [])) tc te Q := by
  refine comp_list xs (fun i σ' H' => (∃ v, σ' = v :: js.map fun j => (σ[j]?).join) ∧ H' = upd H p (.lst (((xs.take i).filter b).map f))) ⟨⟨none, rfl⟩, rfl⟩ (fun i σ' H' _ h => ?_) ?_ ?_
  · rw [h.2]; exact (Same.new hp).seq hL
  · rintro i x σ' H' hx ⟨⟨v, rfl⟩, rfl⟩ R hR
    have hlt : i < xs.length := (List.getElem?_eq_some_iff.mp hx).1
    have hm := List.mem_of_getElem? hx
    have htk : xs.take (i + 1) = xs.take i ++ [x] := by rw [List.take_add_one, hx]; rfl
    refine ht x hm _ (Same.new hp) _ ?_
    cases e : b x with
    | false =>
      rw [if_neg Bool.false_ne_true]
      exact hR _ _ ⟨⟨_, rfl⟩, by rw [htk, List.filter_append]; simp [e]⟩
    | true =>
      rw [if_pos rfl]
      refine he x hm _ (Same.new hp) _ ⟨_, upd_same, ?_, hR _ _ ⟨⟨_, rfl⟩, ?_⟩⟩
      · rw [List.length_map]
        refine small_of (Nat.le_trans (List.length_filter_le _ _) ?_)
        rw [List.length_take]; omega
      · rw [upd_upd, htk, List.filter_append]; simp [e]
  · rintro σ' H' ⟨_, rfl⟩
    rw [List.take_length]
    exact hd
end L2
namespace RW
open PySem L2
/-! ### the book, mirrored -/
structure Bkg where
  name : Str
  room : Int
  start : Int
  stop : Int
  weeks : Int
  deriving DecidableEq
def Bkg.vs (r : Bkg) : List V := [.str r.name, .int r.room, .int r.start, .int r.stop, .int r.weeks]
theorem Bkg.vs_inj {r q : Bkg} (h : r.vs = q.vs) : r = q := by
  cases r; cases q
  simp only [Bkg.vs, List.cons.injEq, V.str.injEq, V.int.injEq, and_true] at h
  obtain ⟨h1, h2, h3, h4, h5⟩ := h
  subst h1 h2 h3 h4 h5
  rfl
theorem Bkg.isv (r : Bkg) : r.vs.all L2.isv = true := rfl
def Bkg.hours (r : Bkg) : List Int := hrs r.start r.stop r.weeks
def noSpan (r : Bkg) : Bool := decide (r.start < 0) || (decide (r.stop ≤ r.start) || (decide (168 < r.stop - r.start) || decide (r.weeks < 1)))
def clash (m r : Bkg) : Bool := decide (r.room = m.room) && meetB r.start r.stop r.weeks m.start m.stop m.weeks
inductive Deed where
  | book (m : Bkg)
  | cancel (n : Str)
  | move (n : Str) (room start : Int)
def Deed.vs : Deed → List V
  | .book m => .str "book" :: m.vs
  | .cancel n => [.str "cancel", .str n]
  | .move n room beg => [.str "move", .str n, .int room, .int beg]
def named (rows : List Bkg) (n : Str) : Bool := rows.any fun r => decide (r.name = n)
def others (rows : List Bkg) (spot : Nat) (m : Bkg) : Bool := (List.range rows.length).any fun k => decide (k ≠ spot) && (match rows[k]? with | some r => clash m r | none => false)
def settle (rows : List Bkg) (spot : Nat) (m : Bkg) : Str × List Bkg := if others rows spot m then ("taken", rows) else ("done", rows.take spot ++ [m] ++ rows.drop (spot + 1))
def movedRow (rows : List Bkg) (i : Nat) (n : Str) (room start : Int) : Bkg :=
  match rows[i]? with
  | some r => ⟨n, room, start, start + r.stop - r.start, r.weeks⟩
  | none => ⟨n, room, start, start, 0⟩
def judge (rows : List Bkg) : Deed → Str × List Bkg
  | .book m => if noSpan m then ("no span", rows) else if named rows m.name then ("same name", rows) else settle rows rows.length m
  | .cancel n => if named rows n then ("done", rows.filter fun r => !decide (r.name = n)) else ("no name", rows)
  | .move n room beg => match rows.findIdx? fun r => decide (r.name = n) with
    | none => ("no name", rows)
    | some i => let m := movedRow rows i n room beg
      if noSpan m then ("no span", rows) else settle rows i m
/-- what a booking of the law's may be -/
def RowOk (r : Bkg) : Prop := noSpan r = false ∧ r.start ≤ 1000 ∧ r.weeks ≤ 100
def RowsOk (rows : List Bkg) : Prop := ∀ r ∈ rows, RowOk r
def DeedOk : Deed → Prop
  | .book m => m.start ≤ 1000 ∧ m.weeks ≤ 100
  | .cancel _ => True
  | .move _ _ beg => beg ≤ 1000
theorem noSpan_no {r : Bkg} (h : noSpan r = false) : 0 ≤ r.start ∧ r.start < r.stop ∧ r.stop - r.start ≤ 168 ∧ 1 ≤ r.weeks := by
  unfold noSpan at h
  simp only [Bool.or_eq_false_iff, decide_eq_false_iff_not] at h
  omega
theorem RowOk.bd {r : Bkg} (h : RowOk r) : (-(2 ^ 62) ≤ r.start ∧ r.start < 2 ^ 62 ∧ -(2 ^ 62) ≤ r.stop ∧ r.stop < 2 ^ 62) ∧ (-(2 ^ 62) ≤ r.weeks ∧ r.weeks < 2 ^ 62) ∧ r.weeks.toNat * (r.stop - r.start).toNat ≤ 16800 := by
  obtain ⟨h1, h2, h3⟩ := h
  obtain ⟨g1, g2, g3, g4⟩ := noSpan_no h1
  refine ⟨⟨by omega, by omega, by omega, by omega⟩, ⟨by omega, by omega⟩, ?_⟩
  exact Nat.le_trans (Nat.mul_le_mul (show r.weeks.toNat ≤ 100 by omega) (show (r.stop - r.start).toNat ≤ 168 by omega)) (by decide)
end RW
namespace RW
open PySem PySem.Spec PyProof.Rows L2
/-- the dict's keys are these hours -/
def KeysAre (kvs : List (Key × V)) (hs : List Int) : Prop := ∀ h : Int, (valV kvs (Sum.inl h : Key)).isSome = decide (h ∈ hs)
theorem KeysAre.nil : KeysAre [] [] := fun h => by rw [valV_nil]; simp
theorem KeysAre.put {kvs : List (Key × V)} {hs : List Int} (k : KeysAre kvs hs) (h : Int) (v : V) : KeysAre (putK kvs (Sum.inl h) v) (hs ++ [h]) := fun j => by
  rw [valV_put]
  by_cases e : j = h
  · subst e; rw [if_pos rfl]; simp
  · rw [if_neg (fun z => e (Sum.inl.inj z)), k j]
    simp [e]
theorem get_ints {ns : List Int} {i : Nat} {x : V} (h : (ns.map V.int)[i]? = some x) : ∃ n, x = .int n ∧ ns.take (i + 1) = ns.take i ++ [n] ∧ n ∈ ns ∧ i < ns.length := by
  rw [List.getElem?_map] at h
  cases e : ns[i]? with
  | none => rw [e] at h; cases h
  | some n =>
    rw [e] at h
    refine ⟨n, (Option.some.inj h).symm, ?_, List.mem_of_getElem? e, (List.getElem?_eq_some_iff.mp e).1⟩
    rw [List.take_add_one, e]
    rfl
theorem atI_ints {ns : List Int} {k : Nat} (h : k < ns.length) : atI (ns.map V.int) (k : Int) = some (.int (ns.getD k 0)) := by
  refine atI_nat ?_
  rw [List.getElem?_map, List.getElem?_eq_getElem h, List.getD_eq_getElem?_getD, List.getElem?_eq_getElem h]
  rfl
/-- the first item of the tuple -/
def fstOf (H : Hp) : V → V
  | .ref r => (match H r with | some (.tup (v :: _)) => v | _ => .non)
  | _ => .non
theorem fst_rows {H : Hp} : ∀ {rs : List V} {rows : List Bkg}, TupsAt H rs (rows.map Bkg.vs) → rs.map (fstOf H) = rows.map fun r => V.str r.name
  | _, [], h => by cases h; rfl
  | _, r :: rows, h => by
    cases h with
    | cons h t =>
      obtain ⟨a, rfl, ha⟩ := h
      rw [List.map_cons, List.map_cons, fst_rows t]
      have : fstOf H (.ref a) = .str r.name := by
        show (match H a with | some (.tup (v :: _)) => v | _ => .non) = _
        rw [ha]; rfl
      rw [this]
theorem row_at {H : Hp} {rs : List V} {rows : List Bkg} {i : Nat} {v : V} (t : TupsAt H rs (rows.map Bkg.vs)) (h : rs[i]? = some v) : ∃ a r, v = .ref a ∧ H a = some (.tup r.vs) ∧ rows[i]? = some r := by
  obtain ⟨a, vs, h1, h2, h3⟩ := t.get h
  rw [List.getElem?_map] at h3
  cases e : rows[i]? with
  | none => rw [e] at h3; cases h3
  | some r => rw [e] at h3; cases h3; exact ⟨a, r, h1, h2, rfl⟩
theorem row_of {H : Hp} {rs : List V} {rows : List Bkg} {i : Nat} {r : Bkg} (t : TupsAt H rs (rows.map Bkg.vs)) (h : rows[i]? = some r) : ∃ a, rs[i]? = some (.ref a) ∧ H a = some (.tup r.vs) := t.at (by rw [List.getElem?_map, h]; rfl)
theorem inV_names (rows : List Bkg) (n : Str) : inV (.str n) (rows.map fun r => V.str r.name) = named rows n := by
  unfold inV named
  rw [List.any_map]
  refine congrArg (fun f => rows.any f) (funext fun r => ?_)
  show (r.name == n) = decide (r.name = n)
  by_cases e : r.name = n
  · rw [decide_eq_true e, e, beq_self_eq_true]
  · rw [decide_eq_false e]; exact beq_eq_false_iff_ne.mpr e
theorem flat_names (rows : List Bkg) : (rows.map fun r => V.str r.name).all flatV = true := by
  rw [List.all_map]; exact List.all_eq_true.mpr fun _ _ => rfl
theorem idx_named {rows : List Bkg} {n : Str} (h : named rows n = true) : ∃ i r, rows.findIdx? (fun r => decide (r.name = n)) = some i ∧ rows[i]? = some r ∧ r.name = n ∧ ∀ k q, k < i → rows[k]? = some q → q.name ≠ n := by
  obtain ⟨r, hr, e⟩ := List.any_eq_true.mp h
  cases q : rows.findIdx? (fun r => decide (r.name = n)) with
  | none =>
    have := List.findIdx?_eq_none_iff.mp q r hr
    rw [e] at this; cases this
  | some i =>
    obtain ⟨hi, h1, h2⟩ := List.findIdx?_eq_some_iff_getElem.mp q
    refine ⟨i, rows[i], rfl, List.getElem?_eq_getElem hi, of_decide_eq_true h1, fun k x hk hx z => ?_⟩
    obtain ⟨hk', rfl⟩ := List.getElem?_eq_some_iff.mp hx
    exact absurd (decide_eq_true z) (h2 k hk)
theorem idx_none {rows : List Bkg} {n : Str} (h : named rows n = false) : rows.findIdx? (fun r => decide (r.name = n)) = none :=
  List.findIdx?_eq_none_iff.mpr fun r hr => by
    have := List.any_eq_false.mp h r hr
    simpa using this
end RW
namespace L2
theorem len1 : 1 ≤ PySem.sizeLine := by decide
theorem len4 : 4 ≤ PySem.sizeLine := by decide
theorem len6 : 6 ≤ PySem.sizeLine := by decide
theorem len8 : 8 ≤ PySem.sizeLine := by decide
theorem cut_take {xs : List V} {n : Nat} : cutV xs none (some (n : Int)) = xs.take n := by
  unfold cutV
  rw [HT.sIx_none, HT.sIx_nat, List.drop_zero, Nat.sub_zero]
  by_cases h : n ≤ xs.length
  · rw [Nat.min_eq_left h]
  · rw [Nat.min_eq_right (by omega), List.take_length, List.take_of_length_le (by omega)]
theorem cut_drop {xs : List V} {n : Nat} {i : Int} (e : i = (n : Int)) : cutV xs (some i) none = xs.drop n := by
  subst e
  unfold cutV
  rw [HT.sIx_none, HT.sIx_nat]
  by_cases h : n ≤ xs.length
  · rw [Nat.min_eq_left h, ← List.length_drop, List.take_length]
  · rw [Nat.min_eq_right (by omega), List.drop_of_length_le (Nat.le_refl _), List.drop_of_length_le (by omega), List.take_nil]
end L2
namespace RW
open PySem L2
theorem filter_rows {H : Hp} {n : Str} : ∀ {rs : List V} {rows : List Bkg}, TupsAt H rs (rows.map Bkg.vs) → TupsAt H (rs.filter fun x => !decide (fstOf H x = .str n)) ((rows.filter fun r => !decide (r.name = n)).map Bkg.vs)
  | _, [], h => by cases h; exact .nil
  | _, r :: rows, h => by
    cases h with
    | cons h t =>
      obtain ⟨a, rfl, ha⟩ := h
      have e : fstOf H (.ref a) = .str r.name := by
        show (match H a with | some (.tup (v :: _)) => v | _ => .non) = _
        rw [ha]; rfl
      have ih := filter_rows (n := n) t
      rw [List.filter_cons, List.filter_cons, e]
      by_cases z : r.name = n
      · rw [decide_eq_true (show V.str r.name = V.str n by rw [z]), decide_eq_true z]
        exact ih
      · rw [decide_eq_false (show ¬ V.str r.name = V.str n from fun q => z (V.str.inj q)), decide_eq_false z]
        exact .cons ⟨a, rfl, ha⟩ ih
end RW
namespace L2
theorem ix_tupK {X : Cx} {K : PySem.W.Frag} (e : X.K = K := by rfl) : IxR X (rIxT K) := by subst e; exact ix_tup
theorem ix_listK {X : Cx} {K : PySem.W.Frag} (e : X.K = K := by rfl) : IxR X (rIxL K) := by subst e; exact ix_list
end L2
namespace RW
open PySem L2
theorem judge_book (rows : List Bkg) (m : Bkg) : judge rows (.book m) = if noSpan m then (("no span" : Str), rows) else if named rows m.name then (("same name" : Str), rows) else RW.settle rows rows.length m := rfl
theorem judge_cancel (rows : List Bkg) (n : Str) : judge rows (.cancel n) = if named rows n then (("done" : Str), rows.filter fun r => !decide (r.name = n)) else (("no name" : Str), rows) := rfl
theorem judge_move0 {rows : List Bkg} {n : Str} {room beg : Int} (h : rows.findIdx? (fun r => decide (r.name = n)) = none) : judge rows (.move n room beg) = (("no name" : Str), rows) := by
  simp only [judge, h]
theorem judge_move1 {rows : List Bkg} {n : Str} {room beg : Int} {i : Nat} (h : rows.findIdx? (fun r => decide (r.name = n)) = some i) : judge rows (.move n room beg) = if noSpan (movedRow rows i n room beg) then (("no span" : Str), rows) else RW.settle rows i (movedRow rows i n room beg) := by
  simp only [judge, h]
end RW
namespace L2
open PySem
theorem atI_map {α : Type} (f : α → V) (l : List α) (j : Int) (h0 : 0 ≤ j) (h1 : j < l.length) : ∃ x, x ∈ l ∧ atI (l.map f) j = some (f x) := by
  have hj : j.toNat < l.length := by omega
  refine ⟨l[j.toNat], List.getElem_mem hj, ?_⟩
  have h := atI_nat (xs := l.map f) (j := j.toNat) (v := f l[j.toNat]) (by rw [List.getElem?_map, List.getElem?_eq_getElem hj]; rfl)
  rw [show ((j.toNat : Nat) : Int) = j by omega] at h
  exact h
/-- a comprehension over the signs of a text -/
theorem comp_str {x : Str} {p : Addr} {js : List Nat} {σ : St} {H : Hp} {tc : TT} {te : TE} {Q : VK} (hp : H p = none) (hz : x.length ≤ 1000) (ht : tc = tTrue)
    (he : ∀ c : Str, c.length = 1 → ∀ H', Same H H' → ∀ R : VK, (∀ t : Str, R (.str t) H') → te (some (.str c) :: js.map fun j => (σ[j]?).join) H' R)
    (hd : ∀ ss : List Str, ss.length = x.length → Q (.ref p) (upd H p (.lst (ss.map V.str)))) : CompW (Its x) p (startC σ js) (upd H p (.lst [])) tc te Q := by
  subst ht
  refine ⟨fun i m σ' H' => m = x.length - i ∧ i ≤ x.length ∧ (∃ v, σ' = v :: js.map fun j => (σ[j]?).join) ∧ ∃ ss : List Str, ss.length = i ∧ H' = upd H p (.lst (ss.map V.str)), ⟨x.length, by simp, Nat.zero_le _, ⟨none, rfl⟩, [], rfl, rfl⟩, ?_⟩
  rintro i m σ' H' ⟨rfl, hi, ⟨v, rfl⟩, ss, hs, rfl⟩
  by_cases e : i = x.length
  · exact .inl ⟨by show x.length ≤ i; omega, hd ss (by omega)⟩
  · refine .inr ⟨by show i < x.length; omega, ?_⟩
    rintro y H'' ⟨rfl, c, hc, rfl⟩
    unfold tTrue
    dsimp only
    rw [if_pos rfl]
    exact (he _ rfl _ (Same.new hp) _ fun t => ⟨_, upd_same, by rw [List.length_map]; exact small_of (by omega), x.length - (i + 1), by omega, rfl, by omega, ⟨_, rfl⟩, ss ++ [t], by rw [List.length_append, hs]; rfl, by rw [upd_upd, List.map_append]; rfl⟩)
end L2
namespace RW
open PySem L2
theorem TupsAt.over {H : Hp} {p : Addr} {xs : List V} {o : HO} (h : H p = some (.lst xs)) {rs : List V} {vss : List (List V)} (t : TupsAt H rs vss) : TupsAt (upd H p o) rs vss :=
  Paired.mapP t fun _ _ ⟨a, h1, h2⟩ => ⟨a, h1, by
    rw [upd_ne (fun e => by rw [e, h] at h2; cases h2)]; exact h2⟩
/-- a tuple made and put at a list's end -/
theorem app_tup {H1 H4 : Hp} {pa pt : Addr} {rs : List V} {vss : List (List V)} {vs : List V} (h1 : H1 pa = none) (s : Same H1 H4) (lp : H4 pa = some (.lst rs)) (tp : TupsAt H4 rs vss) (hpt : H4 pt = none) :
    Same H1 (upd (upd H4 pt (.tup vs)) pa (.lst (rs ++ [.ref pt]))) ∧ TupsAt (upd (upd H4 pt (.tup vs)) pa (.lst (rs ++ [.ref pt]))) (rs ++ [.ref pt]) (vss ++ [vs]) := by
  have ne : pt ≠ pa := fun e => by rw [e, lp] at hpt; cases hpt
  refine ⟨(s.put (s.free hpt)).put h1, TupsAt.append ?_ (.cons ⟨pt, rfl, ?_⟩ .nil)⟩
  · exact TupsAt.over ((Same.new hpt) _ _ lp) (tp.same (Same.new hpt))
  · rw [upd_ne ne, upd_same]
end RW

namespace L2
open PySem PySem.Spec PyProof.Rows
theorem kit_int_bool {K : PySem.W.Frag} : PySem.W.kitOne K (.type "int") (.type "bool") = some false := by rfl
theorem kit_int_list {K : PySem.W.Frag} : PySem.W.kitOne K (.type "int") (.type "list") = some false := by rfl
theorem kit_int_tup {K : PySem.W.Frag} : PySem.W.kitOne K (.type "int") (.type "tuple") = some false := by rfl
theorem kit_int_str {K : PySem.W.Frag} : PySem.W.kitOne K (.type "int") (.type "str") = some false := by rfl
theorem kit_str_list {K : PySem.W.Frag} : PySem.W.kitOne K (.type "str") (.type "list") = some false := by rfl
theorem kit_str_tup {K : PySem.W.Frag} : PySem.W.kitOne K (.type "str") (.type "tuple") = some false := by rfl
theorem kit_tup_list {K : PySem.W.Frag} : PySem.W.kitOne K (.type "tuple") (.type "list") = some false := by rfl
/-- a text or a whole number -/
def plainV : V → Bool
  | .int _ => true
  | .str _ => true
  | _ => false
/-- parts that are alike, with how many turns they take -/
inductive Lks (H : Hp) : List V → List V → Nat → Prop where
  | nil : Lks H [] [] 0
  | flat {xs ys : List V} {n : Nat} {v : V} (t : Lks H xs ys n) (h : plainV v = true) : Lks H (xs ++ [v]) (ys ++ [v]) (n + 1)
  | tup {xs ys : List V} {n : Nat} {a b : Addr} {vs : List V} (t : Lks H xs ys n) (ha : H a = some (.tup vs)) (hb : H b = some (.tup vs)) (h : vs.all plainV = true) : Lks H (xs ++ [.ref a]) (ys ++ [.ref b]) (n + (vs.length + 1))
theorem Lks.flats {H : Hp} {xs ys : List V} {n : Nat} (t : Lks H xs ys n) : ∀ vs : List V, vs.all plainV = true → Lks H (xs ++ vs) (ys ++ vs) (n + vs.length) := by
  intro vs
  induction vs generalizing xs ys n with
  | nil => intro _; rw [List.append_nil, List.append_nil]; exact t
  | cons v vs ih =>
    intro h
    rw [List.all_cons, Bool.and_eq_true] at h
    have := ih (t.flat h.1) h.2
    rw [List.append_assoc, List.append_assoc] at this
    have e : n + (v :: vs).length = n + 1 + vs.length := by rw [List.length_cons]; omega
    rw [e]; exact this
theorem Lks.same {H H' : Hp} (s : Same H H') {xs ys : List V} {n : Nat} (t : Lks H xs ys n) : Lks H' xs ys n := by
  induction t with
  | nil => exact .nil
  | flat _ h ih => exact ih.flat h
  | tup _ ha hb h ih => exact ih.tup (s _ _ ha) (s _ _ hb) h
theorem Lks.len {H : Hp} {xs ys : List V} {n : Nat} (t : Lks H xs ys n) : xs.length = ys.length ∧ xs.length ≤ n := by
  induction t with
  | nil => exact ⟨rfl, Nat.le_refl _⟩
  | flat _ h ih => simp only [List.length_append, List.length_singleton]; omega
  | tup _ ha hb h ih => simp only [List.length_append, List.length_singleton]; omega
theorem Lks.ofTups {H : Hp} : ∀ {vss : List (List V)} {xs ys : List V} {as bs : List V} {n : Nat}, Lks H as bs n → TupsAt H xs vss → TupsAt H ys vss → (∀ vs ∈ vss, vs.all plainV = true ∧ vs.length ≤ 9) → ∃ m, m ≤ n + 10 * xs.length ∧ Lks H (as ++ xs) (bs ++ ys) m
  | [], _, _, as, bs, n, t, .nil, .nil, _ => ⟨n, by omega, by rw [List.append_nil, List.append_nil]; exact t⟩
  | vs :: vss, _, _, as, bs, n, t, .cons ⟨a, ha, ha2⟩ t1, .cons ⟨b, hb, hb2⟩ t2, h => by
    subst ha hb
    obtain ⟨m, hm, q⟩ := Lks.ofTups (t.tup ha2 hb2 (h vs List.mem_cons_self).1) t1 t2 fun v hv => h v (List.mem_cons_of_mem _ hv)
    refine ⟨m, ?_, ?_⟩
    · have := (h vs List.mem_cons_self).2
      rw [List.length_cons]; omega
    · rw [List.append_assoc, List.append_assoc] at q
      exact q
theorem snoc_one {xs : List V} {x y : V} (h : xs ++ [x] = [y]) : xs = [] ∧ x = y := by
  cases xs with
  | nil => exact ⟨rfl, List.head_eq_of_cons_eq h⟩
  | cons z zs => have := congrArg List.length h; simp at this
theorem last_snoc {xs : List V} {x : V} : (xs ++ [x])[(xs ++ [x]).length - 1]? = some x := by
  rw [List.length_append, List.length_singleton, Nat.add_sub_cancel, List.getElem?_append_right (Nat.le_refl _), Nat.sub_self]; rfl
end L2

namespace RW
open PySem L2
/-- the deeds done one behind another -/
def run (rows : List Bkg) : List Deed → List Str × List Bkg
  | [] => ([], rows)
  | d :: ds => ((judge rows d).1 :: (run (judge rows d).2 ds).1, (run (judge rows d).2 ds).2)
theorem run_len : ∀ (ds : List Deed) (rows : List Bkg), (run rows ds).1.length = ds.length
  | [], _ => rfl
  | d :: ds, rows => by rw [run, List.length_cons, List.length_cons, run_len ds]
theorem run_snoc : ∀ (ds : List Deed) (rows : List Bkg) (d : Deed), run rows (ds ++ [d]) = ((run rows ds).1 ++ [(judge (run rows ds).2 d).1], (judge (run rows ds).2 d).2)
  | [], _, _ => rfl
  | e :: ds, rows, d => by
    rw [List.cons_append, run, run_snoc ds, run]
    rfl
/-- what stands at a place of the answers -/
theorem run_at {ds : List Deed} {rows : List Bkg} {i : Nat} (h : i < ds.length) (d : Deed) (hd : ds[i]? = some d) : (run rows ds).1[i]? = some (judge (run rows (ds.take i)).2 d).1 ∧ (run rows (ds.take (i + 1))).2 = (judge (run rows (ds.take i)).2 d).2 := by
  have e : ds.take (i + 1) = ds.take i ++ [d] := by rw [List.take_add_one, hd]; rfl
  refine ⟨?_, by rw [e, run_snoc]⟩
  induction ds generalizing rows i with
  | nil => cases hd
  | cons x xs ih =>
    cases i with
    | zero => cases hd; rfl
    | succ i =>
      rw [run]
      show (run (judge rows x).2 xs).1[i]? = _
      have := ih (rows := (judge rows x).2) (i := i) (by rw [List.length_cons] at h; omega) hd (by rw [List.take_succ_cons, List.take_succ_cons, List.cons_append] at e; exact (List.cons.inj e).2)
      rw [this, List.take_succ_cons, run]
/-! ### what the book keeps -/
theorem named_iff {rows : List Bkg} {n : Str} : named rows n = true ↔ ∃ r ∈ rows, r.name = n := by
  unfold named
  rw [List.any_eq_true]
  exact ⟨fun ⟨r, h, e⟩ => ⟨r, h, of_decide_eq_true e⟩, fun ⟨r, h, e⟩ => ⟨r, h, decide_eq_true e⟩⟩
/-- no name twice -/
def OneName (rows : List Bkg) : Prop := (rows.map Bkg.name).Nodup
/-- no two bookings have an hour of a room in common -/
def NoClash (rows : List Bkg) : Prop := rows.Pairwise fun r q => clash r q = false
theorem clash_comm (r q : Bkg) : clash r q = clash q r := by
  unfold clash
  rw [meetB_comm]
  by_cases e : q.room = r.room
  · rw [decide_eq_true e, decide_eq_true e.symm]
  · rw [decide_eq_false e, decide_eq_false fun z => e z.symm]
end RW

namespace RW
open PySem L2
theorem others_no {rows : List Bkg} {spot : Nat} {m : Bkg} (h : others rows spot m = false) {k : Nat} {r : Bkg} (hk : k ≠ spot) (hr : rows[k]? = some r) : clash m r = false := by
  unfold others at h
  have := List.any_eq_false.mp h k (List.mem_range.mpr (List.getElem?_eq_some_iff.mp hr).1)
  rw [hr, decide_eq_true hk, Bool.true_and] at this
  exact Bool.eq_false_iff.mpr this
theorem settled {rows : List Bkg} {spot : Nat} {m : Bkg} (Pr : List Bkg → Prop) (h0 : Pr rows) (h1 : others rows spot m = false → Pr (rows.take spot ++ [m] ++ rows.drop (spot + 1))) : Pr (RW.settle rows spot m).2 := by
  unfold RW.settle
  cases e : others rows spot m with
  | true => exact h0
  | false => exact h1 e
/-- what a deed may do to the book -/
theorem judged {rows : List Bkg} {d : Deed} (Pr : List Bkg → Prop) (h0 : Pr rows)
    (hB : ∀ m, d = .book m → noSpan m = false → named rows m.name = false → others rows rows.length m = false → Pr (rows.take rows.length ++ [m] ++ rows.drop (rows.length + 1)))
    (hC : ∀ n, d = .cancel n → Pr (rows.filter fun r => !decide (r.name = n)))
    (hM : ∀ n room beg i r, d = .move n room beg → rows[i]? = some r → r.name = n → noSpan ⟨n, room, beg, beg + r.stop - r.start, r.weeks⟩ = false → others rows i ⟨n, room, beg, beg + r.stop - r.start, r.weeks⟩ = false → Pr (rows.take i ++ [⟨n, room, beg, beg + r.stop - r.start, r.weeks⟩] ++ rows.drop (i + 1))) : Pr (judge rows d).2 := by
  cases d with
  | book m =>
    rw [judge_book]
    cases e1 : noSpan m with
    | true => exact h0
    | false =>
      cases e2 : named rows m.name with
      | true => exact h0
      | false => exact settled Pr h0 fun e3 => hB m rfl e1 e2 e3
  | cancel n =>
    rw [judge_cancel]
    cases e : named rows n with
    | true => exact hC n rfl
    | false => exact h0
  | move n room beg =>
    cases e : named rows n with
    | false => rw [judge_move0 (idx_none e)]; exact h0
    | true =>
      obtain ⟨i, r, i1, i2, i3, _⟩ := idx_named e
      rw [judge_move1 i1, show movedRow rows i n room beg = ⟨n, room, beg, beg + r.stop - r.start, r.weeks⟩ by unfold movedRow; rw [i2]]
      cases e1 : noSpan ⟨n, room, beg, beg + r.stop - r.start, r.weeks⟩ with
      | true => exact h0
      | false => exact settled Pr h0 fun e3 => hM n room beg i r rfl i2 i3 e1 e3
theorem judge_rows {rows : List Bkg} {d : Deed} (h : RowsOk rows) (hd : DeedOk d) : RowsOk (judge rows d).2 := by
  refine judged RowsOk h ?_ ?_ ?_
  · rintro m rfl e1 e2 e3 r hr
    rcases List.mem_append.mp hr with hr | hr
    · rcases List.mem_append.mp hr with hr | hr
      · exact h r (List.mem_of_mem_take hr)
      · rw [List.mem_singleton.mp hr]; exact ⟨e1, hd.1, hd.2⟩
    · exact h r (List.mem_of_mem_drop hr)
  · rintro n rfl r hr
    exact h r (List.mem_filter.mp hr).1
  · rintro n room beg i q rfl hq e0 e1 e3 r hr
    rcases List.mem_append.mp hr with hr | hr
    · rcases List.mem_append.mp hr with hr | hr
      · exact h r (List.mem_of_mem_take hr)
      · rw [List.mem_singleton.mp hr]; exact ⟨e1, hd, (h q (List.mem_of_getElem? hq)).2.2⟩
    · exact h r (List.mem_of_mem_drop hr)
theorem judge_len {rows : List Bkg} {d : Deed} : (judge rows d).2.length ≤ rows.length + 1 := by
  refine judged (fun x => x.length ≤ rows.length + 1) (by omega) ?_ ?_ ?_
  · intro m _ _ _ _
    simp only [List.length_append, List.length_take, List.length_drop, List.length_singleton]; omega
  · intro n _
    exact Nat.le_trans (List.length_filter_le _ _) (by omega)
  · intro n room beg i r _ _ _ _ _
    simp only [List.length_append, List.length_take, List.length_drop, List.length_singleton]; omega
theorem run_ok : ∀ {ds : List Deed} {rows : List Bkg}, RowsOk rows → (∀ d ∈ ds, DeedOk d) → RowsOk (run rows ds).2
  | [], _, h, _ => h
  | d :: ds, _, h, hd => run_ok (ds := ds) (judge_rows h (hd d List.mem_cons_self)) fun x hx => hd x (List.mem_cons_of_mem _ hx)
theorem run_rows : ∀ {ds : List Deed} {rows : List Bkg}, (run rows ds).2.length ≤ rows.length + ds.length
  | [], _ => Nat.le_refl _
  | d :: ds, rows => Nat.le_trans (run_rows (ds := ds)) (by have := judge_len (rows := rows) (d := d); rw [List.length_cons]; omega)
theorem one_name {rows : List Bkg} {d : Deed} (h : OneName rows) : OneName (judge rows d).2 := by
  refine judged OneName h ?_ ?_ ?_
  · rintro m rfl e1 e2 e3
    rw [List.take_length, List.drop_of_length_le (by omega), List.append_nil]
    unfold OneName
    rw [List.map_append]
    refine List.nodup_append.mpr ⟨h, List.nodup_cons.mpr ⟨by simp, List.nodup_nil⟩, fun a ha b hb e => ?_⟩
    rw [List.map_cons, List.map_nil, List.mem_singleton] at hb
    obtain ⟨r, hr, er⟩ := List.mem_map.mp ha
    have : named rows m.name = true := named_iff.mpr ⟨r, hr, by rw [er, e, hb]⟩
    rw [e2] at this; cases this
  · rintro n rfl
    exact List.Nodup.sublist (List.Sublist.map _ List.filter_sublist) h
  · rintro n room beg i r rfl hr en _ _
    have hi : i < rows.length := (List.getElem?_eq_some_iff.mp hr).1
    have e : rows = rows.take i ++ [r] ++ rows.drop (i + 1) := by
      conv => lhs; rw [← List.take_append_drop i rows]
      rw [List.drop_eq_getElem_cons hi, (List.getElem?_eq_some_iff.mp hr).2, List.append_assoc]
      rfl
    unfold OneName at h ⊢
    rw [e] at h
    simp only [List.map_append, List.map_cons, List.map_nil] at h ⊢
    rw [en] at h
    exact h
theorem no_clash {rows : List Bkg} {d : Deed} (h : NoClash rows) : NoClash (judge rows d).2 := by
  have put : ∀ (spot : Nat) (m : Bkg), others rows spot m = false → NoClash (rows.take spot ++ [m] ++ rows.drop (spot + 1)) := by
    intro spot m hm
    have hs : NoClash (rows.take spot ++ rows.drop (spot + 1)) := by
      rw [← List.eraseIdx_eq_take_drop_succ]
      exact List.Pairwise.sublist (List.eraseIdx_sublist rows spot) h
    have hx : ∀ r ∈ rows.take spot ++ rows.drop (spot + 1), clash m r = false := by
      intro r hr
      rw [← List.eraseIdx_eq_take_drop_succ] at hr
      obtain ⟨k, hk, e⟩ := List.mem_eraseIdx_iff_getElem?.mp hr
      exact others_no hm hk e
    obtain ⟨p1, p2, p3⟩ := List.pairwise_append.mp hs
    rw [NoClash, List.append_assoc]
    refine List.pairwise_append.mpr ⟨p1, List.pairwise_cons.mpr ⟨fun r hr => hx r (List.mem_append_right _ hr), p2⟩, fun r hr q hq => ?_⟩
    rcases List.mem_cons.mp hq with rfl | hq
    · rw [clash_comm]; exact hx r (List.mem_append_left _ hr)
    · exact p3 r hr q hq
  refine judged NoClash h ?_ ?_ ?_
  · intro m _ _ _ e3
    exact put _ _ e3
  · intro n _
    exact List.Pairwise.sublist List.filter_sublist h
  · intro n room beg i r _ _ _ _ e3
    exact put _ _ e3
theorem run_one : ∀ {ds : List Deed} {rows : List Bkg}, OneName rows → OneName (run rows ds).2
  | [], _, h => h
  | _ :: ds, _, h => run_one (ds := ds) (one_name h)
theorem run_clash : ∀ {ds : List Deed} {rows : List Bkg}, NoClash rows → NoClash (run rows ds).2
  | [], _, h => h
  | _ :: ds, _, h => run_clash (ds := ds) (no_clash h)
end RW
namespace RW
open PySem L2
theorem deed_at {H : Hp} {rs : List V} {ds : List Deed} {i : Nat} {d : Deed} (t : TupsAt H rs (ds.map Deed.vs)) (h : ds[i]? = some d) : ∃ a, rs[i]? = some (.ref a) ∧ H a = some (.tup d.vs) := t.at (by rw [List.getElem?_map, h]; rfl)
theorem Deed.plain (d : Deed) : d.vs.all plainV = true ∧ d.vs.length ≤ 9 := by
  cases d with
  | book m => exact ⟨rfl, by show 6 ≤ 9; decide⟩
  | cancel n => exact ⟨rfl, by show 2 ≤ 9; decide⟩
  | move n room beg => exact ⟨rfl, by show 4 ≤ 9; decide⟩
theorem deeds_plain (ds : List Deed) : ∀ vs ∈ ds.map Deed.vs, vs.all plainV = true ∧ vs.length ≤ 9 := fun vs h => by
  obtain ⟨d, _, rfl⟩ := List.mem_map.mp h
  exact d.plain
theorem rows_isv (rows : List Bkg) : ∀ vs ∈ rows.map Bkg.vs, vs.all L2.isv = true := fun vs h => by
  obtain ⟨r, _, rfl⟩ := List.mem_map.mp h
  exact r.isv
theorem cut_ints {ns : List Int} (n : Nat) : cutV (ns.map V.int) none (some (n : Int)) = (ns.take n).map V.int := by
  rw [cut_take, List.map_take]
end RW

namespace RW
open PySem PySem.Spec PyProof.Rows L2
theorem nodup_rowH (a : Int) (i : Nat) : ∀ j, (rowH a i j).Nodup
  | 0 => List.nodup_nil
  | j + 1 => by
    rw [rowH_succ]
    refine List.nodup_append.mpr ⟨nodup_rowH a i j, List.nodup_cons.mpr ⟨by simp, List.nodup_nil⟩, fun x hx y hy e => ?_⟩
    rw [List.mem_singleton] at hy
    obtain ⟨z, hz, ez⟩ := List.mem_map.mp hx
    have := List.mem_range.mp hz
    omega
theorem nodup_hrsN {a b : Int} (h : b - a ≤ 168) : ∀ n, (hrsN a b n).Nodup
  | 0 => List.nodup_nil
  | n + 1 => by
    rw [hrsN_succ]
    refine List.nodup_append.mpr ⟨nodup_hrsN h n, nodup_rowH a n _, fun x hx y hy e => ?_⟩
    obtain ⟨i, hi, hx⟩ := List.mem_flatMap.mp hx
    obtain ⟨z, hz, ez⟩ := List.mem_map.mp hx
    obtain ⟨z', hz', ez'⟩ := List.mem_map.mp hy
    have := List.mem_range.mp hi
    have := List.mem_range.mp hz
    have := List.mem_range.mp hz'
    omega
theorem nodup_hours {r : Bkg} (h : RowOk r) : r.hours.Nodup := nodup_hrsN (noSpan_no h.1).2.2.1 _
def NamesAre (kvs : List (Key × V)) (ns : List Str) : Prop := ∀ n : Str, (valV kvs (Sum.inr n : Key)).isSome = decide (n ∈ ns)
theorem NamesAre.nil : NamesAre [] [] := fun h => by rw [valV_nil]; simp
theorem NamesAre.put {kvs : List (Key × V)} {ns : List Str} (k : NamesAre kvs ns) (n : Str) (v : V) : NamesAre (putK kvs (Sum.inr n) v) (ns ++ [n]) := fun j => by
  rw [valV_put]
  by_cases e : j = n
  · subst e; rw [if_pos rfl]; simp
  · rw [if_neg (fun z => e (Sum.inr.inj z)), k j]
    simp [e]
def keyP (p : Int × Int) : List Key := [Sum.inl p.1, Sum.inl p.2]
theorem keyP_inj {p q : Int × Int} (h : keyP p = keyP q) : p = q := by
  cases p; cases q
  simp only [keyP, List.cons.injEq, Sum.inl.injEq, and_true] at h
  rw [h.1, h.2]
def PairsAre (kvs : List (List Key × V)) (ps : List (Int × Int)) : Prop := ∀ p : Int × Int, (valV kvs (keyP p)).isSome = decide (p ∈ ps)
theorem PairsAre.nil : PairsAre [] [] := fun h => by rw [valV_nil]; simp
theorem PairsAre.put {kvs : List (List Key × V)} {ps : List (Int × Int)} (k : PairsAre kvs ps) (p : Int × Int) (v : V) : PairsAre (putK kvs (keyP p) v) (ps ++ [p]) := fun j => by
  rw [valV_put]
  by_cases e : j = p
  · subst e; rw [if_pos rfl]; simp
  · rw [if_neg (fun z => e (keyP_inj z)), k j]
    simp [e]
theorem putK_len {κ : Type} [DecidableEq κ] (kvs : List (κ × V)) (k : κ) (v : V) : (putK kvs k v).length ≤ kvs.length + 1 := by
  unfold putK
  split
  · rw [List.length_map]; omega
  · rw [List.length_append, List.length_singleton]; omega
def Bkg.pairs (r : Bkg) : List (Int × Int) := r.hours.map fun h => (r.room, h)
def hadOf (rows : List Bkg) : List (Int × Int) := rows.flatMap Bkg.pairs
theorem mem_pairs {r : Bkg} {p : Int × Int} : p ∈ r.pairs ↔ p.1 = r.room ∧ p.2 ∈ r.hours := by
  unfold Bkg.pairs
  rw [List.mem_map]
  constructor
  · rintro ⟨h, hh, rfl⟩; exact ⟨rfl, hh⟩
  · rintro ⟨h1, h2⟩; exact ⟨p.2, h2, by rw [← h1]⟩
theorem mem_hadOf {rows : List Bkg} {p : Int × Int} : p ∈ hadOf rows ↔ ∃ r ∈ rows, p.1 = r.room ∧ p.2 ∈ r.hours := by
  unfold hadOf
  rw [List.mem_flatMap]
  exact ⟨fun ⟨r, h, e⟩ => ⟨r, h, mem_pairs.mp e⟩, fun ⟨r, h, e⟩ => ⟨r, h, mem_pairs.mpr e⟩⟩
theorem clash_of {r q : Bkg} {h : Int} (e : q.room = r.room) (h1 : h ∈ r.hours) (h2 : h ∈ q.hours) : clash r q = true := by
  unfold clash
  rw [decide_eq_true e, Bool.true_and]
  exact (meetB_iff _ _ _ _ _ _).mpr ⟨h, h2, h1⟩
theorem split_at {rows : List Bkg} {i : Nat} {r : Bkg} (hr : rows[i]? = some r) : rows = rows.take i ++ r :: rows.drop (i + 1) := by
  have hi : i < rows.length := (List.getElem?_eq_some_iff.mp hr).1
  conv => lhs; rw [← List.take_append_drop i rows]
  rw [List.drop_eq_getElem_cons hi, (List.getElem?_eq_some_iff.mp hr).2]
/-- the name at a place stands at none ahead of it -/
theorem name_new {rows : List Bkg} {i : Nat} {r : Bkg} (h : OneName rows) (hr : rows[i]? = some r) : r.name ∉ (rows.take i).map Bkg.name := by
  unfold OneName at h
  rw [split_at hr, List.map_append, List.map_cons] at h
  intro z
  exact (List.nodup_append.mp h).2.2 _ z _ List.mem_cons_self rfl
/-- an hour at a place is had by no booking ahead of it, nor by the hours ahead -/
theorem hour_new {rows : List Bkg} {i j : Nat} {r : Bkg} {h : Int} (hc : NoClash rows) (ok : RowOk r) (hr : rows[i]? = some r) (hj : r.hours[j]? = some h) : (r.room, h) ∉ hadOf (rows.take i) ++ (r.pairs.take j) := by
  intro z
  rcases List.mem_append.mp z with z | z
  · obtain ⟨q, hq, e1, e2⟩ := mem_hadOf.mp z
    rw [NoClash, split_at hr] at hc
    have := (List.pairwise_append.mp hc).2.2 q hq r List.mem_cons_self
    rw [clash_of e1 e2 (List.mem_of_getElem? hj)] at this
    cases this
  · unfold Bkg.pairs at z
    rw [← List.map_take] at z
    obtain ⟨h', hh, e⟩ := List.mem_map.mp z
    have e' : h' = h := congrArg Prod.snd e
    subst e'
    have hi : j < r.hours.length := (List.getElem?_eq_some_iff.mp hj).1
    have e : r.hours = r.hours.take j ++ h' :: r.hours.drop (j + 1) := by
      conv => lhs; rw [← List.take_append_drop j r.hours]
      rw [List.drop_eq_getElem_cons hi, (List.getElem?_eq_some_iff.mp hj).2]
    have nd := nodup_hours ok
    rw [e] at nd
    exact (List.nodup_append.mp nd).2.2 _ hh _ List.mem_cons_self rfl
theorem len_hours {r : Bkg} (h : RowOk r) : r.hours.length ≤ 16800 := by
  rw [Bkg.hours, len_hrs]; exact h.bd.2.2
end RW

namespace RW
open PySem PySem.Spec PyProof.Rows L2
theorem cut_some (ns : List Int) (lo hi : Option Int) : ∃ ms : List Int, cutV (ns.map V.int) lo hi = ms.map V.int ∧ ms.length ≤ ns.length := by
  unfold cutV
  refine ⟨_, by rw [← List.map_drop, ← List.map_take], ?_⟩
  rw [List.length_take, List.length_drop]; omega
/-- who has the room at the hour -/
def hold (rows : List Bkg) (room h : Int) : V := match rows.find? (fun r => decide (r.room = room) && hasB r.start r.stop r.weeks h) with
  | some r => .str r.name
  | none => .non
theorem hold_some {rows : List Bkg} {room h : Int} {r : Bkg} (hc : NoClash rows) (hr : r ∈ rows) (e : r.room = room) (hh : h ∈ r.hours) : hold rows room h = .str r.name := by
  induction rows with
  | nil => cases hr
  | cons q qs ih =>
    obtain ⟨c1, c2⟩ := List.pairwise_cons.mp hc
    unfold hold
    rw [List.find?_cons]
    by_cases z : q.room = room ∧ h ∈ q.hours
    · have : (decide (q.room = room) && hasB q.start q.stop q.weeks h) = true := by rw [decide_eq_true z.1, Bool.true_and]; exact (hasB_iff _ _ _ _).mpr z.2
      rw [this]
      rcases List.mem_cons.mp hr with rfl | hr
      · rfl
      · have := c1 r hr
        rw [clash_of (by rw [e, z.1]) z.2 hh] at this
        cases this
    · have : (decide (q.room = room) && hasB q.start q.stop q.weeks h) = false := by
        rw [Bool.and_eq_false_iff, decide_eq_false_iff_not, Bool.eq_false_iff]
        by_cases z1 : q.room = room
        · exact .inr fun z2 => z ⟨z1, (hasB_iff _ _ _ _).mp z2⟩
        · exact .inl z1
      rw [this]
      rcases List.mem_cons.mp hr with rfl | hr
      · exact absurd ⟨e, hh⟩ z
      · exact ih c2 hr
theorem hold_none {rows : List Bkg} {room h : Int} (hn : ∀ r ∈ rows, r.room = room → h ∉ r.hours) : hold rows room h = .non := by
  unfold hold
  rw [List.find?_eq_none.mpr]
  intro r hr z
  rw [Bool.and_eq_true, decide_eq_true_eq, hasB_iff] at z
  exact hn r hr z.1 z.2
/-- the dict of names by room and hour -/
def ValsAre (kvs : List (List Key × V)) (L : List ((Int × Int) × Str)) : Prop := (∀ p v, valV kvs (keyP p) = some v → ∃ n, (p, n) ∈ L ∧ v = .str n) ∧ ∀ p n, (p, n) ∈ L → (valV kvs (keyP p)).isSome = true
theorem ValsAre.nil : ValsAre [] [] := ⟨fun p v h => (by rw [valV_nil] at h; cases h), fun p n h => (by cases h)⟩
theorem ValsAre.put {kvs : List (List Key × V)} {L : List ((Int × Int) × Str)} (k : ValsAre kvs L) (p : Int × Int) (n : Str) : ValsAre (putK kvs (keyP p) (.str n)) (L ++ [(p, n)]) := by
  refine ⟨fun q v h => ?_, fun q m h => ?_⟩
  · rw [valV_put] at h
    by_cases e : keyP q = keyP p
    · rw [if_pos e] at h
      cases h
      exact ⟨n, by rw [keyP_inj e]; simp, rfl⟩
    · rw [if_neg e] at h
      obtain ⟨m, h1, h2⟩ := k.1 q v h
      exact ⟨m, List.mem_append_left _ h1, h2⟩
  · rw [valV_put]
    by_cases e : keyP q = keyP p
    · rw [if_pos e]; rfl
    · rw [if_neg e]
      rcases List.mem_append.mp h with h | h
      · exact k.2 q m h
      · rw [List.mem_singleton] at h; cases h; exact absurd rfl e
def Bkg.named' (r : Bkg) : List ((Int × Int) × Str) := r.hours.map fun h => ((r.room, h), r.name)
def namedOf (rows : List Bkg) : List ((Int × Int) × Str) := rows.flatMap Bkg.named'
theorem mem_namedOf {rows : List Bkg} {p : Int × Int} {n : Str} : (p, n) ∈ namedOf rows ↔ ∃ r ∈ rows, r.name = n ∧ r.room = p.1 ∧ p.2 ∈ r.hours := by
  unfold namedOf
  rw [List.mem_flatMap]
  constructor
  · rintro ⟨r, hr, h⟩
    obtain ⟨x, hx, e⟩ := List.mem_map.mp h
    cases e
    exact ⟨r, hr, rfl, rfl, hx⟩
  · rintro ⟨r, hr, rfl, e1, e2⟩
    exact ⟨r, hr, List.mem_map.mpr ⟨p.2, e2, by rw [e1]⟩⟩
/-- what the dict tells is who has the room -/
theorem vals_hold {kvs : List (List Key × V)} {rows : List Bkg} (k : ValsAre kvs (namedOf rows)) (hc : NoClash rows) (room h : Int) : (valV kvs (keyP (room, h))).getD .non = hold rows room h ∧ ((valV kvs (keyP (room, h)) = none ∧ hold rows room h = .non) ∨ ∃ n, valV kvs (keyP (room, h)) = some (.str n) ∧ hold rows room h = .str n) := by
  cases e : valV kvs (keyP (room, h)) with
  | none =>
    have : hold rows room h = .non := hold_none fun r hr e1 e2 => by
      have := k.2 (room, h) r.name (mem_namedOf.mpr ⟨r, hr, rfl, e1, e2⟩)
      rw [e] at this; cases this
    exact ⟨this.symm, .inl ⟨rfl, this⟩⟩
  | some v =>
    obtain ⟨n, h1, rfl⟩ := k.1 _ _ e
    obtain ⟨r, hr, rfl, e1, e2⟩ := mem_namedOf.mp h1
    have := hold_some hc hr e1 e2
    exact ⟨this.symm, .inr ⟨r.name, rfl, this⟩⟩
end RW

namespace RW
open PySem PySem.Spec PyProof.Rows L2
def rng (p : Int × Int) : List Int := (List.range (p.2 - p.1).toNat).map fun (j : Nat) => p.1 + (j : Int)
theorem mem_rng {p : Int × Int} {h : Int} : h ∈ rng p ↔ p.1 ≤ h ∧ h < p.2 := by
  unfold rng
  rw [List.mem_map]
  constructor
  · rintro ⟨j, hj, rfl⟩
    have := List.mem_range.mp hj
    omega
  · rintro ⟨h1, h2⟩
    exact ⟨(h - p.1).toNat, List.mem_range.mpr (by omega), by omega⟩
theorem rng_take {p : Int × Int} {j : Nat} (h : j < (p.2 - p.1).toNat) : (rng p).take (j + 1) = (rng p).take j ++ [p.1 + (j : Int)] := by
  rw [List.take_add_one]
  have : (rng p)[j]? = some (p.1 + (j : Int)) := by
    unfold rng
    rw [List.getElem?_map, List.getElem?_range h]; rfl
  rw [this]; rfl
theorem rng_len (p : Int × Int) : (rng p).length = (p.2 - p.1).toNat := by unfold rng; rw [List.length_map, List.length_range]
def pairVs (p : Int × Int) : List V := [.int p.1, .int p.2]
/-- in order, each behind the last, an hour at least between, up to stop -/
def Chained (stop : Int) : Int → List (Int × Int) → Prop
  | _, [] => True
  | last, p :: ps => last < p.1 ∧ p.1 < p.2 ∧ p.2 ≤ stop ∧ Chained stop p.2 ps
def busy (rows : List Bkg) (room h : Int) : Prop := ∃ r ∈ rows, r.room = room ∧ h ∈ r.hours
def GapsOk (rows : List Bkg) (room start stop : Int) (ps : List (Int × Int)) : Prop := Chained stop (start - 1) ps ∧ ∀ h, start ≤ h → h < stop → ((∃ p ∈ ps, p.1 ≤ h ∧ h < p.2) ↔ ¬ busy rows room h)
/-- the last hour told ahead of a place -/
def lastOf (start : Int) (ps : List (Int × Int)) : Int := (ps.getLast?.map Prod.snd).getD (start - 1)
theorem lastOf_nil (start : Int) : lastOf start [] = start - 1 := rfl
theorem lastOf_snoc (start : Int) (ps : List (Int × Int)) (p : Int × Int) : lastOf start (ps ++ [p]) = p.2 := by
  unfold lastOf; rw [List.getLast?_concat]; rfl
theorem chain_at {stop start : Int} : ∀ {ps qs : List (Int × Int)} {p : Int × Int} {last : Int}, Chained stop last (ps ++ p :: qs) → (ps.getLast?.map Prod.snd).getD last < p.1 ∧ p.1 < p.2 ∧ p.2 ≤ stop
  | [], _, _, _, h => ⟨h.1, h.2.1, h.2.2.1⟩
  | [q], _, _, _, h => ⟨h.2.2.2.1, h.2.2.2.2.1, h.2.2.2.2.2.1⟩
  | q :: r :: ps, _, p, _, h => by
    have := chain_at (start := start) (ps := r :: ps) h.2.2.2
    rw [show (q :: r :: ps).getLast? = (r :: ps).getLast? by rw [List.getLast?_cons_cons]]
    cases e : (r :: ps).getLast? with
    | none => rw [List.getLast?_eq_none_iff] at e; cases e
    | some z => rw [e] at this; exact this
theorem pair_split {ps : List (Int × Int)} {i : Nat} {p : Int × Int} (h : ps[i]? = some p) : ps = ps.take i ++ p :: ps.drop (i + 1) := by
  have hi : i < ps.length := (List.getElem?_eq_some_iff.mp h).1
  conv => lhs; rw [← List.take_append_drop i ps]
  rw [List.drop_eq_getElem_cons hi, (List.getElem?_eq_some_iff.mp h).2]
theorem pair_at {H : Hp} {rs : List V} {ps : List (Int × Int)} {i : Nat} {v : V} (t : TupsAt H rs (ps.map pairVs)) (h : rs[i]? = some v) : ∃ a p, v = .ref a ∧ H a = some (.tup (pairVs p)) ∧ ps[i]? = some p := by
  obtain ⟨a, vs, h1, h2, h3⟩ := t.get h
  rw [List.getElem?_map] at h3
  cases e : ps[i]? with
  | none => rw [e] at h3; cases h3
  | some p => rw [e] at h3; cases h3; exact ⟨a, p, h1, h2, rfl⟩
def openOf (ps : List (Int × Int)) : List Int := ps.flatMap rng
theorem mem_openOf {ps : List (Int × Int)} {h : Int} : h ∈ openOf ps ↔ ∃ p ∈ ps, p.1 ≤ h ∧ h < p.2 := by
  unfold openOf
  rw [List.mem_flatMap]
  exact ⟨fun ⟨p, hp, e⟩ => ⟨p, hp, mem_rng.mp e⟩, fun ⟨p, hp, e⟩ => ⟨p, hp, mem_rng.mpr e⟩⟩
def hoursIn (room : Int) (rows : List Bkg) : List Int := rows.flatMap fun r => if r.room = room then r.hours else []
theorem mem_hoursIn {room : Int} {rows : List Bkg} {h : Int} : h ∈ hoursIn room rows ↔ busy rows room h := by
  unfold hoursIn busy
  rw [List.mem_flatMap]
  constructor
  · rintro ⟨r, hr, e⟩
    by_cases z : r.room = room
    · rw [if_pos z] at e; exact ⟨r, hr, z, e⟩
    · rw [if_neg z] at e; cases e
  · rintro ⟨r, hr, z, e⟩
    exact ⟨r, hr, by rw [if_pos z]; exact e⟩
end RW

namespace L2
open PySem PySem.Spec PyProof.Rows
/-! ### ranges of any size -/
theorem turn_long {P : Program} {w : World} {K : PySem.W.Frag} {tg : Expr} (it : Addr) (lo : Int) (n : Nat) : Turn P w K tg (Itr lo n) [it] it (fun i h => IsLongIter h it (lo + (i : Nat) * 1) ((n : Int) - (i : Nat)) 1) where
  mem := by simp
  obj := fun i h st b hb => by
    have e : b = it := by simpa using hb
    subst e
    exact ⟨_, st, fun v z => by
      have z' : Data.fields _ = Data.cell v := z
      cases z'⟩
  keep := fun i h h' st k => k it (by simp) _ st
  item := by
    intro X hP hw hK hc i pins s σ H E I hf st hg
    subst hP hw hK
    obtain ⟨f0, f1, f2, f3, f4, f5⟩ := hf it (by simp)
    have W := Walks.longrange (prog := X.prog) (w := X.w) (I.ok.hd hc) it lo 1 n
    refine W.item i s _ _ hg st fun v h' tk hv st' kk => ?_
    obtain ⟨t, rfl⟩ := hv
    have I1 : Inv X pins σ H { s with heap := h', toks := tk } := I.turned (fun b o hb e => kk b o (by simpa using hb) e) f0 f1 f3 f4 f5
    refine ⟨_, rfl, go_of (s := { s with heap := h', toks := tk }) (n := "longrange_iterator") st' rfl rfl (by decide) ⟨.int (lo + i), H, I1, ⟨t, ?_⟩, ⟨rfl, rfl⟩, st', fun b hb => (hf b hb).1⟩⟩
    rw [Int.mul_one]
  done := by
    intro X hP hw hK hc i pins s σ H E I hf st hg
    subst hP hw hK
    obtain ⟨f0, f1, f2, f3, f4, f5⟩ := hf it (by simp)
    exact wpAny_pyNext_long_end (I.ok.hd hc) st (by have : n ≤ i := hg; omega) fun h' eb => ⟨rfl, I.turned (t' := s.toks) (fun b o hb e => eb b o hb e) f0 f1 f3 f4 f5⟩
  self := fun _ _ _ _ _ st h => wpAny_pyIter_longiter st h
section
variable {X : Cx} {tg : Expr}
theorem range_any {pins : List (Addr × Obj)} {σ : St} {H : Hp} {s : Shared} {R : It → Hp → Prop} {E : Value → Shared → Prop} {lo hi : Int} {t u v : Tok} {tk : Nat} (I : Inv X pins σ H s)
    (q : R (Itr lo (hi - lo).toNat) H) : wpAny (model X.prog X.w) X.A (pyIter (.ref s.heap.objs.size)) (PIE X pins σ tg R) E { s with heap := s.heap.push { cls := .type "range", data := .fields #[.int lo t, .int hi u, .int 1 v] }, toks := tk } := by
  have I1 : Inv X pins σ H { s with heap := s.heap.push { cls := .type "range", data := .fields #[.int lo t, .int hi u, .int 1 v] }, toks := tk } := I.kept fun b o e => Heap.get?_push_of_some _ e
  have e1 : lo + ((0 : Nat) : Int) * 1 = lo := by simp
  have e2 : (((hi - lo).toNat : Nat) : Int) - ((0 : Nat) : Int) = Builtin.Range.rangeSize lo hi 1 := by rw [rangeSize_one]; split <;> omega
  cases hsm : Builtin.Range.small lo hi 1 with
  | true =>
    refine wpAny_pyIter_range (IsRange.new ..) hsm ?_
    refine ⟨(s.heap.push { cls := .type "range", data := .fields #[.int lo t, .int hi u, .int 1 v] }).objs.size, [(s.heap.push { cls := .type "range", data := .fields #[.int lo t, .int hi u, .int 1 v] }).objs.size], _, _, H, rfl,
      I1.kept (t' := tk) fun b o e => Heap.get?_push_of_some _ e, turn_range _ lo (hi - lo).toNat, ?_, fun b hb => ?_, q⟩
    · show IsRangeIter _ _ (lo + ((0 : Nat) : Int) * 1) ((((hi - lo).toNat : Nat) : Int) - ((0 : Nat) : Int)) 1
      rw [e1, e2]
      exact Heap.get?_push_size _ rfl
    · have e : b = (s.heap.push { cls := .type "range", data := .fields #[.int lo t, .int hi u, .int 1 v] }).objs.size := by simpa using hb
      subst e
      exact I1.fpOk (Nat.le_refl _) (I1.hok.fresh (Nat.le_refl _))
  | false =>
    refine wpAny_pyIter_longrange (IsRange.new ..) hsm ?_
    refine ⟨(s.heap.push { cls := .type "range", data := .fields #[.int lo t, .int hi u, .int 1 v] }).objs.size, [(s.heap.push { cls := .type "range", data := .fields #[.int lo t, .int hi u, .int 1 v] }).objs.size], _, _, H, rfl,
      I1.kept (t' := tk) fun b o e => Heap.get?_push_of_some _ e, turn_long _ lo (hi - lo).toNat, ?_, fun b hb => ?_, q⟩
    · show IsLongIter _ _ (lo + ((0 : Nat) : Int) * 1) ((((hi - lo).toNat : Nat) : Int) - ((0 : Nat) : Int)) 1
      rw [e1, e2]
      exact Heap.get?_push_size _ rfl
    · have e : b = (s.heap.push { cls := .type "range", data := .fields #[.int lo t, .int hi u, .int 1 v] }).objs.size := by simpa using hb
      subst e
      exact I1.fpOk (Nat.le_refl _) (I1.hok.fresh (Nat.le_refl _))
def iRngA (ta : TA) : TI := fun σ H R => ta σ H fun vs H1 => ∃ i j : Int, vs = [.int i, .int j] ∧ R (Itr i (j - i).toNat) H1
theorem pi_range2A {a b : Expr} {ta : TA} {p pos : Pos} (hg : Gl X "range") (hm : X.mg "range" = none) (ha : PA X [a, b] ta) (hs : starEach [a, b] X.env = [(false, eval a X.env), (false, eval b X.env)] := by rfl) (hs2 : starEach [b] X.env = [(false, eval b X.env)] := by rfl) :
    PI X tg (.Call (.Name "range" p) [a, b] [] pos) (iRngA ta) := by
  intro pins s σ H R I h
  refine Call_ (ld_blt I hg hm boot_range (PyProof.Rows.callWith_type1 (thn (ha pos pins s σ H _ I h) fun us s1 ⟨vs, H1, I1, r1, q1⟩ => ?_) (by rw [hs, hs2]) (by rw [hs2]; rfl)))
  obtain ⟨i, j, e, q⟩ := q1
  subst e
  cases r1 with
  | cons r rr =>
    cases rr with
    | cons r' rr =>
      cases rr
      obtain ⟨t, rfl⟩ := r
      obtain ⟨t', rfl⟩ := r'
      exact call_range_2 (range_any I1 q)
end
end L2
namespace L2
open PySem
theorem atI_any {α : Type} (f : α → V) (l : List α) (j : Int) (h0 : -(l.length : Int) ≤ j) (h1 : j < l.length) : ∃ x, x ∈ l ∧ atI (l.map f) j = some (f x) := by
  by_cases h : 0 ≤ j
  · exact atI_map f l j h h1
  · have hj : (j + l.length).toNat < l.length := by omega
    refine ⟨l[(j + l.length).toNat], List.getElem_mem hj, ?_⟩
    unfold atI ixN
    rw [List.length_map, if_neg h]
    rw [if_pos (by omega)]
    show (l.map f)[_]? = _
    rw [List.getElem?_map]
    have e : (((l.length : Int) + j).toNat) = (j + l.length).toNat := by omega
    first
      | rw [List.getElem?_eq_getElem hj]; rfl
      | rw [e, List.getElem?_eq_getElem hj]; rfl
end L2

namespace L2
open PySem PySem.Spec PyProof.Rows
theorem vals_pairs : ∀ {ns : List Int} {its : List Value}, Vals (ns.map V.int) its → ∃ xs : List (Int × Tok), its = xs.map (fun p => Value.int p.1 p.2) ∧ ns = xs.map (·.1)
  | [], _, h => by cases h; exact ⟨[], rfl, rfl⟩
  | n :: ns, _, h => by
    cases h with
    | cons r t =>
      obtain ⟨tk, rfl⟩ := r
      obtain ⟨xs, e1, e2⟩ := vals_pairs t
      exact ⟨(n, tk) :: xs, by rw [e1]; rfl, by rw [e2]; rfl⟩
section
variable {X : Cx}
theorem call_maxL (hc : X.calm = true) : CallR X (.builtin "max") (fun xs H Q => ∃ (p : Addr) (ns : List Int), xs = [.ref p] ∧ SqL X.K H p (ns.map V.int) ∧ 0 < ns.length ∧ ∀ M, M ∈ ns → (∀ a ∈ ns, a ≤ M) → Q (.int M) H) := by
  intro pins s σ H xs us Q I r h
  obtain ⟨p, ns, rfl, hq, hne, q⟩ := h
  obtain ⟨u, rfl, rx⟩ := vals1 r
  cases rx
  obtain ⟨its, r', pl, hz⟩ := I.list hq
  obtain ⟨ys, e1, e2⟩ := vals_pairs r'
  have hl : s.heap.IsList p (intItems ys.toArray) := by
    have := pl.isList
    rw [e1] at this
    have e : intItems ys.toArray = (ys.map fun p => Value.int p.1 p.2).toArray := by simp [intItems]
    rw [e]; exact this
  have hsz : 0 < ys.toArray.size := by rw [e2, List.length_map] at hne; simpa using hne
  have hval : ∀ j, numAt ys.toArray j = ns.getD j 0 := fun j => by
    rw [e2]
    simp [numAt, List.getD_eq_getElem?_getD]
  refine max_intList (I.ok.hd hc) hl hsz fun v h' tk hv hk => ?_
  obtain ⟨t, rfl⟩ := intItems_at hv
  obtain ⟨h1, h2⟩ := argBest_gt (numAt ys.toArray) (ys.toArray.size - 1)
  have hlen : ns.length = ys.toArray.size := by rw [e2]; simp
  generalize hM : numAt ys.toArray (argBest (fun i j => decide (numAt ys.toArray i > numAt ys.toArray j)) (ys.toArray.size - 1)) = M at *
  refine ⟨.int M, H, I.kept hk, ⟨t, rfl⟩, q _ ?_ fun a ha => ?_⟩
  · rw [← hM, hval, List.getD_eq_getElem?_getD, List.getElem?_eq_getElem (by omega)]
    exact List.getElem_mem _
  · obtain ⟨j, hj⟩ := List.getElem?_of_mem ha
    have hjl : j < ns.length := (List.getElem?_eq_some_iff.mp hj).1
    have := h2 j (by omega)
    rw [hval j, List.getD_eq_getElem?_getD, hj] at this
    exact this
end
end L2
namespace L2
open PySem PySem.Spec PyProof.Rows
theorem paired_at {α β : Type} {F : α → β → Prop} : ∀ {l₁ : List α} {l₂ : List β} {j : Nat} {a : α} {b : β}, Paired F l₁ l₂ → l₁[j]? = some a → l₂[j]? = some b → F a b
  | _, _, _, _, _, .nil, e, _ => by simp at e
  | _, _, 0, _, _, .cons h _, e1, e2 => by simp at e1 e2; subst e1 e2; exact h
  | _, _, j + 1, _, _, .cons _ t, e1, e2 => paired_at (j := j) t (by simpa using e1) (by simpa using e2)
theorem key_rel {k : Key} {v : Value} (h : keyIs k v = true) : RelV (kV k) v := by
  cases k with
  | inl i =>
    cases v <;> simp [keyIs, Value.isInt] at h
    · subst h; exact ⟨_, rfl⟩
  | inr x =>
    cases v <;> simp [keyIs, Value.isStrOf] at h
    · subst h; exact ⟨_, rfl⟩
theorem vals_of_items {xs : List V} : ∀ {its : List Value}, its.length = xs.length → (∀ (j : Nat) (v : Value) (x : V), its[j]? = some v → xs[j]? = some x → RelV x v) → Vals xs its := by
  induction xs with
  | nil => intro its hl _; cases its with | nil => exact .nil | cons _ _ => cases hl
  | cons x xs ih =>
    intro its hl h
    cases its with
    | nil => cases hl
    | cons v vs => exact .cons (h 0 v x rfl rfl) (ih (Nat.succ.inj hl) fun j v' x' e1 e2 => h (j + 1) v' x' e1 e2)
section
variable {X : Cx}
/-- list(d): the keys -/
theorem call_listD (hc : X.calm = true) : CallR X (.type "list") (fun xs H Q => ∃ (a : Addr) (kvs : List (Key × V)), xs = [.ref a] ∧ H a = some (.dK kvs) ∧ ∀ l, H l = none → Q (.ref l) (upd H l (.lst (kvs.map fun kv => kV kv.1)))) := by
  intro pins s σ H xs us Q I r h
  obtain ⟨a, kvs, rfl, ha, q⟩ := h
  obtain ⟨u, rfl, rx⟩ := vals1 r
  cases rx
  obtain ⟨hz, lo, vs, kv, dd⟩ := dk_of I.hok ha
  obtain ⟨ep, hm⟩ := dd.dictAt
  have hl : kvs.length = vs.length := Paired.length kv
  refine PySem.W.kdl_call (PySem.W.kdl_dict lo) (I.ok.hd hc) hm (by omega) fun h' tk acc' c' kp e it => ?_
  refine ⟨.ref s.heap.objs.size, _, I.laid (t' := tk) kp (Nat.le_refl _) (show ObjOk X.prog X.w _ h' _ (.lst (kvs.map fun kv => kV kv.1)) from ⟨by rw [List.length_map]; exact hz, acc'.toList, c', ?_, by rw [Array.toArray_toList]; exact e⟩), rfl, q _ (I.hok.fresh (Nat.le_refl _))⟩
  refine vals_of_items (by rw [Array.length_toList, it.1, List.length_map, hl]) fun j v x e1 e2 => ?_
  obtain ⟨k, y, e3, e4⟩ := it.2 j v (by rw [← Array.getElem?_toList]; exact e1)
  rw [List.getElem?_map] at e2
  cases e5 : kvs[j]? with
  | none => rw [e5] at e2; cases e2
  | some p =>
    rw [e5] at e2
    cases e2
    have hk : p.1 = k := (paired_at kv e5 e3).1
    show RelV (kV p.1) v
    rw [hk]
    exact key_rel e4
end
end L2

namespace RW
open PySem PySem.Spec PyProof.Rows L2
def inW (x : Int × Int) (h : Int) : Bool := decide (x.1 ≤ h) && decide (h < x.2)
def atW (ws : List (Int × Int)) (h : Int) (k : Nat) : Bool := match ws[k]? with | some x => inW x h | none => false
def placesN (ws : List (Int × Int)) (h : Int) (n : Nat) : List Nat := (List.range n).filter (atW ws h)
def places (ws : List (Int × Int)) (h : Int) : List Nat := placesN ws h ws.length
def cntN (ws : List (Int × Int)) (n : Nat) (h : Int) : Nat := (placesN ws h n).length
theorem placesN_succ (ws : List (Int × Int)) (h : Int) (n : Nat) : placesN ws h (n + 1) = placesN ws h n ++ if atW ws h n then [n] else [] := by
  unfold placesN
  rw [List.range_succ, List.filter_append]
  congr 1
  cases e : atW ws h n <;> simp [e]
theorem cntN_succ (ws : List (Int × Int)) (h : Int) (n : Nat) : cntN ws (n + 1) h = cntN ws n h + if atW ws h n then 1 else 0 := by
  unfold cntN
  rw [placesN_succ, List.length_append]
  cases atW ws h n <;> rfl
/-- what the dict of counts tells -/
def Counts (kvs : List (Key × V)) (c : Int → Nat) : Prop := (∀ h : Int, valV kvs (Sum.inl h : Key) = if c h = 0 then none else some (.int (c h))) ∧ ∀ kv ∈ kvs, ∃ h : Int, kv.1 = Sum.inl h
theorem Counts.nil : Counts [] (fun _ => 0) := ⟨fun h => by rw [valV_nil]; rfl, fun kv h => by cases h⟩
theorem Counts.ext {kvs : List (Key × V)} {c d : Int → Nat} (k : Counts kvs c) (e : ∀ h, c h = d h) : Counts kvs d := ⟨fun h => by rw [← e]; exact k.1 h, k.2⟩
theorem Counts.put {kvs : List (Key × V)} {c : Int → Nat} (k : Counts kvs c) (h : Int) : Counts (putK kvs (Sum.inl h) (.int ((c h : Nat) + 1))) (fun j => if j = h then c j + 1 else c j) := by
  refine ⟨fun j => ?_, fun kv hkv => ?_⟩
  · rw [valV_put]
    show _ = if (if j = h then c j + 1 else c j) = 0 then none else some (V.int ((if j = h then c j + 1 else c j : Nat) : Int))
    by_cases e : j = h
    · subst e
      rw [if_pos rfl, if_pos rfl, if_neg (by omega)]
      rfl
    · rw [if_neg (fun z => e (Sum.inl.inj z)), if_neg e]
      exact k.1 j
  · unfold putK at hkv
    split at hkv
    · obtain ⟨q, hq, e⟩ := List.mem_map.mp hkv
      obtain ⟨z, hz⟩ := k.2 q hq
      split at e
      · subst e; exact ⟨z, hz⟩
      · subst e; exact ⟨z, hz⟩
    · rcases List.mem_append.mp hkv with hq | hq
      · exact k.2 kv hq
      · rw [List.mem_singleton.mp hq]; exact ⟨h, rfl⟩
theorem Counts.get {kvs : List (Key × V)} {c : Int → Nat} (k : Counts kvs c) (h : Int) : (valV kvs (Sum.inl h : Key)).getD (.int 0) = .int (c h) := by
  rw [k.1 h]
  by_cases e : c h = 0
  · rw [if_pos e, e]; rfl
  · rw [if_neg e]; rfl
def hourOf : Key → Int
  | .inl h => h
  | .inr _ => 0
theorem Counts.keys {kvs : List (Key × V)} {c : Int → Nat} (k : Counts kvs c) : kvs.map (fun kv => kV kv.1) = (kvs.map fun kv => hourOf kv.1).map V.int := by
  rw [List.map_map]
  refine List.map_congr_left fun kv hkv => ?_
  obtain ⟨h, e⟩ := k.2 kv hkv
  show kV kv.1 = V.int (hourOf kv.1)
  rw [e]; rfl
theorem valV_mem {kvs : List (Key × V)} {k : Key} : (valV kvs k).isSome = true ↔ ∃ kv ∈ kvs, kv.1 = k := by
  rw [← valV_any, List.any_eq_true]
  exact ⟨fun ⟨kv, h, e⟩ => ⟨kv, h, of_decide_eq_true e⟩, fun ⟨kv, h, e⟩ => ⟨kv, h, decide_eq_true e⟩⟩
theorem Counts.mem {kvs : List (Key × V)} {c : Int → Nat} (k : Counts kvs c) {h : Int} : h ∈ (kvs.map fun kv => hourOf kv.1) ↔ 0 < c h := by
  have e := valV_mem (kvs := kvs) (k := (Sum.inl h : Key))
  rw [k.1 h] at e
  rw [List.mem_map]
  constructor
  · rintro ⟨kv, hkv, rfl⟩
    obtain ⟨z, hz⟩ := k.2 kv hkv
    have hz' : hourOf kv.1 = z := by rw [hz]; rfl
    rw [hz'] at e ⊢
    have := e.mpr ⟨kv, hkv, hz⟩
    by_cases q : c z = 0
    · rw [if_pos q] at this; cases this
    · omega
  · intro hpos
    rw [if_neg (by omega)] at e
    obtain ⟨kv, hkv, e'⟩ := e.mp rfl
    exact ⟨kv, hkv, by rw [e']; rfl⟩
/-- the hours of a wish told so far -/
def partC (ws : List (Int × Int)) (k : Nat) (x : Int × Int) (j : Nat) (h : Int) : Nat := cntN ws k h + if x.1 ≤ h ∧ h < x.1 + (j : Int) then 1 else 0
def partP (ws : List (Int × Int)) (k : Nat) (x : Int × Int) (j : Nat) (h : Int) : List Nat := placesN ws h k ++ if x.1 ≤ h ∧ h < x.1 + (j : Int) then [k] else []
theorem partC_zero (ws : List (Int × Int)) (k : Nat) (x : Int × Int) (h : Int) : cntN ws k h = partC ws k x 0 h := by
  unfold partC; rw [if_neg (by omega)]; rfl
theorem partP_zero (ws : List (Int × Int)) (k : Nat) (x : Int × Int) (h : Int) : placesN ws h k = partP ws k x 0 h := by
  unfold partP; rw [if_neg (by omega), List.append_nil]
theorem partC_succ (ws : List (Int × Int)) (k : Nat) (x : Int × Int) (j : Nat) (h : Int) : (if h = x.1 + (j : Int) then partC ws k x j h + 1 else partC ws k x j h) = partC ws k x (j + 1) h := by
  unfold partC
  by_cases e : h = x.1 + (j : Int)
  · rw [if_pos e, if_neg (by omega), if_pos (by omega)]
  · rw [if_neg e]
    by_cases q : x.1 ≤ h ∧ h < x.1 + (j : Int)
    · rw [if_pos q, if_pos (by omega)]
    · rw [if_neg q, if_neg (by omega)]
theorem partP_succ (ws : List (Int × Int)) (k : Nat) (x : Int × Int) (j : Nat) (h : Int) : partP ws k x (j + 1) h = if x.1 + (j : Int) = h then partP ws k x j h ++ [k] else partP ws k x j h := by
  unfold partP
  by_cases e : x.1 + (j : Int) = h
  · rw [if_pos e, if_pos (by omega), if_neg (by omega), List.append_nil]
  · rw [if_neg e]
    by_cases q : x.1 ≤ h ∧ h < x.1 + (j : Int)
    · rw [if_pos q, if_pos (by omega)]
    · rw [if_neg q, if_neg (by omega)]
theorem partC_all {ws : List (Int × Int)} {k : Nat} {x : Int × Int} (hx : ws[k]? = some x) (h : Int) : partC ws k x (x.2 - x.1).toNat h = cntN ws (k + 1) h := by
  rw [cntN_succ, partC]
  have : atW ws h k = inW x h := by unfold atW; rw [hx]
  rw [this]
  unfold inW
  by_cases q : x.1 ≤ h ∧ h < x.2
  · rw [if_pos (by omega), decide_eq_true q.1, decide_eq_true q.2]; rfl
  · rw [if_neg (by omega)]
    by_cases q1 : x.1 ≤ h
    · rw [decide_eq_true q1, decide_eq_false (fun z => q ⟨q1, z⟩)]; rfl
    · rw [decide_eq_false q1]; rfl
theorem partP_all {ws : List (Int × Int)} {k : Nat} {x : Int × Int} (hx : ws[k]? = some x) (h : Int) : partP ws k x (x.2 - x.1).toNat h = placesN ws h (k + 1) := by
  rw [placesN_succ, partP]
  have : atW ws h k = inW x h := by unfold atW; rw [hx]
  rw [this]
  unfold inW
  by_cases q : x.1 ≤ h ∧ h < x.2
  · rw [if_pos (by omega), decide_eq_true q.1, decide_eq_true q.2]; rfl
  · rw [if_neg (by omega)]
    by_cases q1 : x.1 ≤ h
    · rw [decide_eq_true q1, decide_eq_false (fun z => q ⟨q1, z⟩)]; rfl
    · rw [decide_eq_false q1]; rfl
theorem placesN_len (ws : List (Int × Int)) (h : Int) (n : Nat) : (placesN ws h n).length ≤ n := Nat.le_trans (List.length_filter_le _ _) (by rw [List.length_range]; omega)
theorem crowd_pos {ws : List (Int × Int)} {x : Int × Int} {k : Nat} (hk : ws[k]? = some x) (hx : x.1 < x.2) : 0 < cntN ws ws.length x.1 := by
  have hl : k < ws.length := (List.getElem?_eq_some_iff.mp hk).1
  unfold cntN placesN
  refine List.length_pos_of_mem (a := k) (List.mem_filter.mpr ⟨List.mem_range.mpr hl, ?_⟩)
  unfold atW
  rw [hk]
  show inW x x.1 = true
  unfold inW
  rw [decide_eq_true (Int.le_refl _), decide_eq_true hx]; rfl
end RW

namespace L2
open PySem PyProof.Rows
/-! ### sorting lists of any length: what the order's test answers -/
def gallopS : Bool → Keyed → Array Keyed → Nat → Nat → Nat → StateT SortSt Sem (Option Nat) := sortPriv% PySem.Builtin.gallop
def mergeLoS : Array Keyed → Array Keyed → StateT SortSt Sem (Array Keyed) := sortPriv% PySem.Builtin.mergeLo
def mergeHiS : Array Keyed → Array Keyed → StateT SortSt Sem (Array Keyed) := sortPriv% PySem.Builtin.mergeHi
structure LtOk (M : Model) (A : Around) (E : Value → Shared → Prop) (s : Shared) (O : KeyOrd) (key : Keyed → O.α) (knd : SortKind) (D : Keyed → Prop) : Prop where
  lt : ∀ {x y : Keyed} {st : SortSt} {Q : Option Bool → SortSt → Prop}, D x → D y → kindOf st = knd → Q (some (O.blt (key x) (key y))) st → wpS M A E s (lt' x y) Q st
section
variable {M : Model} {A : Around} {E : Value → Shared → Prop} {s : Shared} {O : KeyOrd} {key : Keyed → O.α} {knd : SortKind} {D : Keyed → Prop}
theorem wpS_elemS {arr : Array Keyed} {i : Nat} {p : Keyed} {st : SortSt} {Q : Keyed → SortSt → Prop} (h : arr[i]? = some p) (q : Q p st) : wpS M A E s (elem' arr i) Q st := by
  rw [elem'_eq, h]
  exact wpS_pure q
theorem wpS_gallopS (hL : LtOk M A E s O key knd D) {left : Bool} {kk : Keyed} {arr : Array Keyed} {base n hint : Nat} {st : SortSt} {Q : Option Nat → SortSt → Prop} (hk : kindOf st = knd) (hD : ∀ i, i < n → ∃ x, arr[base + i]? = some x ∧ D x) (hkey : D kk) (hh : hint < n)
    (B : Nat → Bool) (hB : ∀ i x, i < n → arr[base + i]? = some x → B i = if left then O.blt (key x) (key kk) else !O.blt (key kk) (key x)) (hm : ∀ i j, i ≤ j → j < n → B j = true → B i = true)
    (h : ∀ k, k ≤ n → (∀ i, i < k → B i = true) → (∀ i, k ≤ i → i < n → B i = false) → Q (some k) st) : wpS M A E s (gallopS left kk arr base n hint) Q st := by
  have hm' : ∀ i j, i ≤ j → j < n → B i = false → B j = false := fun i j h1 h2 h3 => by
    cases e : B j with
    | false => rfl
    | true => rw [hm i j h1 h2 e] at h3; cases h3
  have bey : ∀ (i : Nat) (R : Option Bool → SortSt → Prop), i < n → R (some (B i)) st → wpS M A E s (do let x ← elem' arr (base + i); if left = true then lt' x kk else do let r ← lt' kk x; pure (Option.map (fun x => !x) r)) R st := fun i R hi hR => by
    obtain ⟨x, hx, dx⟩ := hD i hi
    refine wpS_bind (wpS_elemS hx ?_)
    have hb := hB i x hi hx
    cases left with
    | true =>
      rw [if_pos rfl] at hb ⊢
      exact hL.lt dx hkey hk (by rw [← hb]; exact hR)
    | false =>
      rw [if_neg Bool.false_ne_true] at hb ⊢
      exact wpS_bind (hL.lt hkey dx hk (wpS_pure (by rw [hb] at hR; exact hR)))
  refine wpS_bind (bey hint _ hh ?_)
  dsimp only
  cases e : B hint with
  | true =>
    rw [if_pos rfl]
    refine wpS_bind (wpS_mono (wpS_forRange (I := fun x c st' => st' = st ∧ ∃ l o, c = (none, l, o) ∧ l < o ∧ x + 1 ≤ o ∧ hint + l < n ∧ B (hint + l) = true)
      (Q := fun c st' => st' = st ∧ ∃ l o, c = (none, l, o) ∧ l < o ∧ hint + l < n ∧ B (hint + l) = true ∧ (n - hint ≤ o ∨ (hint + o < n ∧ B (hint + o) = false))) ?_ ?_ ⟨rfl, 0, 1, rfl, by omega, by omega, by omega, e⟩) ?_)
    · rintro x c st' _ hx ⟨rfl, l, o, rfl, g1, g2, g3, g4⟩
      dsimp only
      by_cases z : o ≥ n - hint
      · rw [if_pos z]
        exact wpS_pure ⟨rfl, l, o, rfl, g1, g3, g4, .inl z⟩
      · rw [if_neg z]
        refine wpS_bind (bey _ _ (by omega) ?_)
        cases e2 : B (hint + o) with
        | true =>
          dsimp only
          rw [if_neg (by decide)]
          exact wpS_pure ⟨rfl, o, 2 * o + 1, rfl, by omega, by omega, by omega, e2⟩
        | false =>
          dsimp only
          rw [if_pos (by decide)]
          exact wpS_pure ⟨rfl, l, o, rfl, g1, g3, g4, .inr ⟨by omega, e2⟩⟩
    · rintro c st' ⟨rfl, l, o, rfl, g1, g2, g3, g4⟩
      exact ⟨rfl, l, o, rfl, g1, g3, g4, .inl (by omega)⟩
    · rintro c st' ⟨rfl, l, o, rfl, g1, g3, g4, g5⟩
      dsimp only
      have h1 : (hint + l + 1) ≤ (hint + min o (n - hint)) := by omega
      have h2 : (hint + min o (n - hint)) ≤ n := by omega
      have h3 : ∀ i, i < (hint + l + 1) → B i = true := fun i hi => hm i _ (by omega) g3 g4
      have h4 : ∀ i, (hint + min o (n - hint)) ≤ i → i < n → B i = false := fun i h1 h2 => by
        rcases g5 with g5 | ⟨g5, g6⟩
        · omega
        · exact hm' _ i (by omega) h2 g6
      generalize (hint + l + 1) = lo at h1 h3
      generalize (hint + min o (n - hint)) = hi at h1 h2 h4
      refine wpS_bind (wpS_mono (wpS_forRange (I := fun x c st2 => st2 = st' ∧ ∃ l r, c = (none, l, r) ∧ l ≤ r ∧ r ≤ n ∧ r - l ≤ n - x ∧ (∀ i, i < l → B i = true) ∧ (∀ i, r ≤ i → i < n → B i = false))
        (Q := fun c st2 => st2 = st' ∧ ∃ l, c = (none, l, l) ∧ l ≤ n ∧ (∀ i, i < l → B i = true) ∧ (∀ i, l ≤ i → i < n → B i = false)) ?_ ?_ ⟨rfl, lo, hi, rfl, h1, h2, by omega, h3, h4⟩) ?_)
      · rintro x c st2 _ hx ⟨rfl, l, r, rfl, g1, g2, g3, g4, g5⟩
        dsimp only
        by_cases z : l ≥ r
        · rw [if_pos z]
          have : r = l := by omega
          subst this
          exact wpS_pure ⟨rfl, r, rfl, g2, g4, g5⟩
        · rw [if_neg z]
          refine wpS_bind (bey _ _ (by omega) ?_)
          cases e : B (l + (r - l) / 2) with
          | true =>
            dsimp only
            rw [if_pos rfl]
            exact wpS_pure ⟨rfl, _, _, rfl, by omega, g2, by omega, fun i hi => hm i _ (by omega) (by omega) e, g5⟩
          | false =>
            dsimp only
            rw [if_neg Bool.false_ne_true]
            exact wpS_pure ⟨rfl, _, _, rfl, by omega, by omega, by omega, g4, fun i h5 h6 => hm' _ i (by omega) h6 e⟩
      · rintro c st2 ⟨rfl, l, r, rfl, g1, g2, g3, g4, g5⟩
        have : r = l := by omega
        subst this
        exact ⟨rfl, r, rfl, g2, g4, g5⟩
      · rintro c st2 ⟨rfl, l, rfl, g1, g2, g3⟩
        exact wpS_pure (h l g1 g2 g3)
  | false =>
    rw [if_neg Bool.false_ne_true]
    refine wpS_bind (wpS_mono (wpS_forRange (I := fun x c st' => st' = st ∧ ∃ l o, c = (none, l, o) ∧ l < o ∧ x + 1 ≤ o ∧ l ≤ hint ∧ B (hint - l) = false)
      (Q := fun c st' => st' = st ∧ ∃ l o, c = (none, l, o) ∧ l < o ∧ l ≤ hint ∧ B (hint - l) = false ∧ (hint + 1 ≤ o ∨ (o ≤ hint ∧ B (hint - o) = true))) ?_ ?_ ⟨rfl, 0, 1, rfl, by omega, by omega, by omega, e⟩) ?_)
    · rintro x c st' _ hx ⟨rfl, l, o, rfl, g1, g2, g3, g4⟩
      dsimp only
      by_cases z : o ≥ hint + 1
      · rw [if_pos z]
        exact wpS_pure ⟨rfl, l, o, rfl, g1, g3, g4, .inl z⟩
      · rw [if_neg z]
        refine wpS_bind (bey _ _ (by omega) ?_)
        cases e2 : B (hint - o) with
        | true =>
          dsimp only
          rw [if_pos rfl]
          exact wpS_pure ⟨rfl, l, o, rfl, g1, g3, g4, .inr ⟨by omega, e2⟩⟩
        | false =>
          dsimp only
          rw [if_neg Bool.false_ne_true]
          exact wpS_pure ⟨rfl, o, 2 * o + 1, rfl, by omega, by omega, by omega, e2⟩
    · rintro c st' ⟨rfl, l, o, rfl, g1, g2, g3, g4⟩
      exact ⟨rfl, l, o, rfl, g1, g3, g4, .inl (by omega)⟩
    · rintro c st' ⟨rfl, l, o, rfl, g1, g3, g4, g5⟩
      dsimp only
      have h1 : (hint + 1 - min o (hint + 1)) ≤ (hint - l) := by omega
      have h2 : (hint - l) ≤ n := by omega
      have h3 : ∀ i, i < (hint + 1 - min o (hint + 1)) → B i = true := fun i hi => by
        rcases g5 with g5 | ⟨g5, g6⟩
        · omega
        · exact hm i _ (by omega) (by omega) g6
      have h4 : ∀ i, (hint - l) ≤ i → i < n → B i = false := fun i h1 h2 => hm' _ i (by omega) h2 g4
      generalize (hint + 1 - min o (hint + 1)) = lo at h1 h3
      generalize (hint - l) = hi at h1 h2 h4
      refine wpS_bind (wpS_mono (wpS_forRange (I := fun x c st2 => st2 = st' ∧ ∃ l r, c = (none, l, r) ∧ l ≤ r ∧ r ≤ n ∧ r - l ≤ n - x ∧ (∀ i, i < l → B i = true) ∧ (∀ i, r ≤ i → i < n → B i = false))
        (Q := fun c st2 => st2 = st' ∧ ∃ l, c = (none, l, l) ∧ l ≤ n ∧ (∀ i, i < l → B i = true) ∧ (∀ i, l ≤ i → i < n → B i = false)) ?_ ?_ ⟨rfl, lo, hi, rfl, h1, h2, by omega, h3, h4⟩) ?_)
      · rintro x c st2 _ hx ⟨rfl, l, r, rfl, g1, g2, g3, g4, g5⟩
        dsimp only
        by_cases z : l ≥ r
        · rw [if_pos z]
          have : r = l := by omega
          subst this
          exact wpS_pure ⟨rfl, r, rfl, g2, g4, g5⟩
        · rw [if_neg z]
          refine wpS_bind (bey _ _ (by omega) ?_)
          cases e : B (l + (r - l) / 2) with
          | true =>
            dsimp only
            rw [if_pos rfl]
            exact wpS_pure ⟨rfl, _, _, rfl, by omega, g2, by omega, fun i hi => hm i _ (by omega) (by omega) e, g5⟩
          | false =>
            dsimp only
            rw [if_neg Bool.false_ne_true]
            exact wpS_pure ⟨rfl, _, _, rfl, by omega, by omega, by omega, g4, fun i h5 h6 => hm' _ i (by omega) h6 e⟩
      · rintro c st2 ⟨rfl, l, r, rfl, g1, g2, g3, g4, g5⟩
        have : r = l := by omega
        subst this
        exact ⟨rfl, r, rfl, g2, g4, g5⟩
      · rintro c st2 ⟨rfl, l, rfl, g1, g2, g3⟩
        exact wpS_pure (h l g1 g2 g3)
end
end L2

namespace L2
open PySem PyProof.Rows
/-! ### two sorted lists are merged -/
section
variable {O : KeyOrd} {key : Keyed → O.α}
abbrev leK (O : KeyOrd) (key : Keyed → O.α) (x y : Keyed) : Prop := O.blt (key y) (key x) = false
theorem leK_of {x y : Keyed} (h : O.blt (key x) (key y) = true) : leK O key x y := KeyOrd.kle_of_klt (O := O) h
theorem leK_trans {x y z : Keyed} (h1 : leK O key x y) (h2 : leK O key y z) : leK O key x z := KeyOrd.kle_trans (O := O) h1 h2
structure MI (O : KeyOrd) (key : Keyed → O.α) (A B o : List Keyed) (ia ib : Nat) : Prop where
  p : (o ++ (A.drop ia ++ B.drop ib)).Perm (A ++ B)
  s : o.Pairwise (leK O key)
  la : ∀ x ∈ o, ∀ y ∈ A.drop ia, leK O key x y
  lb : ∀ x ∈ o, ∀ y ∈ B.drop ib, leK O key x y
def Res (O : KeyOrd) (key : Keyed → O.α) (A B r : List Keyed) : Prop := r.Perm (A ++ B) ∧ r.Pairwise (leK O key)
variable {A B o : List Keyed} {ia ib : Nat}
theorem MI.takeA (m : MI O key A B o ia ib) (sA : A.Pairwise (leK O key)) (k : Nat) (h : ∀ x ∈ (A.drop ia).take k, ∀ y ∈ B.drop ib, leK O key x y) : MI O key A B (o ++ (A.drop ia).take k) (ia + k) ib := by
  have sp : A.drop ia = (A.drop ia).take k ++ A.drop (ia + k) := by
    rw [← List.drop_drop, List.take_append_drop]
  have sd : (A.drop ia).Pairwise (leK O key) := sA.sublist (List.drop_sublist _ _)
  have sd' := sd
  rw [sp, List.pairwise_append] at sd'
  refine ⟨?_, List.pairwise_append.mpr ⟨m.s, sd'.1, fun x hx y hy => m.la x hx y (List.mem_of_mem_take hy)⟩, fun x hx y hy => ?_, fun x hx y hy => ?_⟩
  · rw [List.append_assoc, ← List.append_assoc (List.take k _), ← sp]; exact m.p
  · rcases List.mem_append.mp hx with z | z
    · exact m.la x z y (by rw [sp]; exact List.mem_append_right _ hy)
    · exact sd'.2.2 x z y hy
  · rcases List.mem_append.mp hx with z | z
    · exact m.lb x z y hy
    · exact h x z y hy
theorem MI.takeB (m : MI O key A B o ia ib) (sB : B.Pairwise (leK O key)) (k : Nat) (h : ∀ x ∈ (B.drop ib).take k, ∀ y ∈ A.drop ia, leK O key x y) : MI O key A B (o ++ (B.drop ib).take k) ia (ib + k) := by
  have sp : B.drop ib = (B.drop ib).take k ++ B.drop (ib + k) := by
    rw [← List.drop_drop, List.take_append_drop]
  have sd : (B.drop ib).Pairwise (leK O key) := sB.sublist (List.drop_sublist _ _)
  have sd' := sd
  rw [sp, List.pairwise_append] at sd'
  refine ⟨?_, List.pairwise_append.mpr ⟨m.s, sd'.1, fun x hx y hy => m.lb x hx y (List.mem_of_mem_take hy)⟩, fun x hx y hy => ?_, fun x hx y hy => ?_⟩
  · refine List.Perm.trans ?_ m.p
    rw [List.append_assoc]
    refine List.Perm.append_left _ ?_
    conv => rhs; rw [sp]
    refine (List.perm_append_comm_assoc _ _ _).trans ?_
    exact List.Perm.refl _
  · rcases List.mem_append.mp hx with z | z
    · exact m.la x z y hy
    · exact h x z y hy
  · rcases List.mem_append.mp hx with z | z
    · exact m.lb x z y (by rw [sp]; exact List.mem_append_right _ hy)
    · exact sd'.2.2 x z y hy
theorem MI.endB (m : MI O key A B o ia ib) (sA : A.Pairwise (leK O key)) (h : B.length ≤ ib) : Res O key A B (o ++ A.drop ia ++ B.drop ib) := by
  refine ⟨by rw [List.append_assoc]; exact m.p, ?_⟩
  rw [List.drop_of_length_le h, List.append_nil]
  exact List.pairwise_append.mpr ⟨m.s, sA.sublist (List.drop_sublist _ _), m.la⟩
theorem MI.endA (m : MI O key A B o ia ib) (sB : B.Pairwise (leK O key)) (h : A.length ≤ ia) : Res O key A B (o ++ A.drop ia ++ B.drop ib) := by
  refine ⟨by rw [List.append_assoc]; exact m.p, ?_⟩
  rw [List.drop_of_length_le h, List.append_nil]
  exact List.pairwise_append.mpr ⟨m.s, sB.sublist (List.drop_sublist _ _), m.lb⟩
theorem MI.lastA (m : MI O key A B o ia ib) (sB : B.Pairwise (leK O key)) (sA : A.Pairwise (leK O key)) (h : ∀ x ∈ B, ∀ y ∈ A.drop ia, leK O key x y) : Res O key A B (o ++ B.drop ib ++ A.drop ia) := by
  refine ⟨?_, ?_⟩
  · refine List.Perm.trans ?_ m.p
    rw [List.append_assoc]
    exact List.Perm.append_left _ List.perm_append_comm
  · rw [List.append_assoc]
    refine List.pairwise_append.mpr ⟨m.s, List.pairwise_append.mpr ⟨sB.sublist (List.drop_sublist _ _), sA.sublist (List.drop_sublist _ _), fun x hx y hy => h x (List.mem_of_mem_drop hx) y hy⟩, fun x hx y hy => ?_⟩
    rcases List.mem_append.mp hy with z | z
    · exact m.lb x hx y z
    · exact m.la x hx y z
theorem MI.len (m : MI O key A B o ia ib) : o.length + ((A.length - ia) + (B.length - ib)) = A.length + B.length := by
  have := m.p.length_eq
  rw [List.length_append, List.length_append, List.length_append, List.length_drop, List.length_drop] at this
  exact this
theorem drop_one {l : List Keyed} {i : Nat} {x : Keyed} (h : l[i]? = some x) : (l.drop i).take 1 = [x] := by
  obtain ⟨hi, rfl⟩ := List.getElem?_eq_some_iff.mp h
  rw [List.drop_eq_getElem_cons hi]; rfl
/-- of a sorted list what stands from a place on is no less than what stands there -/
theorem drop_ge {l : List Keyed} (s : l.Pairwise (leK O key)) {i : Nat} {x : Keyed} (h : l[i]? = some x) : ∀ y ∈ l.drop i, leK O key x y := by
  obtain ⟨hi, rfl⟩ := List.getElem?_eq_some_iff.mp h
  have sd : (l.drop i).Pairwise (leK O key) := s.sublist (List.drop_sublist _ _)
  rw [List.drop_eq_getElem_cons hi, List.pairwise_cons] at sd
  intro y hy
  rw [List.drop_eq_getElem_cons hi] at hy
  rcases List.mem_cons.mp hy with rfl | hy
  · exact O.irrefl _
  · exact sd.1 y hy
theorem mem_dropTake {l : List Keyed} {i k : Nat} {x : Keyed} (h : x ∈ (l.drop i).take k) : ∃ j, j < k ∧ l[i + j]? = some x := by
  obtain ⟨j, hj⟩ := List.getElem?_of_mem h
  have hl := (List.getElem?_eq_some_iff.mp hj).1
  rw [List.length_take] at hl
  rw [List.getElem?_take_of_lt (by omega), List.getElem?_drop] at hj
  exact ⟨j, by omega, hj⟩
theorem mem_dropAt {l : List Keyed} {i : Nat} {x : Keyed} (h : x ∈ l.drop i) : ∃ j, l[i + j]? = some x := by
  obtain ⟨j, hj⟩ := List.getElem?_of_mem h
  rw [List.getElem?_drop] at hj
  exact ⟨j, hj⟩
end
/-- only the gallop's number may differ -/
def SameG (st st' : SortSt) : Prop := kindOf st' = kindOf st ∧ arrOf st' = arrOf st ∧ pendingOf st' = pendingOf st ∧ failedOf st' = failedOf st
theorem SameG.refl (st : SortSt) : SameG st st := ⟨rfl, rfl, rfl, rfl⟩
theorem SameG.set {st st' : SortSt} (h : SameG st st') (g : Nat) : SameG st (SortSt.mk' (kindOf st') (arrOf st') (pendingOf st') g (failedOf st')) := h
section
variable {M : Model} {Ar : Around} {E : Value → Shared → Prop} {s : Shared} {O : KeyOrd} {key : Keyed → O.α} {knd : SortKind} {D : Keyed → Prop}
theorem arr_at {a : Array Keyed} {i : Nat} (h : i < a.size) : ∃ x, a[i]? = some x ∧ a.toList[i]? = some x ∧ x ∈ a.toList := ⟨a[i], Array.getElem?_eq_getElem h, by rw [Array.getElem?_toList]; exact Array.getElem?_eq_getElem h, by simp⟩
theorem wpS_gR (hL : LtOk M Ar E s O key knd D) {kk : Keyed} {arr : Array Keyed} {base n hint : Nat} {st : SortSt} {Q : Option Nat → SortSt → Prop} (hk : kindOf st = knd) (srt : arr.toList.Pairwise (leK O key)) (dA : ∀ x ∈ arr.toList, D x) (dk : D kk) (hn : base + n ≤ arr.size) (hh : hint < n)
    (h : ∀ k, k ≤ n → (∀ j x, j < k → arr.toList[base + j]? = some x → leK O key x kk) → (∀ j x, k ≤ j → j < n → arr.toList[base + j]? = some x → O.blt (key kk) (key x) = true) → Q (some k) st) : wpS M Ar E s (gallopS false kk arr base n hint) Q st := by
  refine wpS_gallopS hL hk (fun i hi => ?_) dk hh (fun i => match arr[base + i]? with | some x => !O.blt (key kk) (key x) | none => false) (fun i x hi hx => by rw [hx]; rfl) (fun i j hij hj hB => ?_) fun k k1 k2 k3 => ?_
  · obtain ⟨x, p1, _, p3⟩ := arr_at (a := arr) (i := base + i) (by omega)
    exact ⟨x, p1, dA _ p3⟩
  · obtain ⟨x, p1, p2, _⟩ := arr_at (a := arr) (i := base + i) (by omega)
    obtain ⟨x', p1', p2', _⟩ := arr_at (a := arr) (i := base + j) (by omega)
    rw [p1'] at hB
    rw [p1]
    have hB : (!O.blt (key kk) (key x')) = true := hB
    have t1 : leK O key x x' := drop_ge srt p2 x' (List.mem_of_getElem? (i := j - i) (by rw [List.getElem?_drop, show base + i + (j - i) = base + j by omega]; exact p2'))
    have t2 : leK O key x' kk := by simpa using hB
    have t3 : leK O key x kk := leK_trans t1 t2
    show (!O.blt (key kk) (key x)) = true
    rw [t3]; rfl
  · refine h k k1 (fun j x hj hx => ?_) fun j x hj hj2 hx => ?_
    · have := k2 j hj
      rw [← Array.getElem?_toList, hx] at this
      simpa using this
    · have := k3 j hj hj2
      rw [← Array.getElem?_toList, hx] at this
      simpa using this
theorem wpS_gL (hL : LtOk M Ar E s O key knd D) {kk : Keyed} {arr : Array Keyed} {base n hint : Nat} {st : SortSt} {Q : Option Nat → SortSt → Prop} (hk : kindOf st = knd) (srt : arr.toList.Pairwise (leK O key)) (dA : ∀ x ∈ arr.toList, D x) (dk : D kk) (hn : base + n ≤ arr.size) (hh : hint < n)
    (h : ∀ k, k ≤ n → (∀ j x, j < k → arr.toList[base + j]? = some x → O.blt (key x) (key kk) = true) → (∀ j x, k ≤ j → j < n → arr.toList[base + j]? = some x → leK O key kk x) → Q (some k) st) : wpS M Ar E s (gallopS true kk arr base n hint) Q st := by
  refine wpS_gallopS hL hk (fun i hi => ?_) dk hh (fun i => match arr[base + i]? with | some x => O.blt (key x) (key kk) | none => false) (fun i x hi hx => by rw [hx]; rfl) (fun i j hij hj hB => ?_) fun k k1 k2 k3 => ?_
  · obtain ⟨x, p1, _, p3⟩ := arr_at (a := arr) (i := base + i) (by omega)
    exact ⟨x, p1, dA _ p3⟩
  · obtain ⟨x, p1, p2, _⟩ := arr_at (a := arr) (i := base + i) (by omega)
    obtain ⟨x', p1', p2', _⟩ := arr_at (a := arr) (i := base + j) (by omega)
    rw [p1'] at hB
    rw [p1]
    have hB : O.blt (key x') (key kk) = true := hB
    have t1 : leK O key x x' := drop_ge srt p2 x' (List.mem_of_getElem? (i := j - i) (by rw [List.getElem?_drop, show base + i + (j - i) = base + j by omega]; exact p2'))
    exact KeyOrd.klt_of_kle_of_klt (O := O) t1 hB
  · refine h k k1 (fun j x hj hx => ?_) fun j x hj hj2 hx => ?_
    · have := k2 j hj
      rw [← Array.getElem?_toList, hx] at this
      exact this
    · have := k3 j hj hj2
      rw [← Array.getElem?_toList, hx] at this
      exact this
theorem wpS_mergeLoS (hL : LtOk M Ar E s O key knd D) {a b : Array Keyed} {st : SortSt} {Q : Array Keyed → SortSt → Prop} (hk : kindOf st = knd) (dA : ∀ x ∈ a.toList, D x) (dB : ∀ x ∈ b.toList, D x) (sA : a.toList.Pairwise (leK O key)) (sB : b.toList.Pairwise (leK O key))
    (a1 : 1 ≤ a.size) (b1 : 1 ≤ b.size) (hb : ∀ y, b.toList[0]? = some y → ∀ x ∈ a.toList, leK O key y x) (ha : ∀ y, a.toList[a.size - 1]? = some y → ∀ x ∈ b.toList, leK O key x y)
    (h : ∀ (r : Array Keyed) (st' : SortSt), SameG st st' → Res O key a.toList b.toList r.toList → Q r st') : wpS M Ar E s (mergeLoS a b) Q st := by
  have lA : a.toList.length = a.size := Array.length_toList
  have lB : b.toList.length = b.size := Array.length_toList
  -- the three ways out
  have out1 : ∀ {o : Array Keyed} {ia ib : Nat}, MI O key a.toList b.toList o.toList ia ib → ib = b.size → Res O key a.toList b.toList (o ++ a.extract ia a.size ++ b.extract ib b.size).toList := fun {o ia ib} m e => by
    simp only [Array.toList_append, Array.toList_extract, List.extract_eq_take_drop]
    rw [List.take_of_length_le (by rw [List.length_drop]; omega), List.take_of_length_le (by rw [List.length_drop]; omega)]
    exact m.endB sA (by omega)
  have out2 : ∀ {o : Array Keyed} {ia ib : Nat}, MI O key a.toList b.toList o.toList ia ib → ia = a.size → Res O key a.toList b.toList (o ++ a.extract ia a.size ++ b.extract ib b.size).toList := fun {o ia ib} m e => by
    simp only [Array.toList_append, Array.toList_extract, List.extract_eq_take_drop]
    rw [List.take_of_length_le (by rw [List.length_drop]; omega), List.take_of_length_le (by rw [List.length_drop]; omega)]
    exact m.endA sB (by omega)
  have out3 : ∀ {o : Array Keyed} {ia ib : Nat}, MI O key a.toList b.toList o.toList ia ib → ia + 1 = a.size → Res O key a.toList b.toList (o ++ b.extract ib b.size ++ a.extract ia a.size).toList := fun {o ia ib} m e => by
    simp only [Array.toList_append, Array.toList_extract, List.extract_eq_take_drop]
    rw [List.take_of_length_le (by rw [List.length_drop]; omega), List.take_of_length_le (by rw [List.length_drop]; omega)]
    refine m.lastA sB sA fun x hx y hy => ?_
    obtain ⟨j, hj⟩ := mem_dropAt hy
    have := (List.getElem?_eq_some_iff.mp hj).1
    exact ha y (by rw [show a.size - 1 = ia + j by omega]; exact hj) x hx
  -- pushes
  have pushA : ∀ {o : Array Keyed} {ia ib : Nat} {x : Keyed}, MI O key a.toList b.toList o.toList ia ib → a.toList[ia]? = some x → (∀ y ∈ b.toList.drop ib, leK O key x y) → MI O key a.toList b.toList (o.push x).toList (ia + 1) ib := fun {o ia ib x} m hx hy => by
    have := m.takeA sA 1 (by rw [drop_one hx]; intro z hz; rw [List.mem_singleton.mp hz]; exact hy)
    rw [drop_one hx] at this
    rw [Array.toList_push]; exact this
  have pushB : ∀ {o : Array Keyed} {ia ib : Nat} {x : Keyed}, MI O key a.toList b.toList o.toList ia ib → b.toList[ib]? = some x → (∀ y ∈ a.toList.drop ia, leK O key x y) → MI O key a.toList b.toList (o.push x).toList ia (ib + 1) := fun {o ia ib x} m hx hy => by
    have := m.takeB sB 1 (by rw [drop_one hx]; intro z hz; rw [List.mem_singleton.mp hz]; exact hy)
    rw [drop_one hx] at this
    rw [Array.toList_push]; exact this
  refine wpS_bind (wpS_lift (wpAny_rule ⟨rfl, ?_⟩))
  obtain ⟨b0, q1, q2, q3⟩ := arr_at (a := b) (i := 0) (by omega)
  refine wpS_bind (wpS_elemS q1 ?_)
  dsimp only
  have m0 : MI O key a.toList b.toList (#[b0] : Array Keyed).toList 0 1 := by
    have s0 : MI O key a.toList b.toList (#[] : Array Keyed).toList 0 0 := ⟨by simp, List.Pairwise.nil, fun x hx => by simp at hx, fun x hx => by simp at hx⟩
    exact pushB s0 q2 fun y hy => hb b0 q2 y (by simpa using hy)
  by_cases z1 : (1 == b.size) = true
  · rw [if_pos z1]
    exact wpS_pure (h _ _ (SameG.refl _) (out1 m0 (by simpa using z1)))
  rw [if_neg z1]
  have z1' : 1 < b.size := by
    have : ¬ 1 = b.size := by simpa using z1
    omega
  by_cases z2 : (0 + 1 == a.size) = true
  · rw [if_pos z2]
    exact wpS_pure (h _ _ (SameG.refl _) (out3 m0 (by simpa using z2)))
  rw [if_neg z2]
  have z2' : 0 + 1 < a.size := by
    have : ¬ 0 + 1 = a.size := by simpa using z2
    omega
  refine wpS_bind (wpS_get ?_)
  refine wpS_bind (wpS_mono (wpS_forRange (I := fun x c st' => SameG st st' ∧ ∃ (o : Array Keyed) (ia ib mg : Nat), c = (none, o, ia, ib, mg) ∧ MI O key a.toList b.toList o.toList ia ib ∧ ia + 1 < a.size ∧ ib < b.size ∧ 1 + x ≤ o.size)
    (Q := fun c st' => SameG st st' ∧ ∃ r, c.1 = some r ∧ Res O key a.toList b.toList r.toList) ?step ?fin ⟨SameG.refl _, _, _, _, _, rfl, m0, z2', z1', Nat.le_refl _⟩) ?post)
  case post =>
    rintro c st' ⟨g, r, e, hr⟩
    (try dsimp only)
    rw [e]
    exact wpS_pure (h _ _ g hr)
  case fin =>
    rintro c st' ⟨g, o, ia, ib, mg, rfl, m, h1, h2, h3⟩
    have := m.len
    rw [lA, lB, Array.length_toList] at this
    exfalso; omega
  case step =>
    rintro x c st' _ hx ⟨g, o, ia, ib, mg, rfl, m, h1, h2, h3⟩
    dsimp only
    refine wpS_bind (wpS_mono (wpS_forRange (I := fun y c st2 => SameG st st2 ∧ ∃ (o' : Array Keyed) (ia ib ac bc : Nat), c = (none, o', ia, ib, ac, bc) ∧ MI O key a.toList b.toList o'.toList ia ib ∧ ia + 1 < a.size ∧ ib < b.size ∧ o.size + y ≤ o'.size)
      (Q := fun c st2 => SameG st st2 ∧ ((∃ r, c.1 = some r ∧ Res O key a.toList b.toList r.toList) ∨ ∃ (o' : Array Keyed) (ia ib ac bc : Nat), c = (none, o', ia, ib, ac, bc) ∧ MI O key a.toList b.toList o'.toList ia ib ∧ ia + 1 < a.size ∧ ib < b.size ∧ o.size + 1 ≤ o'.size)) ?_ ?_ ⟨g, _, _, _, _, _, rfl, m, h1, h2, Nat.le_refl _⟩) ?_)
    · rintro y c st2 _ hy ⟨g2, o', ia, ib, ac, bc, rfl, m, h1, h2, h3⟩
      dsimp only
      obtain ⟨xb, e1, e2, e3⟩ := arr_at (a := b) h2
      obtain ⟨xa, f1, f2, f3⟩ := arr_at (a := a) (i := ia) (by omega)
      refine wpS_bind (wpS_elemS e1 (wpS_bind (wpS_elemS f1 (wpS_bind (hL.lt (dB _ e3) (dA _ f3) (g2.1.trans hk) ?_)))))
      cases w : O.blt (key xb) (key xa) with
      | true =>
        dsimp only
        rw [if_pos rfl]
        refine wpS_bind (wpS_elemS e1 ?_)
        have m' := pushB m e2 fun y hy => leK_trans (leK_of w) (drop_ge sA f2 y hy)
        (try dsimp only)
        by_cases z : (ib + 1 == b.size) = true
        · rw [if_pos z]
          exact wpS_pure ⟨g2, .inl ⟨_, rfl, out1 m' (by simpa using z)⟩⟩
        · rw [if_neg z]
          have z' : ib + 1 < b.size := by
            have : ¬ ib + 1 = b.size := by simpa using z
            omega
          by_cases v : bc + 1 ≥ mg
          · rw [if_pos v]
            exact wpS_pure ⟨g2, .inr ⟨_, _, _, _, _, rfl, m', h1, z', by rw [Array.size_push]; omega⟩⟩
          · rw [if_neg v]
            exact wpS_pure ⟨g2, _, _, _, _, _, rfl, m', h1, z', by rw [Array.size_push]; omega⟩
      | false =>
        dsimp only
        rw [if_neg Bool.false_ne_true]
        refine wpS_bind (wpS_elemS f1 ?_)
        have m' := pushA m f2 fun y hy => leK_trans w (drop_ge sB e2 y hy)
        (try dsimp only)
        by_cases z : (ia + 1 + 1 == a.size) = true
        · rw [if_pos z]
          exact wpS_pure ⟨g2, .inl ⟨_, rfl, out3 m' (by simpa using z)⟩⟩
        · rw [if_neg z]
          have z' : ia + 1 + 1 < a.size := by
            have : ¬ ia + 1 + 1 = a.size := by simpa using z
            omega
          by_cases v : ac + 1 ≥ mg
          · rw [if_pos v]
            exact wpS_pure ⟨g2, .inr ⟨_, _, _, _, _, rfl, m', z', h2, by rw [Array.size_push]; omega⟩⟩
          · rw [if_neg v]
            exact wpS_pure ⟨g2, _, _, _, _, _, rfl, m', z', h2, by rw [Array.size_push]; omega⟩
    · rintro c st2 ⟨g2, o', ia, ib, ac, bc, rfl, m, h1, h2, h3⟩
      exact ⟨g2, .inr ⟨_, _, _, _, _, rfl, m, h1, h2, by omega⟩⟩
    rintro c st2 ⟨g2, hc⟩
    rcases hc with ⟨r, e, hr⟩ | ⟨o', ia, ib, ac, bc, rfl, m, h1, h2, h4⟩
    · (try dsimp only)
      rw [e]
      exact wpS_pure ⟨g2, r, rfl, hr⟩
    dsimp only
    refine wpS_bind (wpS_lift (wpAny_rule ⟨rfl, ?_⟩))
    refine wpS_bind (wpS_mono (wpS_forRange (I := fun y c st3 => SameG st st3 ∧ ∃ (o2 : Array Keyed) (ia ib mg ac bc : Nat), c = (none, o2, ia, ib, mg, ac, bc) ∧ MI O key a.toList b.toList o2.toList ia ib ∧ ia + 1 < a.size ∧ ib < b.size ∧ o'.size ≤ o2.size)
      (Q := fun c st3 => SameG st st3 ∧ ((∃ r, c.1 = some r ∧ Res O key a.toList b.toList r.toList) ∨ ∃ (o2 : Array Keyed) (ia ib mg ac bc : Nat), c = (none, o2, ia, ib, mg, ac, bc) ∧ MI O key a.toList b.toList o2.toList ia ib ∧ ia + 1 < a.size ∧ ib < b.size ∧ o'.size ≤ o2.size)) ?_ ?_ ⟨g2, _, _, _, _, _, _, rfl, m, h1, h2, Nat.le_refl _⟩) ?_)
    · rintro y c st3 _ hy ⟨g3, o2, ia, ib, mg2, ac, bc, rfl, m, h1, h2, h5⟩
      dsimp only
      obtain ⟨xb, e1, e2, e3⟩ := arr_at (a := b) h2
      by_cases mgz : mg2 > 1
      · rw [if_pos mgz]
        refine wpS_bind (wpS_modify ?_)
        refine wpS_bind (wpS_elemS e1 (wpS_bind (wpS_gR hL (g3.1.trans hk) sA dA (dB _ e3) (by omega) (by omega) fun k k1 k2 k3 => ?_)))
        have g4 := g3.set (mg2 - 1)
        (try dsimp only)
        by_cases w : k > 0
        · rw [if_pos w]
          have mA : MI O key a.toList b.toList (o2 ++ a.extract ia (ia + k)).toList (ia + k) ib := by
            have := m.takeA sA k fun x hx y hy => by
              obtain ⟨j, hj1, hj2⟩ := mem_dropTake hx
              exact leK_trans (k2 j x hj1 hj2) (drop_ge sB e2 y hy)
            rw [Array.toList_append, Array.toList_extract, List.extract_eq_take_drop, show ia + k - ia = k by omega]
            exact this
          by_cases y1 : (ia + k + 1 == a.size) = true
          · rw [if_pos y1]
            exact wpS_pure ⟨g4, .inl ⟨_, rfl, out3 mA (by simpa using y1)⟩⟩
          · rw [if_neg y1]
            by_cases y2 : (ia + k == a.size) = true
            · rw [if_pos y2]
              exact wpS_pure ⟨g4, .inl ⟨_, rfl, out2 mA (by simpa using y2)⟩⟩
            · rw [if_neg y2]
              have y2' : ia + k + 1 < a.size := by
                have q1 : ¬ ia + k + 1 = a.size := by simpa using y1
                have q2 : ¬ ia + k = a.size := by simpa using y2
                omega
              clear y1 y2
              have szX : o'.size ≤ (o2 ++ a.extract ia (ia + k)).size := (by rw [Array.size_append]; omega)
              have h1X : (ia + k) + 1 < a.size := y2'
              refine wpS_bind (wpS_elemS e1 ?_)
              have m2 := pushB mA e2 (fun y hy => by obtain ⟨j, hj⟩ := mem_dropAt hy; exact leK_of (k3 (k + j) y (by omega) (by have := (List.getElem?_eq_some_iff.mp hj).1; omega) (by rw [← Nat.add_assoc]; exact hj)))
              (try dsimp only)
              by_cases z : (ib + 1 == b.size) = true
              · rw [if_pos z]
                exact wpS_pure ⟨g4, .inl ⟨_, rfl, out1 m2 (by simpa using z)⟩⟩
              · rw [if_neg z]
                have z' : ib + 1 < b.size := by
                  have : ¬ ib + 1 = b.size := by simpa using z
                  omega
                obtain ⟨xa, f1, f2, f3⟩ := arr_at (a := a) (i := (ia + k)) (by omega)
                refine wpS_bind (wpS_elemS f1 (wpS_bind (wpS_gL hL (g4.1.trans hk) sB dB (dA _ f3) (by omega) (by omega) fun k2 p1 p2 p3 => ?_)))
                (try dsimp only)
                by_cases v : k2 > 0
                · rw [if_pos v]
                  have mB : MI O key a.toList b.toList ((o2 ++ a.extract ia (ia + k)).push xb ++ b.extract (ib + 1) (ib + 1 + k2)).toList (ia + k) (ib + 1 + k2) := by
                    have := m2.takeB sB k2 fun x hx y hy => by
                      obtain ⟨j, hj1, hj2⟩ := mem_dropTake hx
                      exact leK_trans (leK_of (p2 j x hj1 hj2)) (drop_ge sA f2 y hy)
                    rw [Array.toList_append, Array.toList_extract, List.extract_eq_take_drop, show ib + 1 + k2 - (ib + 1) = k2 by omega]
                    exact this
                  by_cases y : (ib + 1 + k2 == b.size) = true
                  · rw [if_pos y]
                    exact wpS_pure ⟨g4, .inl ⟨_, rfl, out1 mB (by simpa using y)⟩⟩
                  · rw [if_neg y]
                    have v' : ib + 1 + k2 < b.size := by
                      have : ¬ ib + 1 + k2 = b.size := by simpa using y
                      omega
                    refine wpS_bind (wpS_elemS f1 ?_)
                    have m3 := pushA mB f2 (fun y hy => by obtain ⟨j, hj⟩ := mem_dropAt hy; exact p3 (k2 + j) y (by omega) (by have := (List.getElem?_eq_some_iff.mp hj).1; omega) (by rw [← Nat.add_assoc]; exact hj))
                    (try dsimp only)
                    by_cases u : ((ia + k) + 1 + 1 == a.size) = true
                    · rw [if_pos u]
                      exact wpS_pure ⟨g4, .inl ⟨_, rfl, out3 m3 (by simpa using u)⟩⟩
                    · rw [if_neg u]
                      have u' : (ia + k) + 1 + 1 < a.size := by
                        have : ¬ (ia + k) + 1 + 1 = a.size := by simpa using u
                        omega
                      have sz3 : o'.size ≤ (((o2 ++ a.extract ia (ia + k)).push xb ++ b.extract (ib + 1) (ib + 1 + k2)).push xa).size := by
                        rw [Array.size_push]
                        have : o'.size ≤ ((o2 ++ a.extract ia (ia + k)).push xb ++ b.extract (ib + 1) (ib + 1 + k2)).size := (by rw [Array.size_append, Array.size_push]; omega)
                        omega
                      by_cases t : (decide (k < 7) && decide (k2 < 7)) = true
                      · rw [if_pos t]
                        exact wpS_pure ⟨g4, .inr ⟨_, _, _, _, _, _, rfl, m3, u', v', sz3⟩⟩
                      · rw [if_neg t]
                        exact wpS_pure ⟨g4, _, _, _, _, _, _, rfl, m3, u', v', sz3⟩
                · rw [if_neg v]
                  have v0 : k2 = 0 := by omega
                  refine wpS_bind (wpS_elemS f1 ?_)
                  have m3 := pushA m2 f2 (fun y hy => by obtain ⟨j, hj⟩ := mem_dropAt hy; exact p3 j y (by omega) (by have := (List.getElem?_eq_some_iff.mp hj).1; omega) hj)
                  (try dsimp only)
                  by_cases u : ((ia + k) + 1 + 1 == a.size) = true
                  · rw [if_pos u]
                    exact wpS_pure ⟨g4, .inl ⟨_, rfl, out3 m3 (by simpa using u)⟩⟩
                  · rw [if_neg u]
                    have u' : (ia + k) + 1 + 1 < a.size := by
                      have : ¬ (ia + k) + 1 + 1 = a.size := by simpa using u
                      omega
                    have sz3 : o'.size ≤ (((o2 ++ a.extract ia (ia + k)).push xb).push xa).size := by
                      rw [Array.size_push]
                      have : o'.size ≤ ((o2 ++ a.extract ia (ia + k)).push xb).size := (by rw [Array.size_push]; omega)
                      omega
                    by_cases t : (decide (k < 7) && decide (k2 < 7)) = true
                    · rw [if_pos t]
                      exact wpS_pure ⟨g4, .inr ⟨_, _, _, _, _, _, rfl, m3, u', z', sz3⟩⟩
                    · rw [if_neg t]
                      exact wpS_pure ⟨g4, _, _, _, _, _, _, rfl, m3, u', z', sz3⟩
        · rw [if_neg w]
          have w0 : k = 0 := by omega
          have szX : o'.size ≤ o2.size := h5
          have h1X : ia + 1 < a.size := h1
          refine wpS_bind (wpS_elemS e1 ?_)
          have m2 := pushB m e2 (fun y hy => by obtain ⟨j, hj⟩ := mem_dropAt hy; exact leK_of (k3 j y (by omega) (by have := (List.getElem?_eq_some_iff.mp hj).1; omega) hj))
          (try dsimp only)
          by_cases z : (ib + 1 == b.size) = true
          · rw [if_pos z]
            exact wpS_pure ⟨g4, .inl ⟨_, rfl, out1 m2 (by simpa using z)⟩⟩
          · rw [if_neg z]
            have z' : ib + 1 < b.size := by
              have : ¬ ib + 1 = b.size := by simpa using z
              omega
            obtain ⟨xa, f1, f2, f3⟩ := arr_at (a := a) (i := ia) (by omega)
            refine wpS_bind (wpS_elemS f1 (wpS_bind (wpS_gL hL (g4.1.trans hk) sB dB (dA _ f3) (by omega) (by omega) fun k2 p1 p2 p3 => ?_)))
            (try dsimp only)
            by_cases v : k2 > 0
            · rw [if_pos v]
              have mB : MI O key a.toList b.toList (o2.push xb ++ b.extract (ib + 1) (ib + 1 + k2)).toList ia (ib + 1 + k2) := by
                have := m2.takeB sB k2 fun x hx y hy => by
                  obtain ⟨j, hj1, hj2⟩ := mem_dropTake hx
                  exact leK_trans (leK_of (p2 j x hj1 hj2)) (drop_ge sA f2 y hy)
                rw [Array.toList_append, Array.toList_extract, List.extract_eq_take_drop, show ib + 1 + k2 - (ib + 1) = k2 by omega]
                exact this
              by_cases y : (ib + 1 + k2 == b.size) = true
              · rw [if_pos y]
                exact wpS_pure ⟨g4, .inl ⟨_, rfl, out1 mB (by simpa using y)⟩⟩
              · rw [if_neg y]
                have v' : ib + 1 + k2 < b.size := by
                  have : ¬ ib + 1 + k2 = b.size := by simpa using y
                  omega
                refine wpS_bind (wpS_elemS f1 ?_)
                have m3 := pushA mB f2 (fun y hy => by obtain ⟨j, hj⟩ := mem_dropAt hy; exact p3 (k2 + j) y (by omega) (by have := (List.getElem?_eq_some_iff.mp hj).1; omega) (by rw [← Nat.add_assoc]; exact hj))
                (try dsimp only)
                by_cases u : (ia + 1 + 1 == a.size) = true
                · rw [if_pos u]
                  exact wpS_pure ⟨g4, .inl ⟨_, rfl, out3 m3 (by simpa using u)⟩⟩
                · rw [if_neg u]
                  have u' : ia + 1 + 1 < a.size := by
                    have : ¬ ia + 1 + 1 = a.size := by simpa using u
                    omega
                  have sz3 : o'.size ≤ ((o2.push xb ++ b.extract (ib + 1) (ib + 1 + k2)).push xa).size := by
                    rw [Array.size_push]
                    have : o'.size ≤ (o2.push xb ++ b.extract (ib + 1) (ib + 1 + k2)).size := (by rw [Array.size_append, Array.size_push]; omega)
                    omega
                  by_cases t : (decide (k < 7) && decide (k2 < 7)) = true
                  · rw [if_pos t]
                    exact wpS_pure ⟨g4, .inr ⟨_, _, _, _, _, _, rfl, m3, u', v', sz3⟩⟩
                  · rw [if_neg t]
                    exact wpS_pure ⟨g4, _, _, _, _, _, _, rfl, m3, u', v', sz3⟩
            · rw [if_neg v]
              have v0 : k2 = 0 := by omega
              refine wpS_bind (wpS_elemS f1 ?_)
              have m3 := pushA m2 f2 (fun y hy => by obtain ⟨j, hj⟩ := mem_dropAt hy; exact p3 j y (by omega) (by have := (List.getElem?_eq_some_iff.mp hj).1; omega) hj)
              (try dsimp only)
              by_cases u : (ia + 1 + 1 == a.size) = true
              · rw [if_pos u]
                exact wpS_pure ⟨g4, .inl ⟨_, rfl, out3 m3 (by simpa using u)⟩⟩
              · rw [if_neg u]
                have u' : ia + 1 + 1 < a.size := by
                  have : ¬ ia + 1 + 1 = a.size := by simpa using u
                  omega
                have sz3 : o'.size ≤ ((o2.push xb).push xa).size := by
                  rw [Array.size_push]
                  have : o'.size ≤ (o2.push xb).size := (by rw [Array.size_push]; omega)
                  omega
                by_cases t : (decide (k < 7) && decide (k2 < 7)) = true
                · rw [if_pos t]
                  exact wpS_pure ⟨g4, .inr ⟨_, _, _, _, _, _, rfl, m3, u', z', sz3⟩⟩
                · rw [if_neg t]
                  exact wpS_pure ⟨g4, _, _, _, _, _, _, rfl, m3, u', z', sz3⟩
      · rw [if_neg mgz]
        refine wpS_bind (wpS_modify ?_)
        refine wpS_bind (wpS_elemS e1 (wpS_bind (wpS_gR hL (g3.1.trans hk) sA dA (dB _ e3) (by omega) (by omega) fun k k1 k2 k3 => ?_)))
        have g4 := g3.set mg2
        (try dsimp only)
        by_cases w : k > 0
        · rw [if_pos w]
          have mA : MI O key a.toList b.toList (o2 ++ a.extract ia (ia + k)).toList (ia + k) ib := by
            have := m.takeA sA k fun x hx y hy => by
              obtain ⟨j, hj1, hj2⟩ := mem_dropTake hx
              exact leK_trans (k2 j x hj1 hj2) (drop_ge sB e2 y hy)
            rw [Array.toList_append, Array.toList_extract, List.extract_eq_take_drop, show ia + k - ia = k by omega]
            exact this
          by_cases y1 : (ia + k + 1 == a.size) = true
          · rw [if_pos y1]
            exact wpS_pure ⟨g4, .inl ⟨_, rfl, out3 mA (by simpa using y1)⟩⟩
          · rw [if_neg y1]
            by_cases y2 : (ia + k == a.size) = true
            · rw [if_pos y2]
              exact wpS_pure ⟨g4, .inl ⟨_, rfl, out2 mA (by simpa using y2)⟩⟩
            · rw [if_neg y2]
              have y2' : ia + k + 1 < a.size := by
                have q1 : ¬ ia + k + 1 = a.size := by simpa using y1
                have q2 : ¬ ia + k = a.size := by simpa using y2
                omega
              clear y1 y2
              have szX : o'.size ≤ (o2 ++ a.extract ia (ia + k)).size := (by rw [Array.size_append]; omega)
              have h1X : (ia + k) + 1 < a.size := y2'
              refine wpS_bind (wpS_elemS e1 ?_)
              have m2 := pushB mA e2 (fun y hy => by obtain ⟨j, hj⟩ := mem_dropAt hy; exact leK_of (k3 (k + j) y (by omega) (by have := (List.getElem?_eq_some_iff.mp hj).1; omega) (by rw [← Nat.add_assoc]; exact hj)))
              (try dsimp only)
              by_cases z : (ib + 1 == b.size) = true
              · rw [if_pos z]
                exact wpS_pure ⟨g4, .inl ⟨_, rfl, out1 m2 (by simpa using z)⟩⟩
              · rw [if_neg z]
                have z' : ib + 1 < b.size := by
                  have : ¬ ib + 1 = b.size := by simpa using z
                  omega
                obtain ⟨xa, f1, f2, f3⟩ := arr_at (a := a) (i := (ia + k)) (by omega)
                refine wpS_bind (wpS_elemS f1 (wpS_bind (wpS_gL hL (g4.1.trans hk) sB dB (dA _ f3) (by omega) (by omega) fun k2 p1 p2 p3 => ?_)))
                (try dsimp only)
                by_cases v : k2 > 0
                · rw [if_pos v]
                  have mB : MI O key a.toList b.toList ((o2 ++ a.extract ia (ia + k)).push xb ++ b.extract (ib + 1) (ib + 1 + k2)).toList (ia + k) (ib + 1 + k2) := by
                    have := m2.takeB sB k2 fun x hx y hy => by
                      obtain ⟨j, hj1, hj2⟩ := mem_dropTake hx
                      exact leK_trans (leK_of (p2 j x hj1 hj2)) (drop_ge sA f2 y hy)
                    rw [Array.toList_append, Array.toList_extract, List.extract_eq_take_drop, show ib + 1 + k2 - (ib + 1) = k2 by omega]
                    exact this
                  by_cases y : (ib + 1 + k2 == b.size) = true
                  · rw [if_pos y]
                    exact wpS_pure ⟨g4, .inl ⟨_, rfl, out1 mB (by simpa using y)⟩⟩
                  · rw [if_neg y]
                    have v' : ib + 1 + k2 < b.size := by
                      have : ¬ ib + 1 + k2 = b.size := by simpa using y
                      omega
                    refine wpS_bind (wpS_elemS f1 ?_)
                    have m3 := pushA mB f2 (fun y hy => by obtain ⟨j, hj⟩ := mem_dropAt hy; exact p3 (k2 + j) y (by omega) (by have := (List.getElem?_eq_some_iff.mp hj).1; omega) (by rw [← Nat.add_assoc]; exact hj))
                    (try dsimp only)
                    by_cases u : ((ia + k) + 1 + 1 == a.size) = true
                    · rw [if_pos u]
                      exact wpS_pure ⟨g4, .inl ⟨_, rfl, out3 m3 (by simpa using u)⟩⟩
                    · rw [if_neg u]
                      have u' : (ia + k) + 1 + 1 < a.size := by
                        have : ¬ (ia + k) + 1 + 1 = a.size := by simpa using u
                        omega
                      have sz3 : o'.size ≤ (((o2 ++ a.extract ia (ia + k)).push xb ++ b.extract (ib + 1) (ib + 1 + k2)).push xa).size := by
                        rw [Array.size_push]
                        have : o'.size ≤ ((o2 ++ a.extract ia (ia + k)).push xb ++ b.extract (ib + 1) (ib + 1 + k2)).size := (by rw [Array.size_append, Array.size_push]; omega)
                        omega
                      by_cases t : (decide (k < 7) && decide (k2 < 7)) = true
                      · rw [if_pos t]
                        exact wpS_pure ⟨g4, .inr ⟨_, _, _, _, _, _, rfl, m3, u', v', sz3⟩⟩
                      · rw [if_neg t]
                        exact wpS_pure ⟨g4, _, _, _, _, _, _, rfl, m3, u', v', sz3⟩
                · rw [if_neg v]
                  have v0 : k2 = 0 := by omega
                  refine wpS_bind (wpS_elemS f1 ?_)
                  have m3 := pushA m2 f2 (fun y hy => by obtain ⟨j, hj⟩ := mem_dropAt hy; exact p3 j y (by omega) (by have := (List.getElem?_eq_some_iff.mp hj).1; omega) hj)
                  (try dsimp only)
                  by_cases u : ((ia + k) + 1 + 1 == a.size) = true
                  · rw [if_pos u]
                    exact wpS_pure ⟨g4, .inl ⟨_, rfl, out3 m3 (by simpa using u)⟩⟩
                  · rw [if_neg u]
                    have u' : (ia + k) + 1 + 1 < a.size := by
                      have : ¬ (ia + k) + 1 + 1 = a.size := by simpa using u
                      omega
                    have sz3 : o'.size ≤ (((o2 ++ a.extract ia (ia + k)).push xb).push xa).size := by
                      rw [Array.size_push]
                      have : o'.size ≤ ((o2 ++ a.extract ia (ia + k)).push xb).size := (by rw [Array.size_push]; omega)
                      omega
                    by_cases t : (decide (k < 7) && decide (k2 < 7)) = true
                    · rw [if_pos t]
                      exact wpS_pure ⟨g4, .inr ⟨_, _, _, _, _, _, rfl, m3, u', z', sz3⟩⟩
                    · rw [if_neg t]
                      exact wpS_pure ⟨g4, _, _, _, _, _, _, rfl, m3, u', z', sz3⟩
        · rw [if_neg w]
          have w0 : k = 0 := by omega
          have szX : o'.size ≤ o2.size := h5
          have h1X : ia + 1 < a.size := h1
          refine wpS_bind (wpS_elemS e1 ?_)
          have m2 := pushB m e2 (fun y hy => by obtain ⟨j, hj⟩ := mem_dropAt hy; exact leK_of (k3 j y (by omega) (by have := (List.getElem?_eq_some_iff.mp hj).1; omega) hj))
          (try dsimp only)
          by_cases z : (ib + 1 == b.size) = true
          · rw [if_pos z]
            exact wpS_pure ⟨g4, .inl ⟨_, rfl, out1 m2 (by simpa using z)⟩⟩
          · rw [if_neg z]
            have z' : ib + 1 < b.size := by
              have : ¬ ib + 1 = b.size := by simpa using z
              omega
            obtain ⟨xa, f1, f2, f3⟩ := arr_at (a := a) (i := ia) (by omega)
            refine wpS_bind (wpS_elemS f1 (wpS_bind (wpS_gL hL (g4.1.trans hk) sB dB (dA _ f3) (by omega) (by omega) fun k2 p1 p2 p3 => ?_)))
            (try dsimp only)
            by_cases v : k2 > 0
            · rw [if_pos v]
              have mB : MI O key a.toList b.toList (o2.push xb ++ b.extract (ib + 1) (ib + 1 + k2)).toList ia (ib + 1 + k2) := by
                have := m2.takeB sB k2 fun x hx y hy => by
                  obtain ⟨j, hj1, hj2⟩ := mem_dropTake hx
                  exact leK_trans (leK_of (p2 j x hj1 hj2)) (drop_ge sA f2 y hy)
                rw [Array.toList_append, Array.toList_extract, List.extract_eq_take_drop, show ib + 1 + k2 - (ib + 1) = k2 by omega]
                exact this
              by_cases y : (ib + 1 + k2 == b.size) = true
              · rw [if_pos y]
                exact wpS_pure ⟨g4, .inl ⟨_, rfl, out1 mB (by simpa using y)⟩⟩
              · rw [if_neg y]
                have v' : ib + 1 + k2 < b.size := by
                  have : ¬ ib + 1 + k2 = b.size := by simpa using y
                  omega
                refine wpS_bind (wpS_elemS f1 ?_)
                have m3 := pushA mB f2 (fun y hy => by obtain ⟨j, hj⟩ := mem_dropAt hy; exact p3 (k2 + j) y (by omega) (by have := (List.getElem?_eq_some_iff.mp hj).1; omega) (by rw [← Nat.add_assoc]; exact hj))
                (try dsimp only)
                by_cases u : (ia + 1 + 1 == a.size) = true
                · rw [if_pos u]
                  exact wpS_pure ⟨g4, .inl ⟨_, rfl, out3 m3 (by simpa using u)⟩⟩
                · rw [if_neg u]
                  have u' : ia + 1 + 1 < a.size := by
                    have : ¬ ia + 1 + 1 = a.size := by simpa using u
                    omega
                  have sz3 : o'.size ≤ ((o2.push xb ++ b.extract (ib + 1) (ib + 1 + k2)).push xa).size := by
                    rw [Array.size_push]
                    have : o'.size ≤ (o2.push xb ++ b.extract (ib + 1) (ib + 1 + k2)).size := (by rw [Array.size_append, Array.size_push]; omega)
                    omega
                  by_cases t : (decide (k < 7) && decide (k2 < 7)) = true
                  · rw [if_pos t]
                    exact wpS_pure ⟨g4, .inr ⟨_, _, _, _, _, _, rfl, m3, u', v', sz3⟩⟩
                  · rw [if_neg t]
                    exact wpS_pure ⟨g4, _, _, _, _, _, _, rfl, m3, u', v', sz3⟩
            · rw [if_neg v]
              have v0 : k2 = 0 := by omega
              refine wpS_bind (wpS_elemS f1 ?_)
              have m3 := pushA m2 f2 (fun y hy => by obtain ⟨j, hj⟩ := mem_dropAt hy; exact p3 j y (by omega) (by have := (List.getElem?_eq_some_iff.mp hj).1; omega) hj)
              (try dsimp only)
              by_cases u : (ia + 1 + 1 == a.size) = true
              · rw [if_pos u]
                exact wpS_pure ⟨g4, .inl ⟨_, rfl, out3 m3 (by simpa using u)⟩⟩
              · rw [if_neg u]
                have u' : ia + 1 + 1 < a.size := by
                  have : ¬ ia + 1 + 1 = a.size := by simpa using u
                  omega
                have sz3 : o'.size ≤ ((o2.push xb).push xa).size := by
                  rw [Array.size_push]
                  have : o'.size ≤ (o2.push xb).size := (by rw [Array.size_push]; omega)
                  omega
                by_cases t : (decide (k < 7) && decide (k2 < 7)) = true
                · rw [if_pos t]
                  exact wpS_pure ⟨g4, .inr ⟨_, _, _, _, _, _, rfl, m3, u', z', sz3⟩⟩
                · rw [if_neg t]
                  exact wpS_pure ⟨g4, _, _, _, _, _, _, rfl, m3, u', z', sz3⟩
    · rintro c st3 ⟨g3, o2, ia, ib, mg2, ac, bc, rfl, m, h1, h2, h5⟩
      exact ⟨g3, .inr ⟨_, _, _, _, _, _, rfl, m, h1, h2, h5⟩⟩
    rintro c st3 ⟨g3, hc⟩
    rcases hc with ⟨r, e, hr⟩ | ⟨o2, ia, ib, mg2, ac, bc, rfl, m, h1, h2, h5⟩
    · (try dsimp only)
      rw [e]
      exact wpS_pure ⟨g3, r, rfl, hr⟩
    dsimp only
    exact wpS_bind (wpS_modify (wpS_pure ⟨g3.set _, _, _, _, _, rfl, m, h1, h2, by omega⟩))
end
end L2

namespace L2
open PySem PyProof.Rows
/-! ### .. from the right -/
section
variable {O : KeyOrd} {key : Keyed → O.α}
structure MH (O : KeyOrd) (key : Keyed → O.α) (A B r : List Keyed) (na nb : Nat) : Prop where
  p : (A.take na ++ B.take nb ++ r).Perm (A ++ B)
  s : r.Pairwise (leK O key)
  la : ∀ x ∈ A.take na, ∀ y ∈ r, leK O key x y
  lb : ∀ x ∈ B.take nb, ∀ y ∈ r, leK O key x y
variable {A B r : List Keyed} {na nb : Nat}
theorem cut_at {l : List Keyed} {n k : Nat} (h : k ≤ n) : l.take n = l.take k ++ (l.take n).drop k := by
  conv => lhs; rw [← List.take_append_drop k (l.take n)]
  rw [List.take_take, Nat.min_eq_left h]
theorem MH.takeA (m : MH O key A B r na nb) (sA : A.Pairwise (leK O key)) {k : Nat} (hk : k ≤ na) (h : ∀ x ∈ B.take nb, ∀ y ∈ (A.take na).drop k, leK O key x y) : MH O key A B ((A.take na).drop k ++ r) k nb := by
  have sp := cut_at (l := A) hk
  have sd : (A.take na).Pairwise (leK O key) := sA.sublist (List.take_sublist _ _)
  rw [sp, List.pairwise_append] at sd
  refine ⟨?_, List.pairwise_append.mpr ⟨sd.2.1, m.s, fun x hx y hy => m.la x (List.mem_of_mem_drop hx) y hy⟩, fun x hx y hy => ?_, fun x hx y hy => ?_⟩
  · refine List.Perm.trans ?_ m.p
    conv => rhs; rw [sp]
    rw [List.append_assoc, List.append_assoc, List.append_assoc]
    refine List.Perm.append_left _ ?_
    exact List.perm_append_comm_assoc _ _ _
  · rcases List.mem_append.mp hy with z | z
    · exact sd.2.2 x hx y z
    · exact m.la x (by rw [sp]; exact List.mem_append_left _ hx) y z
  · rcases List.mem_append.mp hy with z | z
    · exact h x hx y z
    · exact m.lb x hx y z
theorem MH.takeB (m : MH O key A B r na nb) (sB : B.Pairwise (leK O key)) {k : Nat} (hk : k ≤ nb) (h : ∀ x ∈ A.take na, ∀ y ∈ (B.take nb).drop k, leK O key x y) : MH O key A B ((B.take nb).drop k ++ r) na k := by
  have sp := cut_at (l := B) hk
  have sd : (B.take nb).Pairwise (leK O key) := sB.sublist (List.take_sublist _ _)
  rw [sp, List.pairwise_append] at sd
  refine ⟨?_, List.pairwise_append.mpr ⟨sd.2.1, m.s, fun x hx y hy => m.lb x (List.mem_of_mem_drop hx) y hy⟩, fun x hx y hy => ?_, fun x hx y hy => ?_⟩
  · refine List.Perm.trans ?_ m.p
    conv => rhs; rw [sp]
    rw [List.append_assoc, List.append_assoc, List.append_assoc]
  · rcases List.mem_append.mp hy with z | z
    · exact h x hx y z
    · exact m.la x hx y z
  · rcases List.mem_append.mp hy with z | z
    · exact sd.2.2 x hx y z
    · exact m.lb x (by rw [sp]; exact List.mem_append_left _ hx) y z
theorem MH.endA (m : MH O key A B r 0 nb) (sB : B.Pairwise (leK O key)) : Res O key A B (A.take 0 ++ B.take nb ++ r) := by
  refine ⟨m.p, ?_⟩
  rw [List.take_zero, List.nil_append]
  exact List.pairwise_append.mpr ⟨sB.sublist (List.take_sublist _ _), m.s, m.lb⟩
theorem MH.endB (m : MH O key A B r na 0) (sA : A.Pairwise (leK O key)) : Res O key A B (A.take na ++ B.take 0 ++ r) := by
  refine ⟨m.p, ?_⟩
  rw [List.take_zero, List.append_nil]
  exact List.pairwise_append.mpr ⟨sA.sublist (List.take_sublist _ _), m.s, m.la⟩
theorem MH.firstB (m : MH O key A B r na nb) (sA : A.Pairwise (leK O key)) (sB : B.Pairwise (leK O key)) (h : ∀ x ∈ B.take nb, ∀ y ∈ A, leK O key x y) : Res O key A B (B.take nb ++ A.take na ++ r) := by
  refine ⟨List.Perm.trans (List.Perm.append_right _ List.perm_append_comm) m.p, ?_⟩
  refine List.pairwise_append.mpr ⟨List.pairwise_append.mpr ⟨sB.sublist (List.take_sublist _ _), sA.sublist (List.take_sublist _ _), fun x hx y hy => h x hx y (List.mem_of_mem_take hy)⟩, m.s, fun x hx y hy => ?_⟩
  rcases List.mem_append.mp hx with z | z
  · exact m.lb x z y hy
  · exact m.la x z y hy
theorem MH.len (m : MH O key A B r na nb) (h1 : na ≤ A.length) (h2 : nb ≤ B.length) : na + nb + r.length = A.length + B.length := by
  have := m.p.length_eq
  rw [List.length_append, List.length_append, List.length_append, List.length_take, List.length_take] at this
  omega
theorem take_last {l : List Keyed} {n : Nat} {x : Keyed} (h0 : 0 < n) (h : l[n - 1]? = some x) : (l.take n).drop (n - 1) = [x] := by
  obtain ⟨hi, rfl⟩ := List.getElem?_eq_some_iff.mp h
  rw [List.drop_take, List.drop_eq_getElem_cons hi, show n - (n - 1) = 0 + 1 by omega, List.take_succ_cons, List.take_zero]
theorem take_le {l : List Keyed} (s : l.Pairwise (leK O key)) {n : Nat} {x : Keyed} (h : l[n - 1]? = some x) : ∀ y ∈ l.take n, leK O key y x := by
  intro y hy
  obtain ⟨j, hj⟩ := List.getElem?_of_mem hy
  have hl := (List.getElem?_eq_some_iff.mp hj).1
  rw [List.length_take] at hl
  rw [List.getElem?_take_of_lt (by omega)] at hj
  exact drop_ge s hj x (List.mem_of_getElem? (i := n - 1 - j) (by rw [List.getElem?_drop, show j + (n - 1 - j) = n - 1 by omega]; exact h))
theorem mem_takeAt {l : List Keyed} {n : Nat} {x : Keyed} (h : x ∈ l.take n) : ∃ j, j < n ∧ l[j]? = some x := by
  obtain ⟨j, hj⟩ := List.getElem?_of_mem h
  have hl := (List.getElem?_eq_some_iff.mp hj).1
  rw [List.length_take] at hl
  rw [List.getElem?_take_of_lt (by omega)] at hj
  exact ⟨j, by omega, hj⟩
theorem mem_takeDrop {l : List Keyed} {n k : Nat} {x : Keyed} (h : x ∈ (l.take n).drop k) : ∃ j, k ≤ j ∧ j < n ∧ l[j]? = some x := by
  obtain ⟨j, hj⟩ := List.getElem?_of_mem h
  rw [List.getElem?_drop] at hj
  have hl := (List.getElem?_eq_some_iff.mp hj).1
  rw [List.length_take] at hl
  rw [List.getElem?_take_of_lt (by omega)] at hj
  exact ⟨k + j, by omega, by omega, hj⟩
end
section
variable {M : Model} {Ar : Around} {E : Value → Shared → Prop} {s : Shared} {O : KeyOrd} {key : Keyed → O.α} {knd : SortKind} {D : Keyed → Prop}
theorem wpS_mergeHiS (hL : LtOk M Ar E s O key knd D) {a b : Array Keyed} {st : SortSt} {Q : Array Keyed → SortSt → Prop} (hk : kindOf st = knd) (dA : ∀ x ∈ a.toList, D x) (dB : ∀ x ∈ b.toList, D x) (sA : a.toList.Pairwise (leK O key)) (sB : b.toList.Pairwise (leK O key))
    (a1 : 1 ≤ a.size) (b1 : 1 ≤ b.size) (hb : ∀ y, b.toList[0]? = some y → ∀ x ∈ a.toList, leK O key y x) (ha : ∀ y, a.toList[a.size - 1]? = some y → ∀ x ∈ b.toList, leK O key x y)
    (h : ∀ (r : Array Keyed) (st' : SortSt), SameG st st' → Res O key a.toList b.toList r.toList → Q r st') : wpS M Ar E s (mergeHiS a b) Q st := by
  have lA : a.toList.length = a.size := Array.length_toList
  have lB : b.toList.length = b.size := Array.length_toList
  have tl : ∀ (c d o : Array Keyed) (n k : Nat), (c.extract 0 n ++ d.extract 0 k ++ o.reverse).toList = c.toList.take n ++ d.toList.take k ++ o.toList.reverse := fun c d o n k => by
    simp only [Array.toList_append, Array.toList_extract, List.extract_eq_take_drop, Array.toList_reverse, List.drop_zero, Nat.sub_zero]
  have out1 : ∀ {o : Array Keyed} {na nb : Nat}, MH O key a.toList b.toList o.toList.reverse na nb → na = 0 → Res O key a.toList b.toList (a.extract 0 na ++ b.extract 0 nb ++ o.reverse).toList := fun {o na nb} m e => by
    rw [tl]; subst e; exact m.endA sB
  have out2 : ∀ {o : Array Keyed} {na nb : Nat}, MH O key a.toList b.toList o.toList.reverse na nb → nb = 0 → Res O key a.toList b.toList (a.extract 0 na ++ b.extract 0 nb ++ o.reverse).toList := fun {o na nb} m e => by
    rw [tl]; subst e; exact m.endB sA
  have out3 : ∀ {o : Array Keyed} {na nb : Nat}, MH O key a.toList b.toList o.toList.reverse na nb → nb = 1 → Res O key a.toList b.toList (b.extract 0 nb ++ a.extract 0 na ++ o.reverse).toList := fun {o na nb} m e => by
    rw [tl]
    subst e
    refine m.firstB sA sB fun x hx y hy => ?_
    obtain ⟨j, hj1, hj2⟩ := mem_takeAt hx
    have : j = 0 := by omega
    subst this
    exact hb x hj2 y hy
  have pushA : ∀ {o : Array Keyed} {na nb : Nat} {x : Keyed}, MH O key a.toList b.toList o.toList.reverse na nb → 0 < na → a.toList[na - 1]? = some x → (∀ y ∈ b.toList.take nb, leK O key y x) → MH O key a.toList b.toList (o.push x).toList.reverse (na - 1) nb := fun {o na nb x} m h0 hx hy => by
    have := m.takeA sA (k := na - 1) (by omega) (by rw [take_last h0 hx]; intro z hz w hw; rw [List.mem_singleton.mp hw]; exact hy z hz)
    rw [take_last h0 hx] at this
    rw [Array.toList_push, List.reverse_append]; exact this
  have pushB : ∀ {o : Array Keyed} {na nb : Nat} {x : Keyed}, MH O key a.toList b.toList o.toList.reverse na nb → 0 < nb → b.toList[nb - 1]? = some x → (∀ y ∈ a.toList.take na, leK O key y x) → MH O key a.toList b.toList (o.push x).toList.reverse na (nb - 1) := fun {o na nb x} m h0 hx hy => by
    have := m.takeB sB (k := nb - 1) (by omega) (by rw [take_last h0 hx]; intro z hz w hw; rw [List.mem_singleton.mp hw]; exact hy z hz)
    rw [take_last h0 hx] at this
    rw [Array.toList_push, List.reverse_append]; exact this
  refine wpS_bind (wpS_lift (wpAny_rule ⟨rfl, ?_⟩))
  obtain ⟨al, q1, q2, q3⟩ := arr_at (a := a) (i := a.size - 1) (by omega)
  refine wpS_bind (wpS_elemS q1 ?_)
  (try dsimp only)
  have m0 : MH O key a.toList b.toList (#[al] : Array Keyed).toList.reverse (a.size - 1) b.size := by
    have s0 : MH O key a.toList b.toList (#[] : Array Keyed).toList.reverse a.size b.size := ⟨by rw [← lA, ← lB, List.take_length, List.take_length]; simp, by simp, fun x hx y hy => by simp at hy, fun x hx y hy => by simp at hy⟩
    exact pushA s0 (by omega) q2 fun y hy => ha al q2 y (List.mem_of_mem_take hy)
  by_cases z1 : (a.size - 1 == 0) = true
  · rw [if_pos z1]
    exact wpS_pure (h _ _ (SameG.refl _) (out1 m0 (by simpa using z1)))
  rw [if_neg z1]
  have z1' : 0 < a.size - 1 := by
    have : ¬ a.size - 1 = 0 := by simpa using z1
    omega
  by_cases z2 : (b.size == 1) = true
  · rw [if_pos z2]
    exact wpS_pure (h _ _ (SameG.refl _) (out3 m0 (by simpa using z2)))
  rw [if_neg z2]
  have z2' : 1 < b.size := by
    have : ¬ b.size = 1 := by simpa using z2
    omega
  clear z1 z2
  refine wpS_bind (wpS_get ?_)
  refine wpS_bind (wpS_mono (wpS_forRange (I := fun x c st' => SameG st st' ∧ ∃ (o : Array Keyed) (na nb mg : Nat), c = (none, na, nb, o, mg) ∧ MH O key a.toList b.toList o.toList.reverse na nb ∧ (0 < na ∧ na ≤ a.size) ∧ (1 < nb ∧ nb ≤ b.size) ∧ 1 + x ≤ o.size)
    (Q := fun c st' => SameG st st' ∧ ∃ r, c.1 = some r ∧ Res O key a.toList b.toList r.toList) ?step ?fin ⟨SameG.refl _, _, _, _, _, rfl, m0, ⟨z1', by omega⟩, ⟨z2', Nat.le_refl _⟩, Nat.le_refl _⟩) ?post)
  case post =>
    rintro c st' ⟨g, r, e, hr⟩
    (try dsimp only)
    rw [e]
    exact wpS_pure (h _ _ g hr)
  case fin =>
    rintro c st' ⟨g, o, na, nb, mg, rfl, m, h1, h2, h3⟩
    have := m.len (by omega) (by omega)
    rw [lA, lB, List.length_reverse, Array.length_toList] at this
    exfalso; omega
  case step =>
    rintro x c st' _ hx ⟨g, o, na, nb, mg, rfl, m, h1, h2, h3⟩
    (try dsimp only)
    refine wpS_bind (wpS_mono (wpS_forRange (I := fun y c st2 => SameG st st2 ∧ ∃ (o' : Array Keyed) (na nb ac bc : Nat), c = (none, na, nb, o', ac, bc) ∧ MH O key a.toList b.toList o'.toList.reverse na nb ∧ (0 < na ∧ na ≤ a.size) ∧ (1 < nb ∧ nb ≤ b.size) ∧ o.size + y ≤ o'.size)
      (Q := fun c st2 => SameG st st2 ∧ ((∃ r, c.1 = some r ∧ Res O key a.toList b.toList r.toList) ∨ ∃ (o' : Array Keyed) (na nb ac bc : Nat), c = (none, na, nb, o', ac, bc) ∧ MH O key a.toList b.toList o'.toList.reverse na nb ∧ (0 < na ∧ na ≤ a.size) ∧ (1 < nb ∧ nb ≤ b.size) ∧ o.size + 1 ≤ o'.size)) ?_ ?_ ⟨g, _, _, _, _, _, rfl, m, h1, h2, Nat.le_refl _⟩) ?_)
    · rintro y c st2 _ hy ⟨g2, o', na, nb, ac, bc, rfl, m, h1, h2, h3⟩
      (try dsimp only)
      obtain ⟨xb, e1, e2, e3⟩ := arr_at (a := b) (i := nb - 1) (by omega)
      obtain ⟨xa, f1, f2, f3⟩ := arr_at (a := a) (i := na - 1) (by omega)
      refine wpS_bind (wpS_elemS e1 (wpS_bind (wpS_elemS f1 (wpS_bind (hL.lt (dB _ e3) (dA _ f3) (g2.1.trans hk) ?_)))))
      cases w : O.blt (key xb) (key xa) with
      | true =>
        (try dsimp only)
        rw [if_pos rfl]
        refine wpS_bind (wpS_elemS f1 ?_)
        have m' := pushA m h1.1 f2 fun y hy => leK_trans (take_le sB e2 y hy) (leK_of w)
        (try dsimp only)
        by_cases z : (na - 1 == 0) = true
        · rw [if_pos z]
          exact wpS_pure ⟨g2, .inl ⟨_, rfl, out1 m' (by simpa using z)⟩⟩
        · rw [if_neg z]
          have z' : 0 < na - 1 := by
            have : ¬ na - 1 = 0 := by simpa using z
            omega
          by_cases v : ac + 1 ≥ mg
          · rw [if_pos v]
            exact wpS_pure ⟨g2, .inr ⟨_, _, _, _, _, rfl, m', ⟨z', by omega⟩, h2, by rw [Array.size_push]; omega⟩⟩
          · rw [if_neg v]
            exact wpS_pure ⟨g2, _, _, _, _, _, rfl, m', ⟨z', by omega⟩, h2, by rw [Array.size_push]; omega⟩
      | false =>
        (try dsimp only)
        rw [if_neg Bool.false_ne_true]
        refine wpS_bind (wpS_elemS e1 ?_)
        have m' := pushB m (by omega) e2 fun y hy => leK_trans (take_le sA f2 y hy) w
        (try dsimp only)
        by_cases z : (nb - 1 == 1) = true
        · rw [if_pos z]
          exact wpS_pure ⟨g2, .inl ⟨_, rfl, out3 m' (by simpa using z)⟩⟩
        · rw [if_neg z]
          have z' : 1 < nb - 1 := by
            have : ¬ nb - 1 = 1 := by simpa using z
            omega
          by_cases v : bc + 1 ≥ mg
          · rw [if_pos v]
            exact wpS_pure ⟨g2, .inr ⟨_, _, _, _, _, rfl, m', h1, ⟨z', by omega⟩, by rw [Array.size_push]; omega⟩⟩
          · rw [if_neg v]
            exact wpS_pure ⟨g2, _, _, _, _, _, rfl, m', h1, ⟨z', by omega⟩, by rw [Array.size_push]; omega⟩
    · rintro c st2 ⟨g2, o', na, nb, ac, bc, rfl, m, h1, h2, h3⟩
      exact ⟨g2, .inr ⟨_, _, _, _, _, rfl, m, h1, h2, by omega⟩⟩
    rintro c st2 ⟨g2, hc⟩
    rcases hc with ⟨r, e, hr⟩ | ⟨o', na, nb, ac, bc, rfl, m, h1, h2, h4⟩
    · (try dsimp only)
      rw [e]
      exact wpS_pure ⟨g2, r, rfl, hr⟩
    (try dsimp only)
    refine wpS_bind (wpS_lift (wpAny_rule ⟨rfl, ?_⟩))
    refine wpS_bind (wpS_mono (wpS_forRange (I := fun y c st3 => SameG st st3 ∧ ∃ (o2 : Array Keyed) (na nb mg ac bc : Nat), c = (none, na, nb, o2, mg, ac, bc) ∧ MH O key a.toList b.toList o2.toList.reverse na nb ∧ (0 < na ∧ na ≤ a.size) ∧ (1 < nb ∧ nb ≤ b.size) ∧ o'.size ≤ o2.size)
      (Q := fun c st3 => SameG st st3 ∧ ((∃ r, c.1 = some r ∧ Res O key a.toList b.toList r.toList) ∨ ∃ (o2 : Array Keyed) (na nb mg ac bc : Nat), c = (none, na, nb, o2, mg, ac, bc) ∧ MH O key a.toList b.toList o2.toList.reverse na nb ∧ (0 < na ∧ na ≤ a.size) ∧ (1 < nb ∧ nb ≤ b.size) ∧ o'.size ≤ o2.size)) ?_ ?_ ⟨g2, _, _, _, _, _, _, rfl, m, h1, h2, Nat.le_refl _⟩) ?_)
    · rintro y c st3 _ hy ⟨g3, o2, na, nb, mg2, ac, bc, rfl, m, h1, h2, h5⟩
      (try dsimp only)
      obtain ⟨xb, e1, e2, e3⟩ := arr_at (a := b) (i := nb - 1) (by omega)
      by_cases mgz : mg2 > 1
      · rw [if_pos mgz]
        refine wpS_bind (wpS_modify ?_)
        refine wpS_bind (wpS_elemS e1 (wpS_bind (wpS_gR hL (g3.1.trans hk) sA dA (dB _ e3) (by omega) (by omega) fun k k1 k2 k3 => ?_)))
        have g4 := g3.set (mg2 - 1)
        (try dsimp only)
        by_cases w : na - k > 0
        · rw [if_pos w]
          have mA : MH O key a.toList b.toList (o2 ++ (a.extract k na).reverse).toList.reverse k nb := by
            have := m.takeA sA k1 fun x hx y hy => by
              obtain ⟨j, hj1, hj2, hj3⟩ := mem_takeDrop hy
              exact leK_trans (take_le sB e2 x hx) (leK_of (k3 j y hj1 hj2 (by rw [Nat.zero_add]; exact hj3)))
            rw [Array.toList_append, Array.toList_reverse, List.reverse_append, List.reverse_reverse, Array.toList_extract, List.extract_eq_take_drop, ← List.drop_take]
            exact this
          by_cases y1 : (k == 0) = true
          · rw [if_pos y1]
            exact wpS_pure ⟨g4, .inl ⟨_, rfl, out1 mA (by simpa using y1)⟩⟩
          · rw [if_neg y1]
            have h0X : 0 < k := by
              have q1 : ¬ k = 0 := by simpa using y1
              omega
            clear y1
            have szX : o'.size ≤ (o2 ++ (a.extract k na).reverse).size := (by rw [Array.size_append]; omega)
            refine wpS_bind (wpS_elemS e1 ?_)
            have m2 := pushB mA (by omega) e2 (fun y hy => by obtain ⟨j, hj1, hj2⟩ := mem_takeAt hy; exact k2 j y hj1 (by rw [Nat.zero_add]; exact hj2))
            (try dsimp only)
            by_cases z : (nb - 1 == 1) = true
            · rw [if_pos z]
              exact wpS_pure ⟨g4, .inl ⟨_, rfl, out3 m2 (by simpa using z)⟩⟩
            · rw [if_neg z]
              have z' : 1 < nb - 1 := by
                have : ¬ nb - 1 = 1 := by simpa using z
                omega
              obtain ⟨xa, f1, f2, f3⟩ := arr_at (a := a) (i := k - 1) (by omega)
              refine wpS_bind (wpS_elemS f1 (wpS_bind (wpS_gL hL (g4.1.trans hk) sB dB (dA _ f3) (by omega) (by omega) fun k' p1 p2 p3 => ?_)))
              (try dsimp only)
              by_cases v : nb - 1 - k' > 0
              · rw [if_pos v]
                have mB : MH O key a.toList b.toList ((o2 ++ (a.extract k na).reverse).push xb ++ (b.extract k' (nb - 1)).reverse).toList.reverse k k' := by
                  have := m2.takeB sB p1 fun x hx y hy => by
                    obtain ⟨j, hj1, hj2, hj3⟩ := mem_takeDrop hy
                    exact leK_trans (take_le sA f2 x hx) (p3 j y hj1 hj2 (by rw [Nat.zero_add]; exact hj3))
                  rw [Array.toList_append, Array.toList_reverse, List.reverse_append, List.reverse_reverse, Array.toList_extract, List.extract_eq_take_drop, ← List.drop_take]
                  exact this
                by_cases y : (k' == 1) = true
                · rw [if_pos y]
                  exact wpS_pure ⟨g4, .inl ⟨_, rfl, out3 mB (by simpa using y)⟩⟩
                · rw [if_neg y]
                  by_cases y0 : (k' == 0) = true
                  · rw [if_pos y0]
                    exact wpS_pure ⟨g4, .inl ⟨_, rfl, out2 mB (by simpa using y0)⟩⟩
                  · rw [if_neg y0]
                    have v' : 1 < k' ∧ k' ≤ b.size := by
                      have q1 : ¬ k' = 1 := by simpa using y
                      have q2 : ¬ k' = 0 := by simpa using y0
                      omega
                    refine wpS_bind (wpS_elemS f1 ?_)
                    have m3 := pushA mB h0X f2 (fun y hy => by obtain ⟨j, hj1, hj2⟩ := mem_takeAt hy; exact leK_of (p2 j y hj1 (by rw [Nat.zero_add]; exact hj2)))
                    (try dsimp only)
                    by_cases u : (k - 1 == 0) = true
                    · rw [if_pos u]
                      exact wpS_pure ⟨g4, .inl ⟨_, rfl, out1 m3 (by simpa using u)⟩⟩
                    · rw [if_neg u]
                      have u' : 0 < k - 1 ∧ k - 1 ≤ a.size := by
                        have : ¬ k - 1 = 0 := by simpa using u
                        omega
                      have sz3 : o'.size ≤ (((o2 ++ (a.extract k na).reverse).push xb ++ (b.extract k' (nb - 1)).reverse).push xa).size := by
                        rw [Array.size_push]
                        have : o'.size ≤ ((o2 ++ (a.extract k na).reverse).push xb ++ (b.extract k' (nb - 1)).reverse).size := (by rw [Array.size_append, Array.size_push]; omega)
                        omega
                      by_cases t : (decide (na - k < 7) && decide (nb - 1 - k' < 7)) = true
                      · rw [if_pos t]
                        exact wpS_pure ⟨g4, .inr ⟨_, _, _, _, _, _, rfl, m3, u', v', sz3⟩⟩
                      · rw [if_neg t]
                        exact wpS_pure ⟨g4, _, _, _, _, _, _, rfl, m3, u', v', sz3⟩
              · rw [if_neg v]
                have v0 : k' = nb - 1 := by omega
                refine wpS_bind (wpS_elemS f1 ?_)
                have m3 := pushA m2 h0X f2 (fun y hy => by obtain ⟨j, hj1, hj2⟩ := mem_takeAt hy; exact leK_of (p2 j y (by omega) (by rw [Nat.zero_add]; exact hj2)))
                (try dsimp only)
                by_cases u : (k - 1 == 0) = true
                · rw [if_pos u]
                  exact wpS_pure ⟨g4, .inl ⟨_, rfl, out1 m3 (by simpa using u)⟩⟩
                · rw [if_neg u]
                  have u' : 0 < k - 1 ∧ k - 1 ≤ a.size := by
                    have : ¬ k - 1 = 0 := by simpa using u
                    omega
                  have sz3 : o'.size ≤ (((o2 ++ (a.extract k na).reverse).push xb).push xa).size := by
                    rw [Array.size_push]
                    have : o'.size ≤ ((o2 ++ (a.extract k na).reverse).push xb).size := (by rw [Array.size_push]; omega)
                    omega
                  by_cases t : (decide (na - k < 7) && decide (nb - 1 - k' < 7)) = true
                  · rw [if_pos t]
                    exact wpS_pure ⟨g4, .inr ⟨_, _, _, _, _, _, rfl, m3, u', ⟨z', by omega⟩, sz3⟩⟩
                  · rw [if_neg t]
                    exact wpS_pure ⟨g4, _, _, _, _, _, _, rfl, m3, u', ⟨z', by omega⟩, sz3⟩
        · rw [if_neg w]
          have w0 : k = na := by omega
          have h0X := h1.1
          have szX : o'.size ≤ o2.size := h5
          refine wpS_bind (wpS_elemS e1 ?_)
          have m2 := pushB m (by omega) e2 (fun y hy => by obtain ⟨j, hj1, hj2⟩ := mem_takeAt hy; exact k2 j y (by omega) (by rw [Nat.zero_add]; exact hj2))
          (try dsimp only)
          by_cases z : (nb - 1 == 1) = true
          · rw [if_pos z]
            exact wpS_pure ⟨g4, .inl ⟨_, rfl, out3 m2 (by simpa using z)⟩⟩
          · rw [if_neg z]
            have z' : 1 < nb - 1 := by
              have : ¬ nb - 1 = 1 := by simpa using z
              omega
            obtain ⟨xa, f1, f2, f3⟩ := arr_at (a := a) (i := na - 1) (by omega)
            refine wpS_bind (wpS_elemS f1 (wpS_bind (wpS_gL hL (g4.1.trans hk) sB dB (dA _ f3) (by omega) (by omega) fun k' p1 p2 p3 => ?_)))
            (try dsimp only)
            by_cases v : nb - 1 - k' > 0
            · rw [if_pos v]
              have mB : MH O key a.toList b.toList (o2.push xb ++ (b.extract k' (nb - 1)).reverse).toList.reverse na k' := by
                have := m2.takeB sB p1 fun x hx y hy => by
                  obtain ⟨j, hj1, hj2, hj3⟩ := mem_takeDrop hy
                  exact leK_trans (take_le sA f2 x hx) (p3 j y hj1 hj2 (by rw [Nat.zero_add]; exact hj3))
                rw [Array.toList_append, Array.toList_reverse, List.reverse_append, List.reverse_reverse, Array.toList_extract, List.extract_eq_take_drop, ← List.drop_take]
                exact this
              by_cases y : (k' == 1) = true
              · rw [if_pos y]
                exact wpS_pure ⟨g4, .inl ⟨_, rfl, out3 mB (by simpa using y)⟩⟩
              · rw [if_neg y]
                by_cases y0 : (k' == 0) = true
                · rw [if_pos y0]
                  exact wpS_pure ⟨g4, .inl ⟨_, rfl, out2 mB (by simpa using y0)⟩⟩
                · rw [if_neg y0]
                  have v' : 1 < k' ∧ k' ≤ b.size := by
                    have q1 : ¬ k' = 1 := by simpa using y
                    have q2 : ¬ k' = 0 := by simpa using y0
                    omega
                  refine wpS_bind (wpS_elemS f1 ?_)
                  have m3 := pushA mB h0X f2 (fun y hy => by obtain ⟨j, hj1, hj2⟩ := mem_takeAt hy; exact leK_of (p2 j y hj1 (by rw [Nat.zero_add]; exact hj2)))
                  (try dsimp only)
                  by_cases u : (na - 1 == 0) = true
                  · rw [if_pos u]
                    exact wpS_pure ⟨g4, .inl ⟨_, rfl, out1 m3 (by simpa using u)⟩⟩
                  · rw [if_neg u]
                    have u' : 0 < na - 1 ∧ na - 1 ≤ a.size := by
                      have : ¬ na - 1 = 0 := by simpa using u
                      omega
                    have sz3 : o'.size ≤ ((o2.push xb ++ (b.extract k' (nb - 1)).reverse).push xa).size := by
                      rw [Array.size_push]
                      have : o'.size ≤ (o2.push xb ++ (b.extract k' (nb - 1)).reverse).size := (by rw [Array.size_append, Array.size_push]; omega)
                      omega
                    by_cases t : (decide (na - k < 7) && decide (nb - 1 - k' < 7)) = true
                    · rw [if_pos t]
                      exact wpS_pure ⟨g4, .inr ⟨_, _, _, _, _, _, rfl, m3, u', v', sz3⟩⟩
                    · rw [if_neg t]
                      exact wpS_pure ⟨g4, _, _, _, _, _, _, rfl, m3, u', v', sz3⟩
            · rw [if_neg v]
              have v0 : k' = nb - 1 := by omega
              refine wpS_bind (wpS_elemS f1 ?_)
              have m3 := pushA m2 h0X f2 (fun y hy => by obtain ⟨j, hj1, hj2⟩ := mem_takeAt hy; exact leK_of (p2 j y (by omega) (by rw [Nat.zero_add]; exact hj2)))
              (try dsimp only)
              by_cases u : (na - 1 == 0) = true
              · rw [if_pos u]
                exact wpS_pure ⟨g4, .inl ⟨_, rfl, out1 m3 (by simpa using u)⟩⟩
              · rw [if_neg u]
                have u' : 0 < na - 1 ∧ na - 1 ≤ a.size := by
                  have : ¬ na - 1 = 0 := by simpa using u
                  omega
                have sz3 : o'.size ≤ ((o2.push xb).push xa).size := by
                  rw [Array.size_push]
                  have : o'.size ≤ (o2.push xb).size := (by rw [Array.size_push]; omega)
                  omega
                by_cases t : (decide (na - k < 7) && decide (nb - 1 - k' < 7)) = true
                · rw [if_pos t]
                  exact wpS_pure ⟨g4, .inr ⟨_, _, _, _, _, _, rfl, m3, u', ⟨z', by omega⟩, sz3⟩⟩
                · rw [if_neg t]
                  exact wpS_pure ⟨g4, _, _, _, _, _, _, rfl, m3, u', ⟨z', by omega⟩, sz3⟩
      · rw [if_neg mgz]
        refine wpS_bind (wpS_modify ?_)
        refine wpS_bind (wpS_elemS e1 (wpS_bind (wpS_gR hL (g3.1.trans hk) sA dA (dB _ e3) (by omega) (by omega) fun k k1 k2 k3 => ?_)))
        have g4 := g3.set mg2
        (try dsimp only)
        by_cases w : na - k > 0
        · rw [if_pos w]
          have mA : MH O key a.toList b.toList (o2 ++ (a.extract k na).reverse).toList.reverse k nb := by
            have := m.takeA sA k1 fun x hx y hy => by
              obtain ⟨j, hj1, hj2, hj3⟩ := mem_takeDrop hy
              exact leK_trans (take_le sB e2 x hx) (leK_of (k3 j y hj1 hj2 (by rw [Nat.zero_add]; exact hj3)))
            rw [Array.toList_append, Array.toList_reverse, List.reverse_append, List.reverse_reverse, Array.toList_extract, List.extract_eq_take_drop, ← List.drop_take]
            exact this
          by_cases y1 : (k == 0) = true
          · rw [if_pos y1]
            exact wpS_pure ⟨g4, .inl ⟨_, rfl, out1 mA (by simpa using y1)⟩⟩
          · rw [if_neg y1]
            have h0X : 0 < k := by
              have q1 : ¬ k = 0 := by simpa using y1
              omega
            clear y1
            have szX : o'.size ≤ (o2 ++ (a.extract k na).reverse).size := (by rw [Array.size_append]; omega)
            refine wpS_bind (wpS_elemS e1 ?_)
            have m2 := pushB mA (by omega) e2 (fun y hy => by obtain ⟨j, hj1, hj2⟩ := mem_takeAt hy; exact k2 j y hj1 (by rw [Nat.zero_add]; exact hj2))
            (try dsimp only)
            by_cases z : (nb - 1 == 1) = true
            · rw [if_pos z]
              exact wpS_pure ⟨g4, .inl ⟨_, rfl, out3 m2 (by simpa using z)⟩⟩
            · rw [if_neg z]
              have z' : 1 < nb - 1 := by
                have : ¬ nb - 1 = 1 := by simpa using z
                omega
              obtain ⟨xa, f1, f2, f3⟩ := arr_at (a := a) (i := k - 1) (by omega)
              refine wpS_bind (wpS_elemS f1 (wpS_bind (wpS_gL hL (g4.1.trans hk) sB dB (dA _ f3) (by omega) (by omega) fun k' p1 p2 p3 => ?_)))
              (try dsimp only)
              by_cases v : nb - 1 - k' > 0
              · rw [if_pos v]
                have mB : MH O key a.toList b.toList ((o2 ++ (a.extract k na).reverse).push xb ++ (b.extract k' (nb - 1)).reverse).toList.reverse k k' := by
                  have := m2.takeB sB p1 fun x hx y hy => by
                    obtain ⟨j, hj1, hj2, hj3⟩ := mem_takeDrop hy
                    exact leK_trans (take_le sA f2 x hx) (p3 j y hj1 hj2 (by rw [Nat.zero_add]; exact hj3))
                  rw [Array.toList_append, Array.toList_reverse, List.reverse_append, List.reverse_reverse, Array.toList_extract, List.extract_eq_take_drop, ← List.drop_take]
                  exact this
                by_cases y : (k' == 1) = true
                · rw [if_pos y]
                  exact wpS_pure ⟨g4, .inl ⟨_, rfl, out3 mB (by simpa using y)⟩⟩
                · rw [if_neg y]
                  by_cases y0 : (k' == 0) = true
                  · rw [if_pos y0]
                    exact wpS_pure ⟨g4, .inl ⟨_, rfl, out2 mB (by simpa using y0)⟩⟩
                  · rw [if_neg y0]
                    have v' : 1 < k' ∧ k' ≤ b.size := by
                      have q1 : ¬ k' = 1 := by simpa using y
                      have q2 : ¬ k' = 0 := by simpa using y0
                      omega
                    refine wpS_bind (wpS_elemS f1 ?_)
                    have m3 := pushA mB h0X f2 (fun y hy => by obtain ⟨j, hj1, hj2⟩ := mem_takeAt hy; exact leK_of (p2 j y hj1 (by rw [Nat.zero_add]; exact hj2)))
                    (try dsimp only)
                    by_cases u : (k - 1 == 0) = true
                    · rw [if_pos u]
                      exact wpS_pure ⟨g4, .inl ⟨_, rfl, out1 m3 (by simpa using u)⟩⟩
                    · rw [if_neg u]
                      have u' : 0 < k - 1 ∧ k - 1 ≤ a.size := by
                        have : ¬ k - 1 = 0 := by simpa using u
                        omega
                      have sz3 : o'.size ≤ (((o2 ++ (a.extract k na).reverse).push xb ++ (b.extract k' (nb - 1)).reverse).push xa).size := by
                        rw [Array.size_push]
                        have : o'.size ≤ ((o2 ++ (a.extract k na).reverse).push xb ++ (b.extract k' (nb - 1)).reverse).size := (by rw [Array.size_append, Array.size_push]; omega)
                        omega
                      by_cases t : (decide (na - k < 7) && decide (nb - 1 - k' < 7)) = true
                      · rw [if_pos t]
                        exact wpS_pure ⟨g4, .inr ⟨_, _, _, _, _, _, rfl, m3, u', v', sz3⟩⟩
                      · rw [if_neg t]
                        exact wpS_pure ⟨g4, _, _, _, _, _, _, rfl, m3, u', v', sz3⟩
              · rw [if_neg v]
                have v0 : k' = nb - 1 := by omega
                refine wpS_bind (wpS_elemS f1 ?_)
                have m3 := pushA m2 h0X f2 (fun y hy => by obtain ⟨j, hj1, hj2⟩ := mem_takeAt hy; exact leK_of (p2 j y (by omega) (by rw [Nat.zero_add]; exact hj2)))
                (try dsimp only)
                by_cases u : (k - 1 == 0) = true
                · rw [if_pos u]
                  exact wpS_pure ⟨g4, .inl ⟨_, rfl, out1 m3 (by simpa using u)⟩⟩
                · rw [if_neg u]
                  have u' : 0 < k - 1 ∧ k - 1 ≤ a.size := by
                    have : ¬ k - 1 = 0 := by simpa using u
                    omega
                  have sz3 : o'.size ≤ (((o2 ++ (a.extract k na).reverse).push xb).push xa).size := by
                    rw [Array.size_push]
                    have : o'.size ≤ ((o2 ++ (a.extract k na).reverse).push xb).size := (by rw [Array.size_push]; omega)
                    omega
                  by_cases t : (decide (na - k < 7) && decide (nb - 1 - k' < 7)) = true
                  · rw [if_pos t]
                    exact wpS_pure ⟨g4, .inr ⟨_, _, _, _, _, _, rfl, m3, u', ⟨z', by omega⟩, sz3⟩⟩
                  · rw [if_neg t]
                    exact wpS_pure ⟨g4, _, _, _, _, _, _, rfl, m3, u', ⟨z', by omega⟩, sz3⟩
        · rw [if_neg w]
          have w0 : k = na := by omega
          have h0X := h1.1
          have szX : o'.size ≤ o2.size := h5
          refine wpS_bind (wpS_elemS e1 ?_)
          have m2 := pushB m (by omega) e2 (fun y hy => by obtain ⟨j, hj1, hj2⟩ := mem_takeAt hy; exact k2 j y (by omega) (by rw [Nat.zero_add]; exact hj2))
          (try dsimp only)
          by_cases z : (nb - 1 == 1) = true
          · rw [if_pos z]
            exact wpS_pure ⟨g4, .inl ⟨_, rfl, out3 m2 (by simpa using z)⟩⟩
          · rw [if_neg z]
            have z' : 1 < nb - 1 := by
              have : ¬ nb - 1 = 1 := by simpa using z
              omega
            obtain ⟨xa, f1, f2, f3⟩ := arr_at (a := a) (i := na - 1) (by omega)
            refine wpS_bind (wpS_elemS f1 (wpS_bind (wpS_gL hL (g4.1.trans hk) sB dB (dA _ f3) (by omega) (by omega) fun k' p1 p2 p3 => ?_)))
            (try dsimp only)
            by_cases v : nb - 1 - k' > 0
            · rw [if_pos v]
              have mB : MH O key a.toList b.toList (o2.push xb ++ (b.extract k' (nb - 1)).reverse).toList.reverse na k' := by
                have := m2.takeB sB p1 fun x hx y hy => by
                  obtain ⟨j, hj1, hj2, hj3⟩ := mem_takeDrop hy
                  exact leK_trans (take_le sA f2 x hx) (p3 j y hj1 hj2 (by rw [Nat.zero_add]; exact hj3))
                rw [Array.toList_append, Array.toList_reverse, List.reverse_append, List.reverse_reverse, Array.toList_extract, List.extract_eq_take_drop, ← List.drop_take]
                exact this
              by_cases y : (k' == 1) = true
              · rw [if_pos y]
                exact wpS_pure ⟨g4, .inl ⟨_, rfl, out3 mB (by simpa using y)⟩⟩
              · rw [if_neg y]
                by_cases y0 : (k' == 0) = true
                · rw [if_pos y0]
                  exact wpS_pure ⟨g4, .inl ⟨_, rfl, out2 mB (by simpa using y0)⟩⟩
                · rw [if_neg y0]
                  have v' : 1 < k' ∧ k' ≤ b.size := by
                    have q1 : ¬ k' = 1 := by simpa using y
                    have q2 : ¬ k' = 0 := by simpa using y0
                    omega
                  refine wpS_bind (wpS_elemS f1 ?_)
                  have m3 := pushA mB h0X f2 (fun y hy => by obtain ⟨j, hj1, hj2⟩ := mem_takeAt hy; exact leK_of (p2 j y hj1 (by rw [Nat.zero_add]; exact hj2)))
                  (try dsimp only)
                  by_cases u : (na - 1 == 0) = true
                  · rw [if_pos u]
                    exact wpS_pure ⟨g4, .inl ⟨_, rfl, out1 m3 (by simpa using u)⟩⟩
                  · rw [if_neg u]
                    have u' : 0 < na - 1 ∧ na - 1 ≤ a.size := by
                      have : ¬ na - 1 = 0 := by simpa using u
                      omega
                    have sz3 : o'.size ≤ ((o2.push xb ++ (b.extract k' (nb - 1)).reverse).push xa).size := by
                      rw [Array.size_push]
                      have : o'.size ≤ (o2.push xb ++ (b.extract k' (nb - 1)).reverse).size := (by rw [Array.size_append, Array.size_push]; omega)
                      omega
                    by_cases t : (decide (na - k < 7) && decide (nb - 1 - k' < 7)) = true
                    · rw [if_pos t]
                      exact wpS_pure ⟨g4, .inr ⟨_, _, _, _, _, _, rfl, m3, u', v', sz3⟩⟩
                    · rw [if_neg t]
                      exact wpS_pure ⟨g4, _, _, _, _, _, _, rfl, m3, u', v', sz3⟩
            · rw [if_neg v]
              have v0 : k' = nb - 1 := by omega
              refine wpS_bind (wpS_elemS f1 ?_)
              have m3 := pushA m2 h0X f2 (fun y hy => by obtain ⟨j, hj1, hj2⟩ := mem_takeAt hy; exact leK_of (p2 j y (by omega) (by rw [Nat.zero_add]; exact hj2)))
              (try dsimp only)
              by_cases u : (na - 1 == 0) = true
              · rw [if_pos u]
                exact wpS_pure ⟨g4, .inl ⟨_, rfl, out1 m3 (by simpa using u)⟩⟩
              · rw [if_neg u]
                have u' : 0 < na - 1 ∧ na - 1 ≤ a.size := by
                  have : ¬ na - 1 = 0 := by simpa using u
                  omega
                have sz3 : o'.size ≤ ((o2.push xb).push xa).size := by
                  rw [Array.size_push]
                  have : o'.size ≤ (o2.push xb).size := (by rw [Array.size_push]; omega)
                  omega
                by_cases t : (decide (na - k < 7) && decide (nb - 1 - k' < 7)) = true
                · rw [if_pos t]
                  exact wpS_pure ⟨g4, .inr ⟨_, _, _, _, _, _, rfl, m3, u', ⟨z', by omega⟩, sz3⟩⟩
                · rw [if_neg t]
                  exact wpS_pure ⟨g4, _, _, _, _, _, _, rfl, m3, u', ⟨z', by omega⟩, sz3⟩
    · rintro c st3 ⟨g3, o2, na, nb, mg2, ac, bc, rfl, m, h1, h2, h5⟩
      exact ⟨g3, .inr ⟨_, _, _, _, _, _, rfl, m, h1, h2, h5⟩⟩
    rintro c st3 ⟨g3, hc⟩
    rcases hc with ⟨r, e, hr⟩ | ⟨o2, na, nb, mg2, ac, bc, rfl, m, h1, h2, h5⟩
    · (try dsimp only)
      rw [e]
      exact wpS_pure ⟨g3, r, rfl, hr⟩
    (try dsimp only)
    exact wpS_bind (wpS_modify (wpS_pure ⟨g3.set _, _, _, _, _, rfl, m, h1, h2, by omega⟩))
end
end L2

namespace L2
open PySem PyProof.Rows
/-! ### runs -/
section
variable {O : KeyOrd} {key : Keyed → O.α}
def kx (key : Keyed → O.α) (xs : Array Keyed) (i : Nat) : O.α := key ((xs[i]?).getD (.none, .none))
def SrtI (O : KeyOrd) (key : Keyed → O.α) (xs : Array Keyed) (lo hi : Nat) : Prop := ∀ i j, lo ≤ i → i ≤ j → j < hi → O.kle (kx key xs i) (kx key xs j)
def DecI (O : KeyOrd) (key : Keyed → O.α) (xs : Array Keyed) (lo hi : Nat) : Prop := ∀ i j, lo ≤ i → i ≤ j → j < hi → O.kle (kx key xs j) (kx key xs i)
theorem kx_congr {xs ys : Array Keyed} {i j : Nat} (h : xs[i]? = ys[j]?) : kx key xs i = kx key ys j := by unfold kx; rw [h]
theorem kx_at {xs : Array Keyed} {i : Nat} {x : Keyed} (h : xs[i]? = some x) : kx key xs i = key x := by unfold kx; rw [h]; rfl
theorem kx_mirror {xs : Array Keyed} {i j : Nat} (hj : j ≤ xs.size) (k : Nat) : kx key (mirror xs i j ((j - i) / 2)) k = if i ≤ k ∧ k < j then kx key xs (i + j - 1 - k) else kx key xs k := by
  have e := getElem?_mirror_all (i := i) hj k
  split
  · rename_i h; rw [if_pos h] at e; exact kx_congr e
  · rename_i h; rw [if_neg h] at e; exact kx_congr e
theorem kx_mirror_eq {xs : Array Keyed} {i j : Nat} (hj : j ≤ xs.size) (he : ∀ k, i ≤ k → k < j → kx key xs k = kx key xs (j - 1)) (k : Nat) : kx key (mirror xs i j ((j - i) / 2)) k = kx key xs k := by
  rw [kx_mirror hj]
  split
  · rename_i h
    rw [he (i + j - 1 - k) (by omega) (by omega), he k h.1 h.2]
  · rfl
theorem kx_bubble {xs : Array Keyed} {src d : Nat} (hs : src < xs.size) (hd : d ≤ src) (k : Nat) : kx key (bubble xs src d) k = if k = src - d then kx key xs src else if src - d < k ∧ k ≤ src then kx key xs (k - 1) else kx key xs k := by
  have e := getElem?_bubble hs d hd k
  split
  · rename_i h; rw [if_pos h] at e; exact kx_congr e
  · rename_i h
    rw [if_neg h] at e
    split
    · rename_i h'; rw [if_pos h'] at e; exact kx_congr e
    · rename_i h'; rw [if_neg h'] at e; exact kx_congr e
end
/-- the same items, in other places from lo on up to hi at most -/
def PermIn (xs ys : Array Keyed) (lo hi : Nat) : Prop := ys.Perm xs ∧ ∀ k, k < lo ∨ hi ≤ k → ys[k]? = xs[k]?
theorem PermIn.refl (xs : Array Keyed) (lo hi : Nat) : PermIn xs xs lo hi := ⟨Array.Perm.refl _, fun _ _ => rfl⟩
theorem PermIn.trans {xs ys zs : Array Keyed} {lo hi : Nat} (h1 : PermIn xs ys lo hi) (h2 : PermIn ys zs lo hi) : PermIn xs zs lo hi := ⟨h2.1.trans h1.1, fun k hk => (h2.2 k hk).trans (h1.2 k hk)⟩
theorem PermIn.wide {xs ys : Array Keyed} {lo hi lo' hi' : Nat} (h : PermIn xs ys lo hi) (h1 : lo' ≤ lo) (h2 : hi ≤ hi') : PermIn xs ys lo' hi' := ⟨h.1, fun k hk => h.2 k (by omega)⟩
theorem permIn_mirror {xs : Array Keyed} {i j : Nat} (hj : j ≤ xs.size) : PermIn xs (mirror xs i j ((j - i) / 2)) i j := ⟨mirror_perm _ _ _ _, fun k hk => by rw [getElem?_mirror_all hj, if_neg (by omega)]⟩
theorem permIn_bubble {xs : Array Keyed} {src d : Nat} (hs : src < xs.size) (hd : d ≤ src) : PermIn xs (bubble xs src d) (src - d) (src + 1) := ⟨bubble_perm _ _ _, fun k hk => by rw [getElem?_bubble hs d hd, if_neg (by omega), if_neg (by omega)]⟩
structure SV (knd : SortKind) (D : Keyed → Prop) (n : Nat) (st : SortSt) : Prop where
  kind : kindOf st = knd
  fail : failedOf st = none
  dom : ∀ x ∈ (arrOf st).toList, D x
  size : (arrOf st).size = n
theorem SV.set {knd : SortKind} {D : Keyed → Prop} {n : Nat} {st : SortSt} (v : SV knd D n st) {xs : Array Keyed} (h : xs.Perm (arrOf st)) : SV knd D n (setArr st xs) :=
  ⟨v.kind, v.fail, fun x hx => v.dom x ((Array.perm_iff_toList_perm.mp h).mem_iff.mp hx), h.size_eq.trans v.size⟩
section
variable {M : Model} {Ar : Around} {E : Value → Shared → Prop} {s : Shared} {O : KeyOrd} {key : Keyed → O.α} {knd : SortKind} {D : Keyed → Prop} {n : Nat}
theorem wpS_ltI (hL : LtOk M Ar E s O key knd D) {st : SortSt} {i j : Nat} {Q : Option Bool → SortSt → Prop} (v : SV knd D n st) (hi : i < n) (hj : j < n) (h : Q (some (O.blt (kx key (arrOf st) i) (kx key (arrOf st) j))) st) : wpS M Ar E s (ltAt' i j) Q st := by
  obtain ⟨x, x1, _, x3⟩ := arr_at (a := arrOf st) (i := i) (by rw [v.size]; exact hi)
  obtain ⟨y, y1, _, y3⟩ := arr_at (a := arrOf st) (i := j) (by rw [v.size]; exact hj)
  rw [kx_at x1, kx_at y1] at h
  refine wpS_bind (wpS_get ?_)
  exact wpS_bind (wpS_elemS x1 (wpS_bind (wpS_elemS y1 (hL.lt (v.dom _ x3) (v.dom _ y3) v.kind h))))
theorem wpS_revI {st : SortSt} {i j : Nat} {Q : PUnit → SortSt → Prop} (h : Q ⟨⟩ (setArr st (mirror (arrOf st) i j ((j - i) / 2)))) : wpS M Ar E s (reverseSlice' i j) Q st := by
  rw [reverseSlice'_eq]
  exact wpS_modify h
theorem wpS_ifjp {σ α : Type} {c : Prop} [Decidable c] {m : StateT σ Sem PUnit} {jp : PUnit → StateT σ Sem α} {Q : α → σ → Prop} {st : σ} (P : σ → Prop) (h1 : c → wpS M Ar E s m (fun _ st' => P st') st) (h2 : ¬ c → P st) (h3 : ∀ st', P st' → wpS M Ar E s (jp ⟨⟩) Q st') : wpS M Ar E s (if c then m >>= jp else jp ⟨⟩) Q st := by
  by_cases z : c
  · rw [if_pos z]
    exact wpS_bind (wpS_mono (h1 z) fun _ st' p => h3 st' p)
  · rw [if_neg z]
    exact h3 st (h2 z)
theorem wpS_countI (hL : LtOk M Ar E s O key knd D) {st : SortSt} {lo nrem : Nat} {Q : Option Nat → SortSt → Prop} (v : SV knd D n st) (h1 : 1 ≤ nrem) (hn : lo + nrem ≤ n)
    (h : ∀ m st', SV knd D n st' → pendingOf st' = pendingOf st → PermIn (arrOf st) (arrOf st') lo (lo + nrem) → 1 ≤ m → m ≤ nrem → SrtI O key (arrOf st') lo (lo + m) → Q (some m) st') : wpS M Ar E s (countRun' lo nrem) Q st := by
  have asc : ∀ {xs : Array Keyed} {x : Nat}, 1 ≤ x → SrtI O key xs lo (lo + x) → O.blt (kx key xs (lo + x)) (kx key xs (lo + x - 1)) = false → SrtI O key xs lo (lo + (x + 1)) := fun {xs x} hx hs hb i j h2 h3 h4 => by
    by_cases z : j < lo + x
    · exact hs i j h2 h3 z
    · have hj : j = lo + x := by omega
      subst hj
      by_cases y : i = lo + x
      · subst y; exact KeyOrd.kle_refl _
      · exact KeyOrd.kle_trans (hs i (lo + x - 1) h2 (by omega) (by omega)) hb
  have one : ∀ xs : Array Keyed, SrtI O key xs lo (lo + 1) := fun xs i j h2 h3 h4 => by
    have : i = j := by omega
    subst this; exact KeyOrd.kle_refl _
  refine wpS_bind (wpS_mono (wpS_forRange (I := fun x c st' => st' = st ∧ c = (none, x) ∧ SrtI O key (arrOf st) lo (lo + x))
    (Q := fun c st' => st' = st ∧ ∃ m, c = (none, m) ∧ 1 ≤ m ∧ m ≤ nrem ∧ SrtI O key (arrOf st) lo (lo + m) ∧ (m = nrem ∨ O.blt (kx key (arrOf st) (lo + m)) (kx key (arrOf st) (lo + m - 1)) = true)) ?_ ?_ ⟨rfl, rfl, one _⟩) ?_)
  · rintro x c st' hx hxn ⟨rfl, rfl, hs⟩
    (try dsimp only)
    refine wpS_bind (wpS_ltI hL v (by omega) (by omega) ?_)
    cases w : O.blt (kx key (arrOf st') (lo + x)) (kx key (arrOf st') (lo + x - 1)) with
    | true =>
      (try dsimp only)
      rw [if_pos rfl]
      exact wpS_pure ⟨rfl, x, rfl, hx, by omega, hs, .inr w⟩
    | false =>
      (try dsimp only)
      rw [if_neg Bool.false_ne_true]
      exact wpS_pure ⟨rfl, rfl, asc hx hs w⟩
  · rintro c st' ⟨rfl, rfl, hs⟩
    rw [show max 1 nrem = nrem by omega] at hs ⊢
    exact ⟨rfl, nrem, rfl, h1, Nat.le_refl _, hs, .inl rfl⟩
  rintro c st' ⟨rfl, m, rfl, m1, m2, hs, hor⟩
  (try dsimp only)
  by_cases z : (m == nrem) = true
  · rw [if_pos z]
    exact wpS_pure (h m _ v rfl (PermIn.refl _ _ _) m1 m2 hs)
  rw [if_neg z]
  have z' : m < nrem := by
    have : ¬ m = nrem := by simpa using z
    omega
  have hlt := hor.resolve_left (by omega)
  by_cases y : m > 1
  · rw [if_pos y]
    refine wpS_bind (wpS_ltI hL v (by omega) (by omega) ?_)
    cases w : O.blt (kx key (arrOf st') lo) (kx key (arrOf st') (lo + m - 1)) with
    | true =>
      (try dsimp only)
      rw [if_pos rfl]
      exact wpS_pure (h m _ v rfl (PermIn.refl _ _ _) m1 m2 hs)
    | false =>
      (try dsimp only)
      rw [if_neg Bool.false_ne_true]
      refine wpS_bind (wpS_revI ?_)
      have hsz : lo + m ≤ (arrOf st').size := by rw [v.size]; omega
      have alle : ∀ k, lo ≤ k → k < lo + m → kx key (arrOf st') k = kx key (arrOf st') (lo + m - 1) := fun k k1 k2 => KeyOrd.kle_antisymm (hs k (lo + m - 1) k1 (by omega) (by omega)) (KeyOrd.kle_trans w (hs lo k (Nat.le_refl _) k1 k2))
      have v2 := v.set (mirror_perm (arrOf st') lo (lo + m) ((lo + m - lo) / 2))
      have pd2 : pendingOf (setArr st' (mirror (arrOf st') lo (lo + m) ((lo + m - lo) / 2))) = pendingOf st' := rfl
      have pm2 : PermIn (arrOf st') (arrOf (setArr st' (mirror (arrOf st') lo (lo + m) ((lo + m - lo) / 2)))) lo (lo + nrem) := (permIn_mirror hsz).wide (Nat.le_refl _) (by omega)
      have hd2 : DecI O key (arrOf (setArr st' (mirror (arrOf st') lo (lo + m) ((lo + m - lo) / 2)))) lo (lo + (m + 1)) := by
        intro i j k1 k2 k3
        show O.kle (kx key (mirror (arrOf st') lo (lo + m) ((lo + m - lo) / 2)) j) (kx key (mirror (arrOf st') lo (lo + m) ((lo + m - lo) / 2)) i)
        rw [kx_mirror_eq hsz alle, kx_mirror_eq hsz alle]
        by_cases q : j < lo + m
        · rw [alle i k1 (by omega), alle j (by omega) q]; exact KeyOrd.kle_refl _
        · have hj : j = lo + m := by omega
          subst hj
          by_cases q2 : i = lo + m
          · subst q2; exact KeyOrd.kle_refl _
          · rw [alle i k1 (by omega)]; exact KeyOrd.kle_of_klt hlt
      generalize setArr st' (mirror (arrOf st') lo (lo + m) ((lo + m - lo) / 2)) = st2 at v2 pd2 pm2 hd2
      refine wpS_bind (wpS_lift (wpAny_rule ⟨rfl, ?_⟩))
      refine wpS_bind (wpS_mono (wpS_forRange (I := fun x c st3 => SV knd D n st3 ∧ pendingOf st3 = pendingOf st' ∧ PermIn (arrOf st') (arrOf st3) lo (lo + nrem) ∧ ∃ q, c = (none, x, q) ∧ DecI O key (arrOf st3) lo (lo + x) ∧ q + 1 ≤ x ∧ ∀ i, lo + x - (q + 1) ≤ i → i < lo + x → kx key (arrOf st3) i = kx key (arrOf st3) (lo + x - 1))
        (Q := fun c st3 => SV knd D n st3 ∧ pendingOf st3 = pendingOf st' ∧ PermIn (arrOf st') (arrOf st3) lo (lo + nrem) ∧ ∃ x q, c = (none, x, q) ∧ 1 ≤ x ∧ x ≤ nrem ∧ DecI O key (arrOf st3) lo (lo + x) ∧ q + 1 ≤ x ∧ ∀ i, lo + x - (q + 1) ≤ i → i < lo + x → kx key (arrOf st3) i = kx key (arrOf st3) (lo + x - 1)) ?_ ?_
        ⟨v2, pd2, pm2, 0, rfl, hd2, by omega, fun i i1 i2 => by rw [show i = lo + (m + 1) - 1 by omega]⟩) ?_)
      · rintro x c st3 hx1 hx2 ⟨v3, pd3, pm3, q, rfl, hd3, hq, he⟩
        (try dsimp only)
        have hsz : lo + x ≤ (arrOf st3).size := by rw [v3.size]; omega
        refine wpS_bind (wpS_ltI hL v3 (by omega) (by omega) ?_)
        cases w3 : O.blt (kx key (arrOf st3) (lo + x)) (kx key (arrOf st3) (lo + x - 1)) with
        | true =>
          (try dsimp only)
          rw [if_pos rfl]
          have more : ∀ xs : Array Keyed, (∀ k, kx key xs k = kx key (arrOf st3) k) → DecI O key xs lo (lo + (x + 1)) := fun xs hk i j k1 k2 k3 => by
            rw [hk, hk]
            by_cases u : j < lo + x
            · exact hd3 i j k1 k2 u
            · have hj : j = lo + x := by omega
              subst hj
              by_cases u2 : i = lo + x
              · subst u2; exact KeyOrd.kle_refl _
              · exact KeyOrd.kle_trans (KeyOrd.kle_of_klt w3) (hd3 i (lo + x - 1) k1 (by omega) (by omega))
          by_cases u : q > 0
          · rw [if_pos u]
            refine wpS_bind (wpS_revI (wpS_pure ⟨v3.set (mirror_perm _ _ _ _), pd3, pm3.trans ((permIn_mirror hsz).wide (by omega) (by omega)), 0, rfl, more _ (kx_mirror_eq hsz fun k k1 k2 => he k (by omega) k2), by omega, fun i i1 i2 => by rw [show i = lo + (x + 1) - 1 by omega]⟩))
          · rw [if_neg u]
            exact wpS_pure ⟨v3, pd3, pm3, 0, rfl, more _ (fun _ => rfl), by omega, fun i i1 i2 => by rw [show i = lo + (x + 1) - 1 by omega]⟩
        | false =>
          (try dsimp only)
          rw [if_neg Bool.false_ne_true]
          refine wpS_bind (wpS_ltI hL v3 (by omega) (by omega) ?_)
          cases w4 : O.blt (kx key (arrOf st3) (lo + x - 1)) (kx key (arrOf st3) (lo + x)) with
          | true =>
            (try dsimp only)
            rw [if_pos rfl]
            exact wpS_pure ⟨v3, pd3, pm3, x, q, rfl, by omega, by omega, hd3, hq, he⟩
          | false =>
            (try dsimp only)
            rw [if_neg Bool.false_ne_true]
            have same : kx key (arrOf st3) (lo + x) = kx key (arrOf st3) (lo + x - 1) := KeyOrd.kle_antisymm w4 w3
            refine wpS_pure ⟨v3, pd3, pm3, q + 1, rfl, fun i j k1 k2 k3 => ?_, by omega, fun i i1 i2 => ?_⟩
            · by_cases u : j < lo + x
              · exact hd3 i j k1 k2 u
              · have hj : j = lo + x := by omega
                subst hj
                by_cases u2 : i = lo + x
                · subst u2; exact KeyOrd.kle_refl _
                · rw [same]; exact hd3 i (lo + x - 1) k1 (by omega) (by omega)
            · rw [show lo + (x + 1) - 1 = lo + x by omega]
              by_cases u : i = lo + x
              · rw [u]
              · rw [same]; exact he i (by omega) (by omega)
      · rintro c st3 ⟨v3, pd3, pm3, q, rfl, hd3, hq, he⟩
        rw [show max (m + 1) nrem = nrem by omega] at hd3 hq he ⊢
        exact ⟨v3, pd3, pm3, nrem, q, rfl, h1, Nat.le_refl _, hd3, hq, he⟩
      rintro c st3 ⟨v3, pd3, pm3, x, q, rfl, x1, x2, hd3, hq, he⟩
      (try dsimp only)
      have hsz : lo + x ≤ (arrOf st3).size := by rw [v3.size]; omega
      refine wpS_ifjp (P := fun st4 => SV knd D n st4 ∧ pendingOf st4 = pendingOf st' ∧ PermIn (arrOf st') (arrOf st4) lo (lo + nrem) ∧ DecI O key (arrOf st4) lo (lo + x)) (fun _ => ?_) (fun _ => ⟨v3, pd3, pm3, hd3⟩) ?_
      · refine wpS_revI ⟨v3.set (mirror_perm _ _ _ _), pd3, pm3.trans ((permIn_mirror hsz).wide (by omega) (by omega)), fun i j k1 k2 k3 => ?_⟩
        show O.kle (kx key (mirror (arrOf st3) _ _ _) j) (kx key (mirror (arrOf st3) _ _ _) i)
        rw [kx_mirror_eq hsz fun k k1 k2 => he k (by omega) k2, kx_mirror_eq hsz fun k k1 k2 => he k (by omega) k2]
        exact hd3 i j k1 k2 k3
      rintro st4 ⟨v4, pd4, pm4, hd4⟩
      have hsz4 : lo + x ≤ (arrOf st4).size := by rw [v4.size]; omega
      refine wpS_bind (wpS_revI ?_)
      have v5 := v4.set (mirror_perm (arrOf st4) lo (lo + x) ((lo + x - lo) / 2))
      have pd5 : pendingOf (setArr st4 (mirror (arrOf st4) lo (lo + x) ((lo + x - lo) / 2))) = pendingOf st' := pd4
      have pm5 : PermIn (arrOf st') (arrOf (setArr st4 (mirror (arrOf st4) lo (lo + x) ((lo + x - lo) / 2)))) lo (lo + nrem) := pm4.trans ((permIn_mirror hsz4).wide (Nat.le_refl _) (by omega))
      have hs5 : SrtI O key (arrOf (setArr st4 (mirror (arrOf st4) lo (lo + x) ((lo + x - lo) / 2)))) lo (lo + x) := by
        intro i j k1 k2 k3
        show O.kle (kx key (mirror (arrOf st4) lo (lo + x) ((lo + x - lo) / 2)) i) (kx key (mirror (arrOf st4) lo (lo + x) ((lo + x - lo) / 2)) j)
        rw [kx_mirror hsz4, kx_mirror hsz4, if_pos (by omega), if_pos (by omega)]
        exact hd4 _ _ (by omega) (by omega) (by omega)
      generalize setArr st4 (mirror (arrOf st4) lo (lo + x) ((lo + x - lo) / 2)) = st5 at v5 pd5 pm5 hs5
      refine wpS_bind (wpS_mono (wpS_forRange (I := fun y c st6 => st6 = st5 ∧ c = (none, y) ∧ SrtI O key (arrOf st5) lo (lo + y)) (Q := fun c st6 => st6 = st5 ∧ ∃ y, c = (none, y) ∧ 1 ≤ y ∧ y ≤ nrem ∧ SrtI O key (arrOf st5) lo (lo + y)) ?_ ?_ ⟨rfl, rfl, hs5⟩) ?_)
      · rintro y c st6 hy1 hy2 ⟨rfl, rfl, hs6⟩
        (try dsimp only)
        refine wpS_bind (wpS_ltI hL v5 (by omega) (by omega) ?_)
        cases w5 : O.blt (kx key (arrOf st6) (lo + y)) (kx key (arrOf st6) (lo + y - 1)) with
        | true =>
          (try dsimp only)
          rw [if_pos rfl]
          exact wpS_pure ⟨rfl, y, rfl, by omega, by omega, hs6⟩
        | false =>
          (try dsimp only)
          rw [if_neg Bool.false_ne_true]
          exact wpS_pure ⟨rfl, rfl, asc (by omega) hs6 w5⟩
      · rintro c st6 ⟨rfl, rfl, hs6⟩
        rw [show max x nrem = nrem by omega] at hs6 ⊢
        exact ⟨rfl, nrem, rfl, h1, Nat.le_refl _, hs6⟩
      rintro c st6 ⟨rfl, y, rfl, y1, y2, hs6⟩
      exact wpS_pure (h y _ v5 pd5 pm5 y1 y2 hs6)
  · rw [if_neg y]
    have v2 := v
    have pd2 : pendingOf st' = pendingOf st' := rfl
    have pm2 : PermIn (arrOf st') (arrOf st') lo (lo + nrem) := PermIn.refl _ _ _
    have hd2 : DecI O key (arrOf st') lo (lo + (m + 1)) := by
      intro i j k1 k2 k3
      by_cases q : i = j
      · subst q; exact KeyOrd.kle_refl _
      · have hi : i = lo := by omega
        have hj : j = lo + m := by omega
        subst hi hj
        have := hlt
        rw [show i + m - 1 = i by omega] at this
        exact KeyOrd.kle_of_klt this
    have key2 : ∀ st2, st2 = st' → SV knd D n st2 ∧ pendingOf st2 = pendingOf st' ∧ PermIn (arrOf st') (arrOf st2) lo (lo + nrem) ∧ DecI O key (arrOf st2) lo (lo + (m + 1)) := fun st2 e => by subst e; exact ⟨v2, pd2, pm2, hd2⟩
    clear v2 pd2 pm2 hd2
    refine (fun (G : ∀ st2, st2 = st' → wpS M Ar E s _ Q st2) => G st' rfl) fun st2 e2 => ?_
    obtain ⟨v2, pd2, pm2, hd2⟩ := key2 st2 e2
    clear key2 e2
    refine wpS_bind (wpS_lift (wpAny_rule ⟨rfl, ?_⟩))
    refine wpS_bind (wpS_mono (wpS_forRange (I := fun x c st3 => SV knd D n st3 ∧ pendingOf st3 = pendingOf st' ∧ PermIn (arrOf st') (arrOf st3) lo (lo + nrem) ∧ ∃ q, c = (none, x, q) ∧ DecI O key (arrOf st3) lo (lo + x) ∧ q + 1 ≤ x ∧ ∀ i, lo + x - (q + 1) ≤ i → i < lo + x → kx key (arrOf st3) i = kx key (arrOf st3) (lo + x - 1))
      (Q := fun c st3 => SV knd D n st3 ∧ pendingOf st3 = pendingOf st' ∧ PermIn (arrOf st') (arrOf st3) lo (lo + nrem) ∧ ∃ x q, c = (none, x, q) ∧ 1 ≤ x ∧ x ≤ nrem ∧ DecI O key (arrOf st3) lo (lo + x) ∧ q + 1 ≤ x ∧ ∀ i, lo + x - (q + 1) ≤ i → i < lo + x → kx key (arrOf st3) i = kx key (arrOf st3) (lo + x - 1)) ?_ ?_
      ⟨v2, pd2, pm2, 0, rfl, hd2, by omega, fun i i1 i2 => by rw [show i = lo + (m + 1) - 1 by omega]⟩) ?_)
    · rintro x c st3 hx1 hx2 ⟨v3, pd3, pm3, q, rfl, hd3, hq, he⟩
      (try dsimp only)
      have hsz : lo + x ≤ (arrOf st3).size := by rw [v3.size]; omega
      refine wpS_bind (wpS_ltI hL v3 (by omega) (by omega) ?_)
      cases w3 : O.blt (kx key (arrOf st3) (lo + x)) (kx key (arrOf st3) (lo + x - 1)) with
      | true =>
        (try dsimp only)
        rw [if_pos rfl]
        have more : ∀ xs : Array Keyed, (∀ k, kx key xs k = kx key (arrOf st3) k) → DecI O key xs lo (lo + (x + 1)) := fun xs hk i j k1 k2 k3 => by
          rw [hk, hk]
          by_cases u : j < lo + x
          · exact hd3 i j k1 k2 u
          · have hj : j = lo + x := by omega
            subst hj
            by_cases u2 : i = lo + x
            · subst u2; exact KeyOrd.kle_refl _
            · exact KeyOrd.kle_trans (KeyOrd.kle_of_klt w3) (hd3 i (lo + x - 1) k1 (by omega) (by omega))
        by_cases u : q > 0
        · rw [if_pos u]
          refine wpS_bind (wpS_revI (wpS_pure ⟨v3.set (mirror_perm _ _ _ _), pd3, pm3.trans ((permIn_mirror hsz).wide (by omega) (by omega)), 0, rfl, more _ (kx_mirror_eq hsz fun k k1 k2 => he k (by omega) k2), by omega, fun i i1 i2 => by rw [show i = lo + (x + 1) - 1 by omega]⟩))
        · rw [if_neg u]
          exact wpS_pure ⟨v3, pd3, pm3, 0, rfl, more _ (fun _ => rfl), by omega, fun i i1 i2 => by rw [show i = lo + (x + 1) - 1 by omega]⟩
      | false =>
        (try dsimp only)
        rw [if_neg Bool.false_ne_true]
        refine wpS_bind (wpS_ltI hL v3 (by omega) (by omega) ?_)
        cases w4 : O.blt (kx key (arrOf st3) (lo + x - 1)) (kx key (arrOf st3) (lo + x)) with
        | true =>
          (try dsimp only)
          rw [if_pos rfl]
          exact wpS_pure ⟨v3, pd3, pm3, x, q, rfl, by omega, by omega, hd3, hq, he⟩
        | false =>
          (try dsimp only)
          rw [if_neg Bool.false_ne_true]
          have same : kx key (arrOf st3) (lo + x) = kx key (arrOf st3) (lo + x - 1) := KeyOrd.kle_antisymm w4 w3
          refine wpS_pure ⟨v3, pd3, pm3, q + 1, rfl, fun i j k1 k2 k3 => ?_, by omega, fun i i1 i2 => ?_⟩
          · by_cases u : j < lo + x
            · exact hd3 i j k1 k2 u
            · have hj : j = lo + x := by omega
              subst hj
              by_cases u2 : i = lo + x
              · subst u2; exact KeyOrd.kle_refl _
              · rw [same]; exact hd3 i (lo + x - 1) k1 (by omega) (by omega)
          · rw [show lo + (x + 1) - 1 = lo + x by omega]
            by_cases u : i = lo + x
            · rw [u]
            · rw [same]; exact he i (by omega) (by omega)
    · rintro c st3 ⟨v3, pd3, pm3, q, rfl, hd3, hq, he⟩
      rw [show max (m + 1) nrem = nrem by omega] at hd3 hq he ⊢
      exact ⟨v3, pd3, pm3, nrem, q, rfl, h1, Nat.le_refl _, hd3, hq, he⟩
    rintro c st3 ⟨v3, pd3, pm3, x, q, rfl, x1, x2, hd3, hq, he⟩
    (try dsimp only)
    have hsz : lo + x ≤ (arrOf st3).size := by rw [v3.size]; omega
    refine wpS_ifjp (P := fun st4 => SV knd D n st4 ∧ pendingOf st4 = pendingOf st' ∧ PermIn (arrOf st') (arrOf st4) lo (lo + nrem) ∧ DecI O key (arrOf st4) lo (lo + x)) (fun _ => ?_) (fun _ => ⟨v3, pd3, pm3, hd3⟩) ?_
    · refine wpS_revI ⟨v3.set (mirror_perm _ _ _ _), pd3, pm3.trans ((permIn_mirror hsz).wide (by omega) (by omega)), fun i j k1 k2 k3 => ?_⟩
      show O.kle (kx key (mirror (arrOf st3) _ _ _) j) (kx key (mirror (arrOf st3) _ _ _) i)
      rw [kx_mirror_eq hsz fun k k1 k2 => he k (by omega) k2, kx_mirror_eq hsz fun k k1 k2 => he k (by omega) k2]
      exact hd3 i j k1 k2 k3
    rintro st4 ⟨v4, pd4, pm4, hd4⟩
    have hsz4 : lo + x ≤ (arrOf st4).size := by rw [v4.size]; omega
    refine wpS_bind (wpS_revI ?_)
    have v5 := v4.set (mirror_perm (arrOf st4) lo (lo + x) ((lo + x - lo) / 2))
    have pd5 : pendingOf (setArr st4 (mirror (arrOf st4) lo (lo + x) ((lo + x - lo) / 2))) = pendingOf st' := pd4
    have pm5 : PermIn (arrOf st') (arrOf (setArr st4 (mirror (arrOf st4) lo (lo + x) ((lo + x - lo) / 2)))) lo (lo + nrem) := pm4.trans ((permIn_mirror hsz4).wide (Nat.le_refl _) (by omega))
    have hs5 : SrtI O key (arrOf (setArr st4 (mirror (arrOf st4) lo (lo + x) ((lo + x - lo) / 2)))) lo (lo + x) := by
      intro i j k1 k2 k3
      show O.kle (kx key (mirror (arrOf st4) lo (lo + x) ((lo + x - lo) / 2)) i) (kx key (mirror (arrOf st4) lo (lo + x) ((lo + x - lo) / 2)) j)
      rw [kx_mirror hsz4, kx_mirror hsz4, if_pos (by omega), if_pos (by omega)]
      exact hd4 _ _ (by omega) (by omega) (by omega)
    generalize setArr st4 (mirror (arrOf st4) lo (lo + x) ((lo + x - lo) / 2)) = st5 at v5 pd5 pm5 hs5
    refine wpS_bind (wpS_mono (wpS_forRange (I := fun y c st6 => st6 = st5 ∧ c = (none, y) ∧ SrtI O key (arrOf st5) lo (lo + y)) (Q := fun c st6 => st6 = st5 ∧ ∃ y, c = (none, y) ∧ 1 ≤ y ∧ y ≤ nrem ∧ SrtI O key (arrOf st5) lo (lo + y)) ?_ ?_ ⟨rfl, rfl, hs5⟩) ?_)
    · rintro y c st6 hy1 hy2 ⟨rfl, rfl, hs6⟩
      (try dsimp only)
      refine wpS_bind (wpS_ltI hL v5 (by omega) (by omega) ?_)
      cases w5 : O.blt (kx key (arrOf st6) (lo + y)) (kx key (arrOf st6) (lo + y - 1)) with
      | true =>
        (try dsimp only)
        rw [if_pos rfl]
        exact wpS_pure ⟨rfl, y, rfl, by omega, by omega, hs6⟩
      | false =>
        (try dsimp only)
        rw [if_neg Bool.false_ne_true]
        exact wpS_pure ⟨rfl, rfl, asc (by omega) hs6 w5⟩
    · rintro c st6 ⟨rfl, rfl, hs6⟩
      rw [show max x nrem = nrem by omega] at hs6 ⊢
      exact ⟨rfl, nrem, rfl, h1, Nat.le_refl _, hs6⟩
    rintro c st6 ⟨rfl, y, rfl, y1, y2, hs6⟩
    exact wpS_pure (h y _ v5 pd5 pm5 y1 y2 hs6)
theorem wpS_binI (hL : LtOk M Ar E s O key knd D) {st : SortSt} {lo m ok : Nat} {Q : Bool → SortSt → Prop} (v : SV knd D n st) (hm : lo + m ≤ n) (hok : ok ≤ m) (hs : SrtI O key (arrOf st) lo (lo + ok))
    (h : ∀ st', SV knd D n st' → pendingOf st' = pendingOf st → PermIn (arrOf st) (arrOf st') lo (lo + m) → SrtI O key (arrOf st') lo (lo + m) → Q true st') : wpS M Ar E s (binarySort' lo m ok) Q st := by
  refine wpS_bind (wpS_mono (wpS_forRange (I := fun k c st' => c = (none, ()) ∧ SV knd D n st' ∧ pendingOf st' = pendingOf st ∧ PermIn (arrOf st) (arrOf st') lo (lo + m) ∧ SrtI O key (arrOf st') lo (lo + min k m))
    (Q := fun c st' => c = (none, ()) ∧ SV knd D n st' ∧ pendingOf st' = pendingOf st ∧ PermIn (arrOf st) (arrOf st') lo (lo + m) ∧ SrtI O key (arrOf st') lo (lo + m)) ?_ ?_ ⟨rfl, v, rfl, PermIn.refl _ _ _, ?_⟩) ?_)
  · rintro k c st' hk1 hk2 ⟨rfl, v', pd, pm, hs'⟩
    rw [show min k m = k by omega] at hs'
    (try dsimp only)
    refine wpS_bind (wpS_mono (wpS_forRange (I := fun x c st2 => st2 = st' ∧ ∃ l r, c = (none, l, r) ∧ l ≤ r ∧ r ≤ k ∧ r - l ≤ k - x ∧ (∀ i, i < l → O.kle (kx key (arrOf st') (lo + i)) (kx key (arrOf st') (lo + k))) ∧ (∀ i, r ≤ i → i < k → O.klt (kx key (arrOf st') (lo + k)) (kx key (arrOf st') (lo + i))))
      (Q := fun c st2 => st2 = st' ∧ ∃ l, c = (none, l, l) ∧ l ≤ k ∧ (∀ i, i < l → O.kle (kx key (arrOf st') (lo + i)) (kx key (arrOf st') (lo + k))) ∧ (∀ i, l ≤ i → i < k → O.klt (kx key (arrOf st') (lo + k)) (kx key (arrOf st') (lo + i)))) ?_ ?_ ⟨rfl, 0, k, rfl, by omega, by omega, by omega, fun i hi => by omega, fun i _ _ => by omega⟩) ?_)
    · rintro x c st2 _ hx ⟨rfl, l, r, rfl, g1, g2, g3, g4, g5⟩
      (try dsimp only)
      by_cases z : l ≥ r
      · rw [if_pos z]
        have : r = l := by omega
        subst this
        exact wpS_pure ⟨rfl, r, rfl, g2, g4, g5⟩
      · rw [if_neg z]
        refine wpS_bind (wpS_ltI hL v' (by omega) (by omega) ?_)
        cases w : O.blt (kx key (arrOf st2) (lo + k)) (kx key (arrOf st2) (lo + (l + r) / 2)) with
        | true =>
          (try dsimp only)
          rw [if_pos rfl]
          exact wpS_pure ⟨rfl, l, (l + r) / 2, rfl, by omega, by omega, by omega, g4, fun i q1 q2 => KeyOrd.klt_of_klt_of_kle w (hs' _ _ (by omega) (by omega) (by omega))⟩
        | false =>
          (try dsimp only)
          rw [if_neg Bool.false_ne_true]
          exact wpS_pure ⟨rfl, (l + r) / 2 + 1, r, rfl, by omega, by omega, by omega, fun i q1 => KeyOrd.kle_trans (hs' (lo + i) (lo + (l + r) / 2) (by omega) (by omega) (by omega)) w, g5⟩
    · rintro c st2 ⟨rfl, l, r, rfl, g1, g2, g3, g4, g5⟩
      have : r = l := by omega
      subst this
      exact ⟨rfl, r, rfl, g2, g4, g5⟩
    · rintro c st2 ⟨rfl, l, rfl, g1, g4, g5⟩
      (try dsimp only)
      have hks : lo + k < (arrOf st2).size := by rw [v'.size]; omega
      have mv : wpS M Ar E s (moveDown' (lo + k) (lo + l)) (fun _ st3 => st3 = setArr st2 (bubble (arrOf st2) (lo + k) (lo + k - (lo + l)))) st2 := by
        rw [moveDown'_eq]
        exact wpS_modify rfl
      refine wpS_bind (wpS_mono mv fun _ st3 e3 => ?_)
      subst e3
      refine wpS_pure ⟨rfl, v'.set (bubble_perm _ _ _), pd, pm.trans ((permIn_bubble hks (by omega)).wide (by omega) (by omega)), ?_⟩
      rw [show min (k + 1) m = k + 1 by omega]
      intro i j q1 q2 q3
      show O.kle (kx key (bubble (arrOf st2) (lo + k) (lo + k - (lo + l))) i) (kx key (bubble (arrOf st2) (lo + k) (lo + k - (lo + l))) j)
      rw [kx_bubble hks (by omega), kx_bubble hks (by omega), show lo + k - (lo + k - (lo + l)) = lo + l by omega]
      have f4 : ∀ i, lo ≤ i → i < lo + l → O.kle (kx key (arrOf st2) i) (kx key (arrOf st2) (lo + k)) := fun i a1 a2 => by
        have := g4 (i - lo) (by omega)
        rw [show lo + (i - lo) = i by omega] at this
        exact this
      have f5 : ∀ i, lo + l ≤ i → i < lo + k → O.kle (kx key (arrOf st2) (lo + k)) (kx key (arrOf st2) i) := fun i a1 a2 => by
        have := g5 (i - lo) (by omega) (by omega)
        rw [show lo + (i - lo) = i by omega] at this
        exact KeyOrd.kle_of_klt this
      by_cases c1 : i = lo + l
      · rw [if_pos c1]
        by_cases c2 : j = lo + l
        · rw [if_pos c2]; exact KeyOrd.kle_refl _
        · rw [if_neg c2, if_pos (by omega)]; exact f5 (j - 1) (by omega) (by omega)
      · rw [if_neg c1]
        by_cases c2 : j = lo + l
        · rw [if_pos c2, if_neg (by omega)]; exact f4 i q1 (by omega)
        · rw [if_neg c2]
          by_cases c3 : lo + l < i ∧ i ≤ lo + k
          · rw [if_pos c3, if_pos (by omega)]; exact hs' _ _ (by omega) (by omega) (by omega)
          · rw [if_neg c3]
            by_cases c4 : lo + l < j ∧ j ≤ lo + k
            · rw [if_pos c4]; exact hs' _ _ (by omega) (by omega) (by omega)
            · rw [if_neg c4]; exact hs' _ _ (by omega) (by omega) (by omega)
  · rintro c st' ⟨hc, v', pd, pm, hs'⟩
    rw [show min (max (max ok 1) m) m = m by omega] at hs'
    exact ⟨hc, v', pd, pm, hs'⟩
  · intro i j q1 q2 q3
    by_cases z : ok = 0
    · have : i = j := by omega
      subst this; exact KeyOrd.kle_refl _
    · exact hs i j q1 q2 (by omega)
  · rintro c st' ⟨rfl, v', pd, pm, hs'⟩
    exact wpS_pure (h _ v' pd pm hs')
end
end L2

namespace L2
open PySem PyProof.Rows
/-! ### two runs beside each other become one -/
theorem wpS_setS {M : Model} {Ar : Around} {E : Value → Shared → Prop} {s : Shared} {σ : Type} {st st' : σ} {Q : PUnit → σ → Prop} (h : Q ⟨⟩ st') : wpS M Ar E s (set st' : StateT σ Sem PUnit) Q st := by
  unfold wpS
  rw [StateT.run_set]
  exact wpAny_pure ⟨rfl, h⟩
theorem wb_size {f : Array Keyed → Keyed × Nat → Array Keyed} {base : Nat} (hf : ∀ a p j, f a (p, j) = a.setIfInBounds (base + j) p) : ∀ (l : List Keyed) (i0 : Nat) (xs : Array Keyed), (List.foldl f xs (l.zipIdx i0)).size = xs.size
  | [], _, _ => rfl
  | p :: l, i0, xs => by
    rw [List.zipIdx_cons, List.foldl_cons, wb_size hf l (i0 + 1), hf, Array.size_setIfInBounds]
theorem wb_get {f : Array Keyed → Keyed × Nat → Array Keyed} {base : Nat} (hf : ∀ a p j, f a (p, j) = a.setIfInBounds (base + j) p) : ∀ (l : List Keyed) (i0 : Nat) (xs : Array Keyed) (q : Nat), base + i0 + l.length ≤ xs.size → (List.foldl f xs (l.zipIdx i0))[q]? = if base + i0 ≤ q ∧ q < base + i0 + l.length then l[q - (base + i0)]? else xs[q]?
  | [], i0, xs, q, _ => by
    rw [if_neg (by simp)]; rfl
  | p :: l, i0, xs, q, h => by
    rw [List.length_cons] at h ⊢
    rw [List.zipIdx_cons, List.foldl_cons, wb_get hf l (i0 + 1) _ q (by rw [hf, Array.size_setIfInBounds]; omega), hf, Array.getElem?_setIfInBounds]
    by_cases z : q = base + i0
    · subst z
      rw [if_neg (by omega), if_pos (by omega), Nat.sub_self]
      simp; omega
    · by_cases y : base + (i0 + 1) ≤ q ∧ q < base + (i0 + 1) + l.length
      · rw [if_pos y, if_pos (by omega), show q - (base + i0) = q - (base + (i0 + 1)) + 1 by omega, List.getElem?_cons_succ]
      · rw [if_neg y, if_neg (by omega), if_neg (by omega)]
theorem wb_list {f : Array Keyed → Keyed × Nat → Array Keyed} {base : Nat} (hf : ∀ a p j, f a (p, j) = a.setIfInBounds (base + j) p) (l : List Keyed) (xs : Array Keyed) (h : base + l.length ≤ xs.size) : (List.foldl f xs l.zipIdx).toList = xs.toList.take base ++ l ++ xs.toList.drop (base + l.length) := by
  apply List.ext_getElem?
  intro q
  rw [Array.getElem?_toList, wb_get hf l 0 xs q (by omega), Nat.add_zero]
  have lx : xs.toList.length = xs.size := Array.length_toList
  by_cases z : q < base
  · rw [if_neg (by omega), List.getElem?_append_left (by rw [List.length_append, List.length_take]; omega), List.getElem?_append_left (by rw [List.length_take]; omega), List.getElem?_take_of_lt z, Array.getElem?_toList]
  · by_cases y : q < base + l.length
    · rw [if_pos ⟨by omega, y⟩, List.getElem?_append_left (by rw [List.length_append, List.length_take]; omega), List.getElem?_append_right (by rw [List.length_take]; omega), List.length_take, Nat.min_eq_left (by omega)]
    · rw [if_neg (by omega), List.getElem?_append_right (by rw [List.length_append, List.length_take]; omega), List.getElem?_drop, List.length_append, List.length_take, Nat.min_eq_left (by omega), show base + l.length + (q - (base + l.length)) = q by omega, Array.getElem?_toList]
section
variable {M : Model} {Ar : Around} {E : Value → Shared → Prop} {s : Shared} {O : KeyOrd} {key : Keyed → O.α} {knd : SortKind} {D : Keyed → Prop} {n : Nat}
theorem wpS_gRs (hL : LtOk M Ar E s O key knd D) {kk : Keyed} {arr : Array Keyed} {base m hint : Nat} {st : SortSt} {Q : Option Nat → SortSt → Prop} (hk : kindOf st = knd) (srt : SrtI O key arr base (base + m)) (dA : ∀ x ∈ arr.toList, D x) (dk : D kk) (hn : base + m ≤ arr.size) (hh : hint < m)
    (h : ∀ k, k ≤ m → (∀ j, j < k → O.kle (kx key arr (base + j)) (key kk)) → (∀ j, k ≤ j → j < m → O.klt (key kk) (kx key arr (base + j))) → Q (some k) st) : wpS M Ar E s (gallopS false kk arr base m hint) Q st := by
  refine wpS_gallopS hL hk (fun i hi => ?_) dk hh (fun i => !O.blt (key kk) (kx key arr (base + i))) (fun i x hi hx => by rw [kx_at hx]; rfl) (fun i j hij hj hB => ?_) fun k k1 k2 k3 => ?_
  · obtain ⟨x, p1, _, p3⟩ := arr_at (a := arr) (i := base + i) (by omega)
    exact ⟨x, p1, dA _ p3⟩
  · have t1 := srt (base + i) (base + j) (by omega) (by omega) (by omega)
    have t2 : O.kle (kx key arr (base + j)) (key kk) := by
      show O.blt _ _ = false
      simpa using hB
    have t3 := KeyOrd.kle_trans t1 t2
    show (!O.blt (key kk) (kx key arr (base + i))) = true
    rw [t3]; rfl
  · refine h k k1 (fun j hj => ?_) fun j hj hj2 => ?_
    · have := k2 j hj
      show O.blt _ _ = false
      simpa using this
    · have := k3 j hj hj2
      show O.blt _ _ = true
      simpa using this
theorem wpS_gLs (hL : LtOk M Ar E s O key knd D) {kk : Keyed} {arr : Array Keyed} {base m hint : Nat} {st : SortSt} {Q : Option Nat → SortSt → Prop} (hk : kindOf st = knd) (srt : SrtI O key arr base (base + m)) (dA : ∀ x ∈ arr.toList, D x) (dk : D kk) (hn : base + m ≤ arr.size) (hh : hint < m)
    (h : ∀ k, k ≤ m → (∀ j, j < k → O.klt (kx key arr (base + j)) (key kk)) → (∀ j, k ≤ j → j < m → O.kle (key kk) (kx key arr (base + j))) → Q (some k) st) : wpS M Ar E s (gallopS true kk arr base m hint) Q st := by
  refine wpS_gallopS hL hk (fun i hi => ?_) dk hh (fun i => O.blt (kx key arr (base + i)) (key kk)) (fun i x hi hx => by rw [kx_at hx]; rfl) (fun i j hij hj hB => ?_) fun k k1 k2 k3 => ?_
  · obtain ⟨x, p1, _, p3⟩ := arr_at (a := arr) (i := base + i) (by omega)
    exact ⟨x, p1, dA _ p3⟩
  · exact KeyOrd.klt_of_kle_of_klt (srt (base + i) (base + j) (by omega) (by omega) (by omega)) hB
  · exact h k k1 k2 k3
/-- a stretch of the array, as a list -/
theorem seg_at {xs : Array Keyed} {lo m j : Nat} {x : Keyed} (h : ((xs.toList.drop lo).take m)[j]? = some x) : j < m ∧ xs[lo + j]? = some x := by
  have hl := (List.getElem?_eq_some_iff.mp h).1
  rw [List.length_take] at hl
  rw [List.getElem?_take_of_lt (by omega), List.getElem?_drop, Array.getElem?_toList] at h
  exact ⟨by omega, h⟩
theorem seg_srt {xs : Array Keyed} {lo m : Nat} (h : SrtI O key xs lo (lo + m)) : ((xs.toList.drop lo).take m).Pairwise (leK O key) := by
  refine List.pairwise_iff_getElem.mpr fun i j hi hj hij => ?_
  obtain ⟨i1, i2⟩ := seg_at (List.getElem?_eq_getElem hi)
  obtain ⟨j1, j2⟩ := seg_at (List.getElem?_eq_getElem hj)
  have := h (lo + i) (lo + j) (by omega) (by omega) (by omega)
  rw [kx_at i2, kx_at j2] at this
  exact this
theorem ext_list {xs : Array Keyed} {lo hi : Nat} : (xs.extract lo hi).toList = (xs.toList.drop lo).take (hi - lo) := by
  rw [Array.toList_extract, List.extract_eq_take_drop]
theorem wpS_mergeAtI (hL : LtOk M Ar E s O key knd D) {st : SortSt} {i sa na w sb nb w' : Nat} {Q : Bool → SortSt → Prop} (v : SV knd D n st) (h1 : (pendingOf st)[i]? = some (sa, na, w)) (h2 : (pendingOf st)[i + 1]? = some (sb, nb, w')) (hc : sb = sa + na) (a1 : 1 ≤ na) (b1 : 1 ≤ nb) (hn : sb + nb ≤ n)
    (sA : SrtI O key (arrOf st) sa (sa + na)) (sB : SrtI O key (arrOf st) sb (sb + nb))
    (h : ∀ st', SV knd D n st' → pendingOf st' = ((pendingOf st).setIfInBounds i (sa, na + nb, w)).eraseIdxIfInBounds (i + 1) → PermIn (arrOf st) (arrOf st') sa (sb + nb) → SrtI O key (arrOf st') sa (sb + nb) → Q true st') : wpS M Ar E s (mergeAt' i) Q st := by
  refine wpS_bind (wpS_get ?_)
  have e1 : (((pendingOf st)[i]?, (pendingOf st)[i + 1]?) : Option (Nat × Nat × Nat) × Option (Nat × Nat × Nat)) = (some (sa, na, w), some (sb, nb, w')) := by rw [h1, h2]
  rw [e1]
  (try dsimp only)
  refine wpS_bind (wpS_setS ?_)
  have v1 : SV knd D n (setPending st (((pendingOf st).setIfInBounds i (sa, na + nb, w)).eraseIdxIfInBounds (i + 1))) := ⟨v.kind, v.fail, v.dom, v.size⟩
  have pd1 : pendingOf (setPending st (((pendingOf st).setIfInBounds i (sa, na + nb, w)).eraseIdxIfInBounds (i + 1))) = ((pendingOf st).setIfInBounds i (sa, na + nb, w)).eraseIdxIfInBounds (i + 1) := rfl
  have ar1 : arrOf (setPending st (((pendingOf st).setIfInBounds i (sa, na + nb, w)).eraseIdxIfInBounds (i + 1))) = arrOf st := rfl
  show wpS M Ar E s _ Q (setPending st (((pendingOf st).setIfInBounds i (sa, na + nb, w)).eraseIdxIfInBounds (i + 1)))
  generalize setPending st (((pendingOf st).setIfInBounds i (sa, na + nb, w)).eraseIdxIfInBounds (i + 1)) = st1 at v1 pd1 ar1
  have hsz : (arrOf st).size = n := v.size
  obtain ⟨b0, q1, q2, q3⟩ := arr_at (a := arrOf st) (i := sb) (by omega)
  refine wpS_bind (wpS_elemS q1 (wpS_bind (wpS_gRs hL v1.kind sA v.dom (v.dom _ q3) (by show sa + na ≤ (arrOf st).size; omega) (by omega) fun k k1 k2 k3 => ?_)))
  (try dsimp only)
  by_cases z : (na - k == 0) = true
  · rw [if_pos z]
    have z' : k = na := by
      have : na - k = 0 := by simpa using z
      omega
    subst z'
    refine wpS_pure (h _ v1 pd1 (by rw [ar1]; exact PermIn.refl _ _ _) ?_)
    rw [ar1]
    intro p r p1 p2 p3
    by_cases c1 : r < sb
    · exact sA p r p1 p2 (by omega)
    · by_cases c2 : p < sb
      · have := k2 (p - sa) (by omega)
        rw [show sa + (p - sa) = p by omega, ← kx_at (key := key) q1] at this
        exact KeyOrd.kle_trans this (sB sb r (by omega) (by omega) p3)
      · exact sB p r (by omega) p2 p3
  rw [if_neg z]
  have z' : k < na := by
    have : ¬ na - k = 0 := by simpa using z
    omega
  obtain ⟨al, r1, r2, r3⟩ := arr_at (a := arrOf st) (i := sa + k + (na - k) - 1) (by omega)
  have el : sa + k + (na - k) - 1 = sb - 1 := by omega
  refine wpS_bind (wpS_elemS r1 (wpS_bind (wpS_gLs hL v1.kind sB v.dom (v.dom _ r3) (by show sb + nb ≤ (arrOf st).size; omega) (by omega) fun m m1 m2 m3 => ?_)))
  rw [el] at r1 r2
  (try dsimp only)
  by_cases y : (m == 0) = true
  · rw [if_pos y]
    have y' : m = 0 := by simpa using y
    subst y'
    refine wpS_pure (h _ v1 pd1 (by rw [ar1]; exact PermIn.refl _ _ _) ?_)
    rw [ar1]
    intro p r p1 p2 p3
    by_cases c1 : r < sb
    · exact sA p r p1 p2 (by omega)
    · by_cases c2 : p < sb
      · have := m3 (r - sb) (by omega) (by omega)
        rw [show sb + (r - sb) = r by omega, ← kx_at (key := key) r1] at this
        exact KeyOrd.kle_trans (sA p (sb - 1) p1 (by omega) (by omega)) this
      · exact sB p r (by omega) p2 p3
  rw [if_neg y]
  have y' : 1 ≤ m := by
    have : ¬ m = 0 := by simpa using y
    omega
  have lx : ((arrOf st).extract (sa + k) sb).toList = ((arrOf st).toList.drop (sa + k)).take (na - k) := by rw [ext_list, show sb - (sa + k) = na - k by omega]
  have ly : ((arrOf st).extract sb (sb + m)).toList = ((arrOf st).toList.drop sb).take m := by rw [ext_list, show sb + m - sb = m by omega]
  have szx : ((arrOf st).extract (sa + k) sb).size = na - k := by rw [Array.size_extract]; omega
  have szy : ((arrOf st).extract sb (sb + m)).size = m := by rw [Array.size_extract]; omega
  have dX : ∀ x ∈ ((arrOf st).extract (sa + k) sb).toList, D x := fun x hx => by
    rw [lx] at hx; exact v.dom x (List.mem_of_mem_drop (List.mem_of_mem_take hx))
  have dY : ∀ x ∈ ((arrOf st).extract sb (sb + m)).toList, D x := fun x hx => by
    rw [ly] at hx; exact v.dom x (List.mem_of_mem_drop (List.mem_of_mem_take hx))
  have sX : ((arrOf st).extract (sa + k) sb).toList.Pairwise (leK O key) := by
    rw [lx]; exact seg_srt fun p r p1 p2 p3 => sA p r (by omega) p2 (by omega)
  have sY : ((arrOf st).extract sb (sb + m)).toList.Pairwise (leK O key) := by
    rw [ly]; exact seg_srt fun p r p1 p2 p3 => sB p r p1 p2 (by omega)
  have hb : ∀ t, ((arrOf st).extract sb (sb + m)).toList[0]? = some t → ∀ x ∈ ((arrOf st).extract (sa + k) sb).toList, leK O key t x := fun t ht x hx => by
    rw [ly] at ht
    rw [lx] at hx
    obtain ⟨_, t2⟩ := seg_at ht
    obtain ⟨j, hj⟩ := List.getElem?_of_mem hx
    obtain ⟨j1, j2⟩ := seg_at hj
    rw [Nat.add_zero, q1] at t2
    cases t2
    have := k3 (k + j) (by omega) (by omega)
    rw [← Nat.add_assoc, kx_at j2] at this
    exact leK_of this
  have ha : ∀ t, ((arrOf st).extract (sa + k) sb).toList[((arrOf st).extract (sa + k) sb).size - 1]? = some t → ∀ x ∈ ((arrOf st).extract sb (sb + m)).toList, leK O key x t := fun t ht x hx => by
    rw [lx, szx] at ht
    rw [ly] at hx
    obtain ⟨_, t2⟩ := seg_at ht
    obtain ⟨j, hj⟩ := List.getElem?_of_mem hx
    obtain ⟨j1, j2⟩ := seg_at hj
    rw [show sa + k + (na - k - 1) = sb - 1 by omega, r1] at t2
    cases t2
    have := m2 j j1
    rw [kx_at j2] at this
    exact leK_of this
  -- what is written back
  have fin : ∀ (r : Array Keyed) (st2 : SortSt), SameG st1 st2 → Res O key ((arrOf st).extract (sa + k) sb).toList ((arrOf st).extract sb (sb + m)).toList r.toList → ∀ (f : Array Keyed → Keyed × Nat → Array Keyed), (∀ a p j, f a (p, j) = a.setIfInBounds (sa + k + j) p) →
      SV knd D n (setArr st2 (List.foldl f (arrOf st2) r.toList.zipIdx)) ∧ pendingOf (setArr st2 (List.foldl f (arrOf st2) r.toList.zipIdx)) = ((pendingOf st).setIfInBounds i (sa, na + nb, w)).eraseIdxIfInBounds (i + 1) ∧ PermIn (arrOf st) (List.foldl f (arrOf st2) r.toList.zipIdx) sa (sb + nb) ∧ SrtI O key (List.foldl f (arrOf st2) r.toList.zipIdx) sa (sb + nb) := fun r st2 g res f hf => by
    obtain ⟨g1, g2, g3, g4⟩ := g
    rw [ar1] at g2
    rw [g2]
    rw [lx, ly] at res
    obtain ⟨rp, rs⟩ := res
    have seg : ((arrOf st).toList.drop (sa + k)).take (na - k) ++ ((arrOf st).toList.drop sb).take m = ((arrOf st).toList.drop (sa + k)).take (na - k + m) := by
      rw [List.take_add, List.drop_drop, show sa + k + (na - k) = sb by omega]
    have lL : (arrOf st).toList.length = n := by rw [Array.length_toList]; exact hsz
    have len : r.toList.length = na - k + m := by
      rw [rp.length_eq, seg, List.length_take, List.length_drop]; omega
    have wl := wb_list hf r.toList (arrOf st) (by omega)
    have gt := fun q => wb_get hf r.toList 0 (arrOf st) q (by omega)
    rw [len] at wl gt
    generalize List.foldl f (arrOf st) r.toList.zipIdx = ys at wl gt
    have perm : ys.Perm (arrOf st) := by
      refine Array.perm_iff_toList_perm.mpr ?_
      rw [wl]
      have sp : (arrOf st).toList = (arrOf st).toList.take (sa + k) ++ ((arrOf st).toList.drop (sa + k)).take (na - k + m) ++ (arrOf st).toList.drop (sa + k + (na - k + m)) := by
        have dd : (arrOf st).toList.drop (sa + k + (na - k + m)) = ((arrOf st).toList.drop (sa + k)).drop (na - k + m) := by rw [List.drop_drop]
        rw [dd, List.append_assoc, List.take_append_drop, List.take_append_drop]
      conv => rhs; rw [sp]
      refine List.Perm.append_right _ (List.Perm.append_left _ ?_)
      rw [← seg]; exact rp
    refine ⟨(show SV knd D n (setArr st2 ys) from ⟨g1.trans v1.kind, g4.trans v1.fail, fun x hx => v.dom x ((Array.perm_iff_toList_perm.mp perm).mem_iff.mp hx), perm.size_eq.trans hsz⟩), g3.trans pd1, ⟨perm, fun q hq => by rw [gt, if_neg (by omega)]⟩, ?_⟩
    -- what a place holds
    have ins : ∀ q, sa + k ≤ q → q < sb + m → ∃ x, ys[q]? = some x ∧ x ∈ r.toList := fun q u1 u2 => by
      have := gt q
      rw [if_pos (by omega)] at this
      have hq : q - (sa + k + 0) < r.toList.length := by omega
      exact ⟨r.toList[q - (sa + k + 0)], by rw [this]; exact List.getElem?_eq_getElem hq, List.getElem_mem hq⟩
    have out : ∀ q, q < sa + k ∨ sb + m ≤ q → kx key ys q = kx key (arrOf st) q := fun q hq => kx_congr (by rw [gt, if_neg (by omega)])
    have mem : ∀ x ∈ r.toList, (∃ j, sa + k ≤ j ∧ j < sb ∧ (arrOf st)[j]? = some x) ∨ (∃ j, sb ≤ j ∧ j < sb + m ∧ (arrOf st)[j]? = some x) := fun x hx => by
      rcases List.mem_append.mp (rp.mem_iff.mp hx) with u | u
      · obtain ⟨j, hj⟩ := List.getElem?_of_mem u
        obtain ⟨j1, j2⟩ := seg_at hj
        exact .inl ⟨sa + k + j, by omega, by omega, j2⟩
      · obtain ⟨j, hj⟩ := List.getElem?_of_mem u
        obtain ⟨j1, j2⟩ := seg_at hj
        exact .inr ⟨sb + j, by omega, by omega, j2⟩
    have lowB : ∀ p, sa ≤ p → p < sa + k → O.kle (kx key (arrOf st) p) (kx key (arrOf st) sb) := fun p u1 u2 => by
      have := k2 (p - sa) (by omega)
      rw [show sa + (p - sa) = p by omega, ← kx_at (key := key) q1] at this
      exact this
    have highA : ∀ q, sb + m ≤ q → q < sb + nb → O.kle (kx key (arrOf st) (sb - 1)) (kx key (arrOf st) q) := fun q u1 u2 => by
      have := m3 (q - sb) (by omega) (by omega)
      rw [show sb + (q - sb) = q by omega, ← kx_at (key := key) r1] at this
      exact this
    intro p q p1 p2 p3
    by_cases c1 : p < sa + k
    · rw [out p (.inl c1)]
      by_cases c2 : q < sa + k
      · rw [out q (.inl c2)]; exact sA p q p1 p2 (by omega)
      · by_cases c3 : q < sb + m
        · obtain ⟨x, x1, x2⟩ := ins q (by omega) c3
          rw [kx_at x1]
          rcases mem x x2 with ⟨j, j1, j2, j3⟩ | ⟨j, j1, j2, j3⟩
          · rw [← kx_at (key := key) j3]; exact sA p j p1 (by omega) (by omega)
          · rw [← kx_at (key := key) j3]; exact KeyOrd.kle_trans (lowB p p1 c1) (sB sb j (Nat.le_refl _) j1 (by omega))
        · rw [out q (.inr (by omega))]
          exact KeyOrd.kle_trans (lowB p p1 c1) (sB sb q (Nat.le_refl _) (by omega) p3)
    · by_cases c3 : p < sb + m
      · obtain ⟨x, x1, x2⟩ := ins p (by omega) c3
        by_cases c4 : q < sb + m
        · have e1 := gt p
          have e2 := gt q
          rw [if_pos (by omega)] at e1 e2
          have hp : p - (sa + k + 0) < r.toList.length := by omega
          have hq : q - (sa + k + 0) < r.toList.length := by omega
          rw [List.getElem?_eq_getElem hp] at e1
          rw [List.getElem?_eq_getElem hq] at e2
          rw [kx_at e1, kx_at e2]
          by_cases c5 : p = q
          · subst c5; exact KeyOrd.kle_refl _
          · exact List.pairwise_iff_getElem.mp rs _ _ hp hq (by omega)
        · rw [kx_at x1, out q (.inr (by omega))]
          rcases mem x x2 with ⟨j, j1, j2, j3⟩ | ⟨j, j1, j2, j3⟩
          · rw [← kx_at (key := key) j3]; exact KeyOrd.kle_trans (sA j (sb - 1) (by omega) (by omega) (by omega)) (highA q (by omega) p3)
          · rw [← kx_at (key := key) j3]; exact sB j q j1 (by omega) p3
      · rw [out p (.inr (by omega)), out q (.inr (by omega))]
        exact sB p q (by omega) p2 p3
  by_cases t : na - k ≤ m
  · rw [if_pos t]
    refine wpS_bind (wpS_mergeLoS hL v1.kind dX dY sX sY (by show 1 ≤ ((arrOf st).extract (sa + k) sb).size; omega) (by show 1 ≤ ((arrOf st).extract sb (sb + m)).size; omega) hb ha fun r st2 g res => ?_)
    refine wpS_bind (wpS_modify (wpS_bind (wpS_get ?_)))
    obtain ⟨f1, f2, f3, f4⟩ := fin r st2 g res (fun a x => match x with | (p, j) => a.setIfInBounds (sa + k + j) p) (fun _ _ _ => rfl)
    have fl : failedOf st2 = none := g.2.2.2.trans v1.fail
    have : (failedOf st2).isNone = true := by rw [fl]; rfl
    refine wpS_pure ?_
    show Q (failedOf st2).isNone _
    rw [this]
    exact h _ f1 f2 f3 f4
  · rw [if_neg t]
    refine wpS_bind (wpS_mergeHiS hL v1.kind dX dY sX sY (by show 1 ≤ ((arrOf st).extract (sa + k) sb).size; omega) (by show 1 ≤ ((arrOf st).extract sb (sb + m)).size; omega) hb ha fun r st2 g res => ?_)
    refine wpS_bind (wpS_modify (wpS_bind (wpS_get ?_)))
    obtain ⟨f1, f2, f3, f4⟩ := fin r st2 g res (fun a x => match x with | (p, j) => a.setIfInBounds (sa + k + j) p) (fun _ _ _ => rfl)
    have fl : failedOf st2 = none := g.2.2.2.trans v1.fail
    have : (failedOf st2).isNone = true := by rw [fl]; rfl
    refine wpS_pure ?_
    show Q (failedOf st2).isNone _
    rw [this]
    exact h _ f1 f2 f3 f4
end
end L2

namespace L2
open PySem PyProof.Rows
/-! ### the whole sort -/
section
variable {O : KeyOrd} {key : Keyed → O.α}
def ChainR (O : KeyOrd) (key : Keyed → O.α) (xs : Array Keyed) : Nat → List (Nat × Nat × Nat) → Nat → Prop
  | a, [], b => a = b
  | a, q :: r, b => q.1 = a ∧ 1 ≤ q.2.1 ∧ SrtI O key xs a (a + q.2.1) ∧ ChainR O key xs (a + q.2.1) r b
theorem ChainR.le {xs : Array Keyed} : ∀ {l : List (Nat × Nat × Nat)} {a b : Nat}, ChainR O key xs a l b → a + l.length ≤ b
  | [], a, b, h => by
    have h : a = b := h
    subst h; exact Nat.le_refl _
  | q :: r, a, b, ⟨_, h2, _, h4⟩ => by
    have := ChainR.le h4
    rw [List.length_cons]; omega
theorem ChainR.congr {xs ys : Array Keyed} : ∀ {l : List (Nat × Nat × Nat)} {a b : Nat}, ChainR O key xs a l b → (∀ k, a ≤ k → k < b → ys[k]? = xs[k]?) → ChainR O key ys a l b
  | [], _, _, h, _ => h
  | q :: r, a, b, ⟨h1, h2, h3, h4⟩, e => by
    have hb := h4.le
    refine ⟨h1, h2, fun i j i1 i2 i3 => ?_, h4.congr fun k k1 k2 => e k (by omega) k2⟩
    rw [kx_congr (e i i1 (by omega)), kx_congr (e j (by omega) (by omega))]
    exact h3 i j i1 i2 i3
theorem chain_app {xs : Array Keyed} : ∀ {l l' : List (Nat × Nat × Nat)} {a b : Nat}, ChainR O key xs a (l ++ l') b ↔ ∃ c, ChainR O key xs a l c ∧ ChainR O key xs c l' b
  | [], l', a, b => ⟨fun h => ⟨a, rfl, h⟩, fun ⟨c, h1, h2⟩ => by
    have h1 : a = c := h1
    subst h1; exact h2⟩
  | q :: r, l', a, b => by
    constructor
    · rintro ⟨h1, h2, h3, h4⟩
      obtain ⟨c, h5, h6⟩ := chain_app.mp h4
      exact ⟨c, ⟨h1, h2, h3, h5⟩, h6⟩
    · rintro ⟨c, ⟨h1, h2, h3, h5⟩, h6⟩
      exact ⟨h1, h2, h3, chain_app.mpr ⟨c, h5, h6⟩⟩
theorem ChainR.pow {xs : Array Keyed} : ∀ {l l' : List (Nat × Nat × Nat)} {a b : Nat}, l.map (fun q => (q.1, q.2.1)) = l'.map (fun q => (q.1, q.2.1)) → ChainR O key xs a l b → ChainR O key xs a l' b
  | [], [], _, _, _, h => h
  | [], _ :: _, _, _, e, _ => by cases e
  | _ :: _, [], _, _, e, _ => by cases e
  | q :: r, q' :: r', a, b, e, ⟨h1, h2, h3, h4⟩ => by
    simp only [List.map_cons, List.cons.injEq, Prod.mk.injEq] at e
    obtain ⟨⟨e1, e2⟩, e3⟩ := e
    refine ⟨e1 ▸ h1, e2 ▸ h2, e2 ▸ h3, ?_⟩
    rw [← e2]; exact h4.pow e3
theorem set_erase {q1 q2 v : Nat × Nat × Nat} {l2 : List (Nat × Nat × Nat)} : ∀ l1 : List (Nat × Nat × Nat), ((l1 ++ q1 :: q2 :: l2).set l1.length v).eraseIdx (l1.length + 1) = l1 ++ v :: l2
  | [] => rfl
  | x :: l1 => by
    show x :: ((l1 ++ q1 :: q2 :: l2).set l1.length v).eraseIdx (l1.length + 1) = x :: (l1 ++ v :: l2)
    rw [set_erase l1]
end
section
variable {M : Model} {Ar : Around} {E : Value → Shared → Prop} {s : Shared} {O : KeyOrd} {key : Keyed → O.α} {knd : SortKind} {D : Keyed → Prop} {n : Nat}
theorem wpS_ite {σ α : Type} {c : Prop} [Decidable c] {m m' : StateT σ Sem α} {Q : α → σ → Prop} {st : σ} (h1 : c → wpS M Ar E s m Q st) (h2 : ¬ c → wpS M Ar E s m' Q st) : wpS M Ar E s (if c then m else m') Q st := by
  by_cases z : c
  · rw [if_pos z]; exact h1 z
  · rw [if_neg z]; exact h2 z
theorem ite_pred {c : Prop} [Decidable c] {a b : Nat} (h : a + 1 < b) : (if c then a - 1 else a) + 1 < b := by split <;> omega
theorem wpS_mergeChain (hL : LtOk M Ar E s O key knd D) {st : SortSt} {i lo : Nat} {Q : Bool → SortSt → Prop} (v : SV knd D n st) (ch : ChainR O key (arrOf st) 0 (pendingOf st).toList lo) (hlo : lo ≤ n) (hi : i + 1 < (pendingOf st).size)
    (h : ∀ st', SV knd D n st' → PermIn (arrOf st) (arrOf st') 0 lo → ChainR O key (arrOf st') 0 (pendingOf st').toList lo → (pendingOf st').size + 1 = (pendingOf st).size → Q true st') : wpS M Ar E s (mergeAt' i) Q st := by
  have lp : (pendingOf st).toList.length = (pendingOf st).size := Array.length_toList
  have sp : (pendingOf st).toList = (pendingOf st).toList.take i ++ (pendingOf st).toList[i] :: (pendingOf st).toList[i + 1] :: (pendingOf st).toList.drop (i + 2) := by
    rw [← List.drop_eq_getElem_cons (by omega), ← List.drop_eq_getElem_cons (by omega), List.take_append_drop]
  generalize hq1 : (pendingOf st).toList[i] = q1 at sp
  generalize hq2 : (pendingOf st).toList[i + 1] = q2 at sp
  obtain ⟨sa, na, w⟩ := q1
  obtain ⟨sb, nb, w'⟩ := q2
  have e1 : (pendingOf st)[i]? = some (sa, na, w) := by rw [← Array.getElem?_toList, List.getElem?_eq_getElem (by omega), hq1]
  have e2 : (pendingOf st)[i + 1]? = some (sb, nb, w') := by rw [← Array.getElem?_toList, List.getElem?_eq_getElem (by omega), hq2]
  have ti : ((pendingOf st).toList.take i).length = i := by rw [List.length_take]; omega
  rw [sp] at ch
  obtain ⟨c, c1, c2, c3, c4, c5, c6, c7, c8⟩ := chain_app.mp ch
  have c2 : sa = c := c2
  subst c2
  have c5 : sb = sa + na := c5
  have c3 : 1 ≤ na := c3
  have c6 : 1 ≤ nb := c6
  have c4 : SrtI O key (arrOf st) sa (sa + na) := c4
  have c7 : SrtI O key (arrOf st) (sa + na) (sa + na + nb) := c7
  have c8 : ChainR O key (arrOf st) (sa + na + nb) ((pendingOf st).toList.drop (i + 2)) lo := c8
  have g1 := c1.le
  have g2 := c8.le
  refine wpS_mergeAtI hL v e1 e2 c5 c3 c6 (by omega) c4 (by rw [c5]; exact c7) fun st' v' pd pm hs => ?_
  have pl : (pendingOf st').toList = (pendingOf st).toList.take i ++ (sa, na + nb, w) :: (pendingOf st).toList.drop (i + 2) := by
    rw [pd, Array.toList_eraseIdxIfInBounds, Array.toList_setIfInBounds, sp]
    have := set_erase (q1 := (sa, na, w)) (q2 := (sb, nb, w')) (v := (sa, na + nb, w)) (l2 := (pendingOf st).toList.drop (i + 2)) ((pendingOf st).toList.take i)
    rw [ti] at this
    rw [this]
    simp [List.take_append_of_le_length, ti, List.drop_append]
  refine h st' v' (pm.wide (Nat.zero_le _) (by omega)) ?_ ?_
  · rw [pl]
    refine chain_app.mpr ⟨sa, c1.congr fun k k1 k2 => pm.2 k (.inl k2), rfl, ?_, ?_, ?_⟩
    · show 1 ≤ na + nb; omega
    · show SrtI O key (arrOf st') sa (sa + (na + nb))
      rw [show sa + (na + nb) = sb + nb by omega]; exact hs
    · show ChainR O key (arrOf st') (sa + (na + nb)) _ lo
      rw [show sa + (na + nb) = sa + na + nb by omega]
      exact c8.congr fun k k1 k2 => pm.2 k (.inr (by omega))
  · have := congrArg List.length pl
    rw [Array.length_toList, List.length_append, ti, List.length_cons, List.length_drop] at this
    omega
theorem wpS_sortAll (hL : LtOk M Ar E s O key knd D) {st : SortSt} {Q : Unit → SortSt → Prop} (v : SV knd D n st) (pe : pendingOf st = #[]) (h2 : 2 ≤ n)
    (h : ∀ st', failedOf st' = none → (arrOf st').Perm (arrOf st) → SrtI O key (arrOf st') 0 n → Q () st') : wpS M Ar E s sortRuns' Q st := by
  refine wpS_bind (wpS_get ?_)
  have ez : (arrOf st).size = n := v.size
  dsimp only
  refine wpS_bind (wpS_mono (wpS_forRange (I := fun x c st' => SV knd D n st' ∧ (arrOf st').Perm (arrOf st) ∧ ∃ lo, c = (none, lo) ∧ x ≤ lo ∧ lo ≤ n ∧ ChainR O key (arrOf st') 0 (pendingOf st').toList lo)
    (Q := fun c st' => SV knd D n st' ∧ (arrOf st').Perm (arrOf st) ∧ c = (none, n) ∧ ChainR O key (arrOf st') 0 (pendingOf st').toList n) ?step ?fin ⟨v, Array.Perm.refl _, 0, rfl, Nat.le_refl _, Nat.zero_le _, by rw [pe]; rfl⟩) ?post)
  case fin =>
    rintro c st' ⟨v1, p1, lo, rfl, l1, l2, ch⟩
    have : lo = n := by
      have hz : (arrOf st).size ≤ lo := by
        have : max 0 (arrOf st).size ≤ lo := l1
        omega
      omega
    subst this
    exact ⟨v1, p1, rfl, ch⟩
  case step =>
    rintro x c st' _ hx ⟨v1, p1, lo, rfl, l1, l2, ch⟩
    dsimp only
    refine wpS_ite (fun z => ?_) fun z => ?_
    · have z : (arrOf st).size ≤ lo := z
      have : lo = n := by omega
      subst this
      exact wpS_pure ⟨v1, p1, rfl, ch⟩
    have z : ¬ (arrOf st).size ≤ lo := z
    have lz : lo < n := by omega
    refine wpS_bind (wpS_countI hL v1 (by show 1 ≤ (arrOf st).size - lo; omega) (by show lo + ((arrOf st).size - lo) ≤ n; omega) fun m st2 v2 pd2 pm2 m1 m2 hs2 => ?_)
    have m2 : m ≤ (arrOf st).size - lo := m2
    have pm2 : PermIn (arrOf st') (arrOf st2) lo (lo + ((arrOf st).size - lo)) := pm2
    have ch2 : ChainR O key (arrOf st2) 0 (pendingOf st2).toList lo := by
      rw [pd2]; exact ch.congr fun k k1 k2 => pm2.2 k (.inl k2)
    have p2 : (arrOf st2).Perm (arrOf st) := pm2.1.trans p1
    dsimp only
    refine wpS_ite (fun y => ?_) fun y => ?_
    · refine wpS_bind (wpS_lift (wpAny_rule ⟨rfl, ?_⟩))
      refine wpS_bind (wpS_binI hL v2 ?_ ?_ hs2 fun st3 v3 pd3 pm3 hs3 => ?_)
      · show lo + min ((arrOf st).size - lo) _ ≤ n
        omega
      · show m ≤ min ((arrOf st).size - lo) _
        omega
      rw [if_neg (by decide)]
      have ch3 : ChainR O key (arrOf st3) 0 (pendingOf st3).toList lo := by
        rw [pd3]; exact ch2.congr fun k k1 k2 => pm3.2 k (.inl k2)
      have p3 : (arrOf st3).Perm (arrOf st) := pm3.1.trans p2
      have fm : 1 ≤ min ((arrOf st).size - lo) (minRun' (arrOf st).size (arrOf st).size 0) := by
        have : m < minRun' (arrOf st).size (arrOf st).size 0 := y
        omega
      have fl : lo + min ((arrOf st).size - lo) (minRun' (arrOf st).size (arrOf st).size 0) ≤ n := by omega
      have hs3 : SrtI O key (arrOf st3) lo (lo + min ((arrOf st).size - lo) (minRun' (arrOf st).size (arrOf st).size 0)) := hs3
      clear hs2 ch2 p2 m1 m2 y
      refine wpS_bind (wpS_get ?_)
      (try dsimp only)
      have push : ∀ st4 : SortSt, SV knd D n st4 → (arrOf st4).Perm (arrOf st) → ChainR O key (arrOf st4) 0 (pendingOf st4).toList lo → SrtI O key (arrOf st4) lo (lo + min ((arrOf st).size - lo) (minRun' (arrOf st).size (arrOf st).size 0)) → SV knd D n (setPending st4 ((pendingOf st4).push (lo, min ((arrOf st).size - lo) (minRun' (arrOf st).size (arrOf st).size 0), 0))) ∧ (arrOf st4).Perm (arrOf st) ∧ ∃ lo', ((none, lo + min ((arrOf st).size - lo) (minRun' (arrOf st).size (arrOf st).size 0)) : Option Unit × Nat) = (none, lo') ∧ x + 1 ≤ lo' ∧ lo' ≤ n ∧ ChainR O key (arrOf st4) 0 ((pendingOf st4).push (lo, min ((arrOf st).size - lo) (minRun' (arrOf st).size (arrOf st).size 0), 0)).toList lo' := fun st4 v4 p4 ch4 hs4 => by
        refine ⟨⟨v4.kind, v4.fail, v4.dom, v4.size⟩, p4, lo + min ((arrOf st).size - lo) (minRun' (arrOf st).size (arrOf st).size 0), rfl, by omega, fl, ?_⟩
        rw [Array.toList_push]
        exact chain_app.mpr ⟨lo, ch4, rfl, fm, hs4, rfl⟩
      cases hbk : (pendingOf st3).back? with
      | none =>
        (try dsimp only)
        exact wpS_bind (wpS_modify (wpS_pure (push _ v3 p3 ch3 hs3)))
      | some tt =>
        obtain ⟨s1, n1, w1⟩ := tt
        (try dsimp only)
        refine wpS_bind (wpS_mono (wpS_forRange (I := fun _ c st4 => c = (none, ()) ∧ SV knd D n st4 ∧ (arrOf st4).Perm (arrOf st) ∧ ChainR O key (arrOf st4) 0 (pendingOf st4).toList lo ∧ SrtI O key (arrOf st4) lo (lo + min ((arrOf st).size - lo) (minRun' (arrOf st).size (arrOf st).size 0)))
          (Q := fun c st4 => c = (none, ()) ∧ SV knd D n st4 ∧ (arrOf st4).Perm (arrOf st) ∧ ChainR O key (arrOf st4) 0 (pendingOf st4).toList lo ∧ SrtI O key (arrOf st4) lo (lo + min ((arrOf st).size - lo) (minRun' (arrOf st).size (arrOf st).size 0))) ?_ (fun _ _ hh => hh) ⟨rfl, v3, p3, ch3, hs3⟩) ?_)
        · rintro y c st4 _ _ ⟨rfl, v4, p4, ch4, hs4⟩
          refine wpS_bind (wpS_get ?_)
          (try dsimp only)
          by_cases u : (pendingOf st4).size > 1
          · have eu : (if (pendingOf st4).size > 1 then (pendingOf st4)[(pendingOf st4).size - 2]? else none) = some ((pendingOf st4)[(pendingOf st4).size - 2]) := by rw [if_pos u]; exact Array.getElem?_eq_getElem (by omega)
            rw [eu]
            generalize (pendingOf st4)[(pendingOf st4).size - 2] = q4
            obtain ⟨t1, t2, t3⟩ := q4
            (try dsimp only)
            refine wpS_ite (fun _ => wpS_pure ⟨rfl, v4, p4, ch4, hs4⟩) fun _ => ?_
            refine wpS_bind (wpS_mergeChain hL v4 ch4 l2 (by show (pendingOf st4).size - 2 + 1 < (pendingOf st4).size; omega) fun st5 v5 pm5 ch5 _ => ?_)
            rw [if_neg (by decide)]
            refine wpS_pure ⟨rfl, v5, pm5.1.trans p4, ch5, fun i j i1 i2 i3 => ?_⟩
            rw [kx_congr (pm5.2 i (.inr (by omega))), kx_congr (pm5.2 j (.inr (by omega)))]
            exact hs4 i j i1 i2 i3
          · have eu : (if (pendingOf st4).size > 1 then (pendingOf st4)[(pendingOf st4).size - 2]? else none) = none := if_neg u
            rw [eu]
            (try dsimp only)
            exact wpS_pure ⟨rfl, v4, p4, ch4, hs4⟩
        rintro c st4 ⟨rfl, v4, p4, ch4, hs4⟩
        (try dsimp only)
        refine wpS_bind (wpS_modify (wpS_bind (wpS_modify (wpS_pure (push _ ⟨v4.kind, v4.fail, v4.dom, v4.size⟩ p4 ?_ hs4)))))
        refine ch4.pow ?_
        apply List.ext_getElem?
        intro q
        rw [List.getElem?_map, List.getElem?_map, Array.getElem?_toList, Array.getElem?_toList]
        show _ = Option.map _ (((pendingOf st4).modify ((pendingOf st4).size - 1) _)[q]?)
        rw [Array.getElem?_modify]
        split
        · cases (pendingOf st4)[q]? <;> rfl
        · rfl
    · have ch3 := ch2
      have p3 := p2
      have fm := m1
      have fl : lo + m ≤ n := by omega
      have hs3 := hs2
      have v3 := v2
      clear hs2 ch2 p2 m1 m2 y
      refine wpS_bind (wpS_get ?_)
      (try dsimp only)
      have push : ∀ st4 : SortSt, SV knd D n st4 → (arrOf st4).Perm (arrOf st) → ChainR O key (arrOf st4) 0 (pendingOf st4).toList lo → SrtI O key (arrOf st4) lo (lo + m) → SV knd D n (setPending st4 ((pendingOf st4).push (lo, m, 0))) ∧ (arrOf st4).Perm (arrOf st) ∧ ∃ lo', ((none, lo + m) : Option Unit × Nat) = (none, lo') ∧ x + 1 ≤ lo' ∧ lo' ≤ n ∧ ChainR O key (arrOf st4) 0 ((pendingOf st4).push (lo, m, 0)).toList lo' := fun st4 v4 p4 ch4 hs4 => by
        refine ⟨⟨v4.kind, v4.fail, v4.dom, v4.size⟩, p4, lo + m, rfl, by omega, fl, ?_⟩
        rw [Array.toList_push]
        exact chain_app.mpr ⟨lo, ch4, rfl, fm, hs4, rfl⟩
      cases hbk : (pendingOf st2).back? with
      | none =>
        (try dsimp only)
        exact wpS_bind (wpS_modify (wpS_pure (push _ v3 p3 ch3 hs3)))
      | some tt =>
        obtain ⟨s1, n1, w1⟩ := tt
        (try dsimp only)
        refine wpS_bind (wpS_mono (wpS_forRange (I := fun _ c st4 => c = (none, ()) ∧ SV knd D n st4 ∧ (arrOf st4).Perm (arrOf st) ∧ ChainR O key (arrOf st4) 0 (pendingOf st4).toList lo ∧ SrtI O key (arrOf st4) lo (lo + m))
          (Q := fun c st4 => c = (none, ()) ∧ SV knd D n st4 ∧ (arrOf st4).Perm (arrOf st) ∧ ChainR O key (arrOf st4) 0 (pendingOf st4).toList lo ∧ SrtI O key (arrOf st4) lo (lo + m)) ?_ (fun _ _ hh => hh) ⟨rfl, v3, p3, ch3, hs3⟩) ?_)
        · rintro y c st4 _ _ ⟨rfl, v4, p4, ch4, hs4⟩
          refine wpS_bind (wpS_get ?_)
          (try dsimp only)
          by_cases u : (pendingOf st4).size > 1
          · have eu : (if (pendingOf st4).size > 1 then (pendingOf st4)[(pendingOf st4).size - 2]? else none) = some ((pendingOf st4)[(pendingOf st4).size - 2]) := by rw [if_pos u]; exact Array.getElem?_eq_getElem (by omega)
            rw [eu]
            generalize (pendingOf st4)[(pendingOf st4).size - 2] = q4
            obtain ⟨t1, t2, t3⟩ := q4
            (try dsimp only)
            refine wpS_ite (fun _ => wpS_pure ⟨rfl, v4, p4, ch4, hs4⟩) fun _ => ?_
            refine wpS_bind (wpS_mergeChain hL v4 ch4 l2 (by show (pendingOf st4).size - 2 + 1 < (pendingOf st4).size; omega) fun st5 v5 pm5 ch5 _ => ?_)
            rw [if_neg (by decide)]
            refine wpS_pure ⟨rfl, v5, pm5.1.trans p4, ch5, fun i j i1 i2 i3 => ?_⟩
            rw [kx_congr (pm5.2 i (.inr (by omega))), kx_congr (pm5.2 j (.inr (by omega)))]
            exact hs4 i j i1 i2 i3
          · have eu : (if (pendingOf st4).size > 1 then (pendingOf st4)[(pendingOf st4).size - 2]? else none) = none := if_neg u
            rw [eu]
            (try dsimp only)
            exact wpS_pure ⟨rfl, v4, p4, ch4, hs4⟩
        rintro c st4 ⟨rfl, v4, p4, ch4, hs4⟩
        (try dsimp only)
        refine wpS_bind (wpS_modify (wpS_bind (wpS_modify (wpS_pure (push _ ⟨v4.kind, v4.fail, v4.dom, v4.size⟩ p4 ?_ hs4)))))
        refine ch4.pow ?_
        apply List.ext_getElem?
        intro q
        rw [List.getElem?_map, List.getElem?_map, Array.getElem?_toList, Array.getElem?_toList]
        show _ = Option.map _ (((pendingOf st4).modify ((pendingOf st4).size - 1) _)[q]?)
        rw [Array.getElem?_modify]
        split
        · cases (pendingOf st4)[q]? <;> rfl
        · rfl
  case post =>
    rintro c st' ⟨v1, p1, rfl, ch⟩
    dsimp only
    have chl := ch.le
    rw [Array.length_toList] at chl
    refine wpS_bind (wpS_mono (wpS_forRange (I := fun x c st2 => c = (none, ()) ∧ SV knd D n st2 ∧ (arrOf st2).Perm (arrOf st) ∧ ChainR O key (arrOf st2) 0 (pendingOf st2).toList n ∧ ((pendingOf st2).size ≤ 1 ∨ (pendingOf st2).size + x ≤ n))
      (Q := fun c st2 => c = (none, ()) ∧ SV knd D n st2 ∧ (arrOf st2).Perm (arrOf st) ∧ ChainR O key (arrOf st2) 0 (pendingOf st2).toList n ∧ (pendingOf st2).size ≤ 1) ?_ ?_ ⟨rfl, v1, p1, ch, .inr (by omega)⟩) ?_)
    · rintro x c st2 _ hx ⟨rfl, v2, p2, ch2, hz⟩
      refine wpS_bind (wpS_get ?_)
      (try dsimp only)
      refine wpS_ite (fun z => wpS_pure ⟨rfl, v2, p2, ch2, z⟩) fun z => ?_
      have z : ¬ (pendingOf st2).size ≤ 1 := z
      refine wpS_bind (wpS_mergeChain hL v2 ch2 (Nat.le_refl _) ?_ fun st3 v3 pm3 ch3 sz3 => ?_)
      · exact ite_pred (a := (pendingOf st2).size - 2) (by omega)
      rw [if_neg (by decide)]
      exact wpS_pure ⟨rfl, v3, pm3.1.trans p2, ch3, by omega⟩
    · rintro c st2 ⟨rfl, v2, p2, ch2, hz⟩
      refine ⟨rfl, v2, p2, ch2, ?_⟩
      rcases hz with hz | hz
      · exact hz
      · have : (pendingOf st2).size + max 0 (arrOf st).size ≤ n := hz
        omega
    · rintro c st2 ⟨rfl, v2, p2, ch2, hz⟩
      refine wpS_pure (h st2 v2.fail p2 ?_)
      have lp : (pendingOf st2).toList.length = (pendingOf st2).size := Array.length_toList
      match hl : (pendingOf st2).toList, ch2 with
      | [], ch2 =>
        have : 0 = n := ch2
        omega
      | [q], ch2 =>
        obtain ⟨d1, d2, d3, d4⟩ := ch2
        have d4 : 0 + q.2.1 = n := d4
        rw [d4] at d3
        exact d3
      | q :: q' :: r, _ =>
        rw [hl, List.length_cons, List.length_cons] at lp
        omega
end
end L2

namespace L2
open PySem PyProof.Rows
/-! ### list.sort, sorted: any length, numbers or tuples of numbers -/
theorem listLt_neg {a b c : List Int} (h : a < c) : a < b ∨ b < c := by
  by_cases z : a < b
  · exact .inl z
  · exact .inr (List.lt_of_le_of_lt (List.not_lt.mp z) h)
abbrev ordL : KeyOrd :=
  { α := List Int, blt := fun a b => decide (a < b), irrefl := fun a => decide_eq_false (List.lt_irrefl a), trans := fun a b c h1 h2 => decide_eq_true (List.lt_trans (of_decide_eq_true h1) (of_decide_eq_true h2)),
    negTrans := fun a b c h => (listLt_neg (b := b) (of_decide_eq_true h)).imp decide_eq_true decide_eq_true, total := fun a b h1 h2 => List.le_antisymm (List.not_lt.mp (of_decide_eq_false h2)) (List.not_lt.mp (of_decide_eq_false h1)) }
/-- the numbers of a tuple, as the heap has it -/
def keyT (h : Heap) (x : Keyed) : List Int := match x.1 with
  | .ref a => (match h.get? a with | some o => (match o.data with | .seq items _ => items.toList.map numOf | _ => []) | none => [])
  | _ => []
def DT (h : Heap) (x : Keyed) : Prop := ∃ a items ns, x.1 = .ref a ∧ IsTup h a items ∧ IntsAre items.toList ns ∧ ns ≠ []
theorem keyT_at {h : Heap} {x : Keyed} {a : Addr} {items : Array Value} {ns : List Int} (e : x.1 = .ref a) (t : IsTup h a items) (i : IntsAre items.toList ns) : keyT h x = ns := by
  obtain ⟨o, ho, _, n, hd⟩ := t
  unfold keyT
  rw [e]
  show (match h.get? a with | some o => (match o.data with | .seq items _ => items.toList.map numOf | _ => []) | none => []) = ns
  rw [ho]
  show (match o.data with | .seq items _ => items.toList.map numOf | _ => []) = ns
  rw [hd]
  exact i.nums
section
variable {prog : Program} {w : World} {A : Around} {E : Value → Shared → Prop} {s : Shared}
theorem oneLt_ints {b : Bool} {i j : Int} {t u : Tok} {Q : Bool → Shared → Prop} (h : Q (decide (i < j)) s) : wpAny (model prog w) A (oneLt' b (.int i t) (.int j u)) Q E s := by
  cases b with
  | true => exact oneLt_int h
  | false =>
    refine wpAny_bind (m := richCompare .Lt (.int i t) (.int j u)) ((lt_int (Q := fun v s' => v = .bool (decide (i < j)) ∧ s' = s) ⟨rfl, rfl⟩ : wpAny (model prog w) A (compareOp .Lt (.int i t) (.int j u)) _ E s) |> fun z => wpAny_mono z (fun v s' e => ?_) fun _ _ e => e)
    obtain ⟨rfl, rfl⟩ := e
    exact wpAny_truthy_bool h
theorem tup_loop {f : (Value × Value) × Nat → Option Bool × Unit → Sem (ForInStep (Option Bool × Unit))} (b0 : Bool) (hf : ∀ p q i c, f ((p, q), i) c = (do let e ← eqBool p q; if (!e) = true then do let r ← oneLt' (b0 && i == 0) p q; pure (ForInStep.done (some r, ())) else pure (ForInStep.yield (none, ())))) :
    ∀ {vs ws : List Value} {ns ms : List Int} (i0 : Nat) {Q : Option Bool × Unit → Shared → Prop}, IntsAre vs ns → IntsAre ws ms → (∀ r : Option Bool, (r = some (decide (ns < ms)) ∨ (r = none ∧ decide (ns < ms) = decide (ns.length < ms.length))) → Q (r, ()) s) → wpAny (model prog w) A (forIn ((vs.zip ws).zipIdx i0) ((none, ()) : Option Bool × Unit) f) Q E s
  | _, _, _, _, i0, Q, .nil, hw, h => by
    rw [List.zip_nil_left]
    refine wpAny_pure (h none (.inr ⟨rfl, ?_⟩))
    cases hw <;> simp
  | _, _, _, _, i0, Q, .cons n t hv, .nil, h => by
    rw [List.zip_nil_right]
    exact wpAny_pure (h none (.inr ⟨rfl, by simp⟩))
  | _, _, _, _, i0, Q, .cons n t (ns := ns) hv, .cons m u (ns := ms) hw, h => by
    rw [List.zip_cons_cons, List.zipIdx_cons, List.forIn_cons, hf]
    refine wpAny_bind (wpAny_bind (SeqAt.EqAt.int_int n t m u prog w E _ ?_))
    by_cases e : n = m
    · subst e
      have hx : (n == n) = true := beq_self_eq_true n
      rw [hx]
      refine wpAny_pure ?_
      refine tup_loop b0 hf (i0 + 1) hv hw fun r hr => h r ?_
      have c1 : decide (n :: ns < n :: ms) = decide (ns < ms) := decide_eq_decide.mpr (by rw [List.cons_lt_cons_iff]; simp)
      have c2 : decide ((n :: ns).length < (n :: ms).length) = decide (ns.length < ms.length) := decide_eq_decide.mpr (by simp)
      rw [c1, c2]
      exact hr
    · have hx : (n == m) = false := beq_eq_false_iff_ne.mpr e
      rw [hx]
      refine wpAny_bind (oneLt_ints (wpAny_pure (wpAny_pure (h _ (.inl ?_)))))
      exact congrArg some (decide_eq_decide.mpr (by rw [List.cons_lt_cons_iff]; simp [e]))
theorem tup_lt {x y : Keyed} {Q : Bool → Shared → Prop} (dx : DT s.heap x) (dy : DT s.heap y) (h : Q (decide (keyT s.heap x < keyT s.heap y)) s) : wpAny (model prog w) A (keyLt' (tuples' true) x.1 y.1) Q E s := by
  obtain ⟨a, items, ns, e1, t1, i1, _⟩ := dx
  obtain ⟨b, items2, ms, e2, t2, i2, _⟩ := dy
  rw [keyT_at e1 t1 i1, keyT_at e2 t2 i2] at h
  rw [e1, e2]
  obtain ⟨o, ho, _, n, hd⟩ := t1
  obtain ⟨o2, ho2, _, n2, hd2⟩ := t2
  refine wpAny_bind (listItems_at ho hd (wpAny_bind (listItems_at ho2 hd2 (wpAny_bind ?_))))
  refine tup_loop true (fun p q i c => rfl) 0 i1 i2 fun r hr => ?_
  have l1 : items.size = ns.length := by rw [← i1.length]; simp
  have l2 : items2.size = ms.length := by rw [← i2.length]; simp
  rcases hr with rfl | ⟨rfl, e⟩
  · exact wpAny_pure h
  · refine wpAny_pure ?_
    show Q (decide (items.size < items2.size)) s
    rw [l1, l2, ← e]
    exact h
theorem lt_tups : LtOk (model prog w) A E s ordL (keyT s.heap) (tuples' true) (DT s.heap) where
  lt := fun {x y st Q} dx dy hk h => by
    rw [lt'_eq]
    refine wpS_bind (wpS_get ?_)
    rw [hk]
    exact wpS_bind (wpS_lift (wpAny_attempt (tup_lt dx dy ⟨rfl, wpS_pure h⟩)))
/-- numbers -/
def keyI (x : Keyed) : List Int := [numOf x.1]
def DI (x : Keyed) : Prop := ∃ n t, x.1 = .int n t
theorem lt_ints : LtOk (model prog w) A E s ordL keyI oneType' DI where
  lt := fun {x y st Q} dx dy hk h => by
    obtain ⟨i, t, e1⟩ := dx
    obtain ⟨j, u, e2⟩ := dy
    rw [lt'_eq]
    refine wpS_bind (wpS_get ?_)
    rw [hk, keyLt'_oneType, e1, e2]
    refine wpS_bind (wpS_lift (wpAny_attempt (oneLt_int ⟨rfl, wpS_pure ?_⟩)))
    have : decide (i < j) = ordL.blt (keyI x) (keyI y) := by
      show _ = decide ([numOf x.1] < [numOf y.1])
      rw [e1, e2]
      exact decide_eq_decide.mpr (by rw [List.cons_lt_cons_iff]; simp [numOf])
    rw [this]
    exact h
/-- the state while a list is sorted -/
def inSort (s : Shared) (a : Addr) (vs : List Value) : Shared := { s with heap := ((s.heap.update a (Obj.mapSeq fun _ => #[])).push (seqObj "tuple" vs.toArray 0)).push (seqObj "list" #[] 0) }
theorem inSort_keep {a b : Addr} {vs : List Value} {o : Obj} (h : s.heap.get? b = some o) (ne : b ≠ a) : (inSort s a vs).heap.get? b = some o := by
  have hlt : b < s.heap.objs.size := Heap.lt_size h
  show (((s.heap.update a _).push _).push _).get? b = some o
  rw [Heap.get?_push_ne _ _ _ (by rw [size_push', Heap.size_update]; exact Nat.ne_of_lt (Nat.lt_succ_of_lt hlt)), Heap.get?_push_ne _ _ _ (by rw [Heap.size_update]; exact Nat.ne_of_lt hlt), Heap.get?_update_ne _ _ _ _ ne]
  exact h
theorem list_sort_any {O : KeyOrd} {key : Keyed → O.α} {knd : SortKind} {D : Keyed → Prop} {a : Addr} {vs : List Value} {n : Nat} {P : Fin → Shared → Prop} (ho : s.heap.get? a = some (seqObj "list" vs.toArray n)) (hz : vs.length ≤ 1000000)
    (hkk : 2 ≤ vs.length → wpAny (model prog w) A (keyKind' vs.toArray) (fun r s' => s' = inSort s a vs ∧ r = knd) E (inSort s a vs)) (hL : LtOk (model prog w) A E (inSort s a vs) O key knd D) (hD : ∀ v ∈ vs, D (v, v))
    (h : ∀ out : List Value, out.Perm vs → out.Pairwise (fun v u => leK O key (v, v) (u, u)) → P (.done (.ret .none)) { s with heap := sortedHeap s.heap a vs out.toArray }) : wpAny (model prog w) A (Builtin.«list.sort» ⟨[.ref a], []⟩) P E s := by
  rw [list_sort_plain]
  have ha : a < s.heap.objs.size := Heap.lt_size ho
  obtain ⟨e1, ho1⟩ : ∃ e1, (s.heap.update a (Obj.mapSeq fun _ => #[])).get? a = some (seqObj "list" #[] e1) := ⟨_, get?_update_seq ho (fun _ => #[])⟩
  refine wpAny_bind (listItems_at ho rfl (wpAny_bind (listUpdate_at ho rfl (wpAny_bind (seqEpoch_at ho1 rfl (wpAny_bind (wpAny_newTuple (wpAny_bind (wpAny_newList (wpAny_holding ?_)) ) ?_)))) ?_ ?_)))
  · have ho6 : (inSort s a vs).heap.get? a = some (seqObj "list" #[] e1) := by
      show (((s.heap.update a _).push _).push _).get? a = _
      rw [Heap.get?_push_ne _ _ _ (by rw [size_push', Heap.size_update]; exact Nat.ne_of_lt (Nat.lt_succ_of_lt ha)), Heap.get?_push_ne _ _ _ (by rw [Heap.size_update]; exact Nat.ne_of_lt ha)]
      exact ho1
    show wpAny (model prog w) A _ P E (inSort s a vs)
    have hs : vs.toArray.size = vs.length := by simp
    have pz : vs.toArray.zip vs.toArray = pairsOf vs := rfl
    have szl : ∀ xs : Array Keyed, xs.Perm (pairsOf vs) → (xs.map (·.2)).size ≤ sizeLine + 1 := fun xs hp => by
      rw [Array.size_map, hp.size_eq, pairsOf_size]
      have : (1000000 : Nat) ≤ sizeLine := by decide
      omega
    by_cases h2 : vs.toArray.size < 2
    · rw [if_pos h2, if_pos h2]
      refine wpAny_bind (wpAny_pure ?_)
      dsimp only
      rw [StateT.run_pure]
      refine wpAny_bind (wpAny_pure ?_)
      (try dsimp only)
      refine wpAny_bind (seqEpoch_at ho6 rfl (wpAny_bind (listUpdate_at ho6 rfl ?_ (by decide) (szl _ (Array.Perm.refl _)))))
      simp only [bne_self_eq_false, Bool.false_eq_true, if_false]
      have e : (((vs.toArray.zip vs.toArray).map (·.2) : Array Value)) = vs.toArray := by
        apply Array.toList_inj.mp
        rw [Array.toList_map, Array.toList_zip]
        exact List.map_snd_zip (Nat.le_refl _)
      refine wpAny_pure ?_
      show P _ { s with heap := sortedHeap s.heap a vs ((vs.toArray.zip vs.toArray).map (·.2)) }
      rw [e]
      refine h vs (List.Perm.refl _) ?_
      match vs, h2 with
      | [], _ => exact List.Pairwise.nil
      | [v], _ => exact List.pairwise_singleton _ _
      | v :: u :: r, h2 => exact absurd h2 (by simp)
    · rw [if_neg h2, if_neg h2]
      refine wpAny_bind (wpAny_mono (hkk (by omega)) (fun r s' e => ?_) fun _ _ e => e)
      obtain ⟨rfl, er⟩ := e
      rw [er]
      have v0 : SV knd D vs.length (SortSt.mk' knd (pairsOf vs) #[] 7 none) := ⟨rfl, rfl, fun x hx => by
        have hx : x ∈ (pairsOf vs).toList := hx
        rw [pairsOf_toList] at hx
        obtain ⟨q1, q2⟩ := mem_zip_self hx
        have : x = (x.1, x.1) := Prod.ext rfl q1.symm
        rw [this]; exact hD _ q2, pairsOf_size vs⟩
      refine wpAny_bind (wpAny_mono (wpS_sortAll (Q := fun _ st' => failedOf st' = none ∧ (arrOf st').Perm (pairsOf vs) ∧ SrtI O key (arrOf st') 0 vs.length) hL v0 rfl (by omega) fun st' f p q => ⟨f, p, q⟩) (fun r s' e => ?_) fun _ _ e => e)
      obtain ⟨⟨⟩, st'⟩ := r
      obtain ⟨rfl, hf, hp, hq⟩ := e
      (try dsimp only)
      refine wpAny_bind (seqEpoch_at ho6 rfl (wpAny_bind (listUpdate_at ho6 rfl ?_ (by decide) (szl _ hp))))
      rw [hf]
      simp only [bne_self_eq_false, Bool.false_eq_true, if_false]
      refine wpAny_pure ?_
      have pl : (arrOf st').toList.Perm (vs.zip vs) := by rw [← pairsOf_toList]; exact Array.perm_iff_toList_perm.mp hp
      have eo : (arrOf st').map (·.2) = ((arrOf st').toList.map (·.2)).toArray := by
        apply Array.toList_inj.mp
        simp
      show P _ { s with heap := sortedHeap s.heap a vs ((arrOf st').map (·.2)) }
      rw [eo]
      refine h _ ?_ ?_
      · have := pl.map (fun p : Keyed => p.2)
        rw [List.map_snd_zip (Nat.le_refl _)] at this
        exact this
      · refine List.pairwise_map.mpr (List.pairwise_iff_getElem.mpr fun i j hi hj hij => ?_)
        have m1 := mem_zip_self (pl.mem_iff.mp (List.getElem_mem hi))
        have m2 := mem_zip_self (pl.mem_iff.mp (List.getElem_mem hj))
        have ls : (arrOf st').toList.length = vs.length := by rw [pl.length_eq]; simp
        have g1 : (arrOf st')[i]? = some ((arrOf st').toList[i]) := by rw [← Array.getElem?_toList]; exact List.getElem?_eq_getElem hi
        have g2 : (arrOf st')[j]? = some ((arrOf st').toList[j]) := by rw [← Array.getElem?_toList]; exact List.getElem?_eq_getElem hj
        have := hq i j (Nat.zero_le _) (by omega) (by omega)
        rw [kx_at g1, kx_at g2] at this
        have e1 : ((arrOf st').toList[i]) = (((arrOf st').toList[i]).2, ((arrOf st').toList[i]).2) := Prod.ext m1.1 rfl
        have e2 : ((arrOf st').toList[j]) = (((arrOf st').toList[j]).2, ((arrOf st').toList[j]).2) := Prod.ext m2.1 rfl
        rw [← e1, ← e2]
        exact this
  all_goals (first | (show _ ≤ sizeLine; simp; have : (1000000 : Nat) ≤ sizeLine := (by decide); omega) | (show _ ≤ sizeLine + 1; simp) | skip)
end
end L2

namespace L2
open PySem PySem.Spec PyProof.Rows
/-! ### sorted(..) -/
section
variable {prog : Program} {w : World} {A : Around} {E : Value → Shared → Prop} {s : Shared}
theorem first_tups : ∀ {vs : List Value}, (∀ v ∈ vs, DT s.heap (v, v)) → wpAny (model prog w) A (vs.mapM firstOfTuple') (fun r s' => s' = s ∧ ∃ (fs : List Value) (ms : List Int), r = fs.map some ∧ IntsAre fs ms ∧ fs.length = vs.length) E s
  | [], _ => by
    rw [List.mapM_nil]
    exact wpAny_pure ⟨rfl, [], [], rfl, .nil, rfl⟩
  | v :: vs, h => by
    rw [List.mapM_cons]
    obtain ⟨a, items, ns, e, t, i, ne⟩ := h v List.mem_cons_self
    have e : v = .ref a := e
    subst e
    obtain ⟨o, ho, hc, n, hd⟩ := id t
    refine wpAny_bind (m := firstOfTuple' (.ref a)) (wpAny_bind (wpAny_typeOf (T := "tuple") ⟨o, ho, hc⟩ ?_))
    rw [if_neg (by decide)]
    refine wpAny_bind (listItems_at ho hd (wpAny_pure ?_))
    refine wpAny_bind (wpAny_mono (first_tups fun u hu => h u (List.mem_cons_of_mem _ hu)) (fun r s' q => ?_) fun _ _ z => z)
    obtain ⟨rfl, fs, ms, rfl, hf, hl⟩ := q
    obtain ⟨l⟩ := items
    cases i with
    | nil => exact absurd rfl ne
    | cons m t' i' => exact wpAny_pure ⟨rfl, _, _, rfl, .cons m t' hf, by rw [List.length_cons, List.length_cons, hl]⟩
theorem kind_tups {vs : List Value} (h2 : 2 ≤ vs.length) (h : ∀ v ∈ vs, DT s.heap (v, v)) : wpAny (model prog w) A (keyKind' vs.toArray) (fun r s' => s' = s ∧ r = tuples' true) E s := by
  rw [keyKind'_eq, List.mapM_toArray]
  simp only [map_eq_pure_bind, bind_assoc, pure_bind]
  refine wpAny_bind (wpAny_mono (first_tups h) (fun r s' q => ?_) fun _ _ z => z)
  obtain ⟨rfl, fs, ms, rfl, hf, hl⟩ := q
  rw [if_pos (by simp)]
  refine wpAny_bind (wpAny_rule ?_)
  have e1 : Array.filterMap id (List.map some fs).toArray = fs.toArray := by
    apply Array.toList_inj.mp
    simp
  rw [e1, oneTypeOnly'_eq, List.mapM_toArray, mapM_typeOf_ints hf]
  simp only [map_pure, pure_bind]
  obtain ⟨f, r, rfl⟩ : ∃ f r, fs = f :: r := by
    cases fs with
    | nil => rw [← hl] at h2; exact absurd h2 (by simp)
    | cons f r => exact ⟨f, r, rfl⟩
  have e2 : (List.map (fun _ => Value.type "int") (f :: r)).toArray[0]? = some (Value.type "int") := by simp
  have e3 : ((List.map (fun _ => Value.type "int") (f :: r)).toArray.all fun x => x == Value.type "int") = true := by
    simp only [List.all_toArray, List.all_map, List.all_eq_true]
    intro _ _
    rfl
  rw [e2]
  simp only [e3, if_true, pure_bind]
  exact wpAny_pure ⟨rfl, by rfl⟩
theorem kind_ints {vs : List Value} {ns : List Int} (h2 : 2 ≤ vs.length) (hI : IntsAre vs ns) : wpAny (model prog w) A (keyKind' vs.toArray) (fun r s' => s' = s ∧ r = oneType') E s := by
  match vs, h2, hI with
  | v :: u :: r, _, hI =>
    rw [keyKind_ints hI]
    exact wpAny_pure ⟨rfl, rfl⟩
/-- the state in which sorted's own list is sorted -/
def ahead (s : Shared) (vs : List Value) : Shared := { s with heap := ((s.heap.push (seqObj "list" #[] 0)).update s.heap.objs.size (Obj.mapSeq (· ++ vs.toArray))).push (seqObj "list" vs.toArray 0) }
theorem ahead_keep {vs : List Value} {b : Addr} {o : Obj} (h : s.heap.get? b = some o) : (ahead s vs).heap.get? b = some o := by
  have hlt : b < s.heap.objs.size := Heap.lt_size h
  show ((((s.heap.push _).update _ _).push _).get? b) = some o
  rw [Heap.get?_push_ne _ _ _ (by rw [Heap.size_update, size_push']; exact Nat.ne_of_lt (Nat.lt_succ_of_lt hlt)), Heap.get?_update_ne _ _ _ _ (Nat.ne_of_lt hlt), Heap.get?_push_ne _ _ _ (Nat.ne_of_lt hlt)]
  exact h
theorem sort_keep {vs : List Value} {b : Addr} {o : Obj} (h : s.heap.get? b = some o) : (inSort (ahead s vs) (s.heap.objs.size + 1) vs).heap.get? b = some o :=
  inSort_keep (ahead_keep h) (Nat.ne_of_lt (Nat.lt_succ_of_lt (Heap.lt_size h)))
theorem dt_keep {h h' : Heap} {x : Keyed} (k : ∀ b o, h.get? b = some o → h'.get? b = some o) (d : DT h x) : DT h' x ∧ keyT h' x = keyT h x := by
  obtain ⟨a, items, ns, e, ⟨o, ho, hc, n, hd⟩, i, ne⟩ := d
  have t' : IsTup h' a items := ⟨o, k _ _ ho, hc, n, hd⟩
  exact ⟨⟨a, items, ns, e, t', i, ne⟩, by rw [keyT_at e t' i, keyT_at e ⟨o, ho, hc, n, hd⟩ i]⟩
theorem sorted_any {O : KeyOrd} {key : Keyed → O.α} {knd : SortKind} {D : Keyed → Prop} {l : Addr} {vs : List Value} {Q : Value → Shared → Prop} (hl : s.heap.IsList l vs.toArray) (hz : vs.length ≤ 1000000)
    (hkk : 2 ≤ vs.length → ∀ A' E', wpAny (model prog w) A' (keyKind' vs.toArray) (fun r s' => s' = inSort (ahead s vs) (s.heap.objs.size + 1) vs ∧ r = knd) E' (inSort (ahead s vs) (s.heap.objs.size + 1) vs))
    (hL : ∀ A' E', LtOk (model prog w) A' E' (inSort (ahead s vs) (s.heap.objs.size + 1) vs) O key knd D) (hD : ∀ v ∈ vs, D (v, v))
    (h : ∀ out : List Value, out.Perm vs → out.Pairwise (fun v u => leK O key (v, v) (u, u)) → Q (.ref (s.heap.objs.size + 1)) { s with heap := sortedAll s.heap vs out.toArray }) : wpAny (model prog w) A (call (.builtin "sorted") [.ref l]) Q E s := by
  have hs : (1000000 : Nat) ≤ sizeLine := by decide
  refine Calls.call_function_entry kind_sorted plain_sorted entry_sorted (args_sorted1 _) ?_
  unfold Builtin.«sorted»
  refine wpAny_bind (m := checkCount "sorted" 1 1 _) (wpAny_pure (wpAny_bind (collect_list hl (wpAny_bind (wpAny_newList ?_ (by omega))) (by omega))))
  have hq : ((s.heap.push (seqObj "list" #[] 0)).update s.heap.objs.size (Obj.mapSeq (· ++ vs.toArray))).objs.size = s.heap.objs.size + 1 := by rw [Heap.size_update, size_push']
  have ho : (ahead s vs).heap.get? (s.heap.objs.size + 1) = some (seqObj "list" vs.toArray 0) := by
    rw [← hq]; exact Heap.get?_push_size _ rfl
  show wpAny _ _ _ _ _ (ahead s vs)
  rw [hq]
  refine wpAny_bind (wpAny_holding (wpAny_call_entry slot_list_sort ⟨_, ho, rfl⟩ entry_list_sort (list_sort_any ho hz (fun h2 => hkk h2 _ _) (hL _ _) hD fun out p q => ⟨_, rfl, ?_⟩) (args_list_sort _)))
  exact wpAny_pure ⟨_, rfl, h out p q⟩
end
/-- the two lists of values go together -/
theorem perm_pair : ∀ {xs : List V} {us ws : List Value}, Vals xs us → ws.Perm us → ∃ ys, ys.Perm xs ∧ Vals ys ws := by
  intro xs us ws r p
  induction p generalizing xs with
  | nil => cases r; exact ⟨[], .nil, .nil⟩
  | cons x _ ih =>
    cases r with
    | cons h t =>
      obtain ⟨ys, p, q⟩ := ih t
      exact ⟨_, .cons _ p, .cons h q⟩
  | swap x y l =>
    cases r with
    | cons h t =>
      cases t with
      | cons h' t' => exact ⟨_, .swap _ _ _, .cons h' (.cons h t')⟩
  | trans _ _ ih1 ih2 =>
    obtain ⟨ys, p1, q1⟩ := ih2 r
    obtain ⟨zs, p2, q2⟩ := ih1 q1
    exact ⟨zs, p2.trans p1, q2⟩
theorem perm_tups {H : Hp} : ∀ {rs ys : List V} {vss : List (List V)}, TupsAt H rs vss → ys.Perm rs → ∃ wss, wss.Perm vss ∧ TupsAt H ys wss := by
  intro rs ys vss r p
  induction p generalizing vss with
  | nil => cases r; exact ⟨[], .nil, .nil⟩
  | cons x _ ih =>
    cases r with
    | cons h t =>
      obtain ⟨ys, p, q⟩ := ih t
      exact ⟨_, .cons _ p, .cons h q⟩
  | swap x y l =>
    cases r with
    | cons h t =>
      cases t with
      | cons h' t' => exact ⟨_, .swap _ _ _, .cons h' (.cons h t')⟩
  | trans _ _ ih1 ih2 =>
    obtain ⟨ys, p1, q1⟩ := ih2 r
    obtain ⟨zs, p2, q2⟩ := ih1 q1
    exact ⟨zs, p2.trans p1, q2⟩
/-- sorted of a list of tuples of numbers -/
theorem call_sortedT {X : Cx} : CallR X (.builtin "sorted") (fun xs H Q => ∃ (p : Addr) (rs : List V) (nss : List (List Int)), xs = [.ref p] ∧ H p = some (.lst rs) ∧ TupsAt H rs (nss.map fun ns => ns.map V.int) ∧ (∀ ns ∈ nss, ns ≠ []) ∧ rs.length ≤ 1000000 ∧
    ∀ (l : Addr) (ys : List V) (mss : List (List Int)), H l = none → mss.Perm nss → TupsAt H ys (mss.map fun ns => ns.map V.int) → mss.Pairwise (fun a b => ¬ b < a) → Q (.ref l) (upd H l (.lst ys))) := by
  intro pins s σ H xs us Q I r h
  obtain ⟨p, rs, nss, rfl, hp, tp, hne, hz, q⟩ := h
  obtain ⟨u, rfl, rx⟩ := vals1 r
  cases rx
  obtain ⟨its, r', pl, _⟩ := I.list (SqL.of (K := X.K) hp)
  have hlen := r'.length
  have tup : ∀ (a : Addr) (ns : List Int), H a = some (.tup (ns.map V.int)) → ∃ items : Array Value, IsTup s.heap a items ∧ IntsAre items.toList ns := fun a ns e => by
    obtain ⟨it2, r2, p2, _⟩ := I.tuple (SqT.of (K := X.K) e)
    exact ⟨it2.toArray, p2, intsAre_of r2⟩
  have dt : ∀ (zs : List V) (ws : List Value) (mss : List (List Int)), Vals zs ws → TupsAt H zs (mss.map fun ns => ns.map V.int) → (∀ ns ∈ mss, ns ≠ []) → ∀ (j : Nat) (v : Value), ws[j]? = some v → ∃ ns, mss[j]? = some ns ∧ DT s.heap (v, v) ∧ keyT s.heap (v, v) = ns := fun zs ws mss rv tv hn j v hv => by
    have hj : j < zs.length := by rw [rv.length]; exact (List.getElem?_eq_some_iff.mp hv).1
    have g : zs[j]? = some zs[j] := List.getElem?_eq_getElem hj
    obtain ⟨a, vs, e1, e2, e3⟩ := tv.get g
    rw [List.getElem?_map] at e3
    cases em : mss[j]? with
    | none => rw [em] at e3; cases e3
    | some ns =>
      rw [em] at e3
      cases e3
      obtain ⟨u', hu', ru'⟩ := rv.get g
      rw [hv] at hu'
      cases hu'
      rw [e1] at ru'
      cases ru'
      obtain ⟨items, ti, ii⟩ := tup a ns e2
      exact ⟨ns, rfl, ⟨a, items, ns, rfl, ti, ii, hn ns (List.mem_of_getElem? em)⟩, keyT_at rfl ti ii⟩
  have all : ∀ v ∈ its, DT s.heap (v, v) := fun v hv => by
    obtain ⟨j, hj⟩ := List.getElem?_of_mem hv
    obtain ⟨ns, _, d, _⟩ := dt rs its nss r' tp hne j v hj
    exact d
  have keep : ∀ b o, s.heap.get? b = some o → (inSort (ahead s its) (s.heap.objs.size + 1) its).heap.get? b = some o := fun b o e => sort_keep e
  refine sorted_any (O := ordL) (key := keyT (inSort (ahead s its) (s.heap.objs.size + 1) its).heap) (knd := tuples' true) (D := DT (inSort (ahead s its) (s.heap.objs.size + 1) its).heap) pl.isList (by omega) (fun h2 A' E' => kind_tups h2 fun v hv => (dt_keep keep (all v hv)).1) (fun A' E' => lt_tups) (fun v hv => (dt_keep keep (all v hv)).1) fun out po so => ?_
  obtain ⟨ys, py, ry⟩ := perm_pair r' po
  obtain ⟨wss, pw, tw⟩ := perm_tups tp py
  obtain ⟨mss, pm, rfl⟩ : ∃ mss : List (List Int), mss.Perm nss ∧ wss = mss.map fun ns => ns.map V.int := by
    obtain ⟨mss, e⟩ : ∃ mss : List (List Int), wss = mss.map fun ns => ns.map V.int := by
      have : ∀ x ∈ wss, ∃ ns : List Int, x = ns.map V.int := fun x hx => by
        obtain ⟨ns, _, e⟩ := List.mem_map.mp (pw.mem_iff.mp hx)
        exact ⟨ns, e.symm⟩
      clear pw tw
      induction wss with
      | nil => exact ⟨[], rfl⟩
      | cons x r ih =>
        obtain ⟨ns, e1⟩ := this x List.mem_cons_self
        obtain ⟨mss, e2⟩ := ih fun y hy => this y (List.mem_cons_of_mem _ hy)
        exact ⟨ns :: mss, by rw [List.map_cons, ← e1, ← e2]⟩
    refine ⟨mss, ?_, e⟩
    rw [e] at pw
    have := pw.map (fun x : List V => x.map fun v => match v with | V.int n => n | _ => 0)
    simpa [List.map_map, Function.comp_def] using this
  obtain ⟨e', he'⟩ := sortedAll_at s.heap its out.toArray
  have ln : ys.length ≤ sizeLine := by
    have := py.length_eq
    have : (1000000 : Nat) ≤ sizeLine := by decide
    omega
  refine ⟨.ref (s.heap.objs.size + 1), _, I.laid (t' := s.toks) (fun b o e => sortedAll_old e) (Nat.le_succ _) (show ObjOk X.prog X.w _ _ _ (.lst ys) from ⟨ln, out, e', ry, he'⟩), rfl, q _ ys mss (I.hok.fresh (Nat.le_succ _)) pm tw ?_⟩
  refine List.pairwise_iff_getElem.mpr fun i j hi hj hij => ?_
  have ly : out.length = mss.length := by rw [← ry.length, tw.len, List.length_map]
  have hne' : ∀ ns ∈ mss, ns ≠ [] := fun ns hn => hne ns (pm.mem_iff.mp hn)
  obtain ⟨n1, a1, a2, a3⟩ := dt ys out mss ry tw hne' i out[i] (List.getElem?_eq_getElem (by omega))
  obtain ⟨n2, b1, b2, b3⟩ := dt ys out mss ry tw hne' j out[j] (List.getElem?_eq_getElem (by omega))
  have := List.pairwise_iff_getElem.mp so i j (by omega) (by omega) hij
  have this : decide (keyT (inSort (ahead s its) (s.heap.objs.size + 1) its).heap (out[j], out[j]) < keyT (inSort (ahead s its) (s.heap.objs.size + 1) its).heap (out[i], out[i])) = false := this
  rw [(dt_keep keep a2).2, (dt_keep keep b2).2, a3, b3] at this
  rw [List.getElem?_eq_getElem hi] at a1
  rw [List.getElem?_eq_getElem hj] at b1
  cases a1
  cases b1
  exact of_decide_eq_false this
end L2

namespace RW
/-! ### begins and ends in their order -/
structure Chg where
  h : Int
  b : Bool
  p : Nat
def Chg.lt (c d : Chg) : Prop := c.h < d.h ∨ (c.h = d.h ∧ (c.b = true → d.b = true))
def begOf (ws : List (Int × Int)) (k : Nat) : Chg := ⟨(ws.getD k (0, 0)).1, true, k⟩
def endOf (ws : List (Int × Int)) (k : Nat) : Chg := ⟨(ws.getD k (0, 0)).2, false, k⟩
/-- the changes of the wishes, in order -/
structure Swp (ws : List (Int × Int)) (L : List Chg) : Prop where
  perm : L.Perm ((List.range ws.length).map (begOf ws) ++ (List.range ws.length).map (endOf ws))
  ord : L.Pairwise Chg.lt
  pos : ∀ x ∈ ws, x.1 < x.2
def cnt (L : List Chg) : Int := (L.countP (·.b) : Int) - (L.countP (fun c => !c.b) : Int)
theorem cnt_snoc (L : List Chg) (c : Chg) : cnt (L ++ [c]) = cnt L + if c.b then 1 else -1 := by
  unfold cnt
  rw [List.countP_append, List.countP_append]
  cases h : c.b <;> simp [h] <;> omega
theorem countP_split {α : Type} (l : List α) (p q : α → Bool) (hq : ∀ x ∈ l, q x = true → p x = true) : l.countP p = l.countP (fun x => p x && !q x) + l.countP q := by
  induction l with
  | nil => rfl
  | cons a l ih =>
    have ih := ih fun x hx => hq x (List.mem_cons_of_mem _ hx)
    have ha := hq a List.mem_cons_self
    rw [List.countP_cons, List.countP_cons, List.countP_cons, ih]
    cases h1 : p a <;> cases h2 : q a <;> simp_all <;> omega
theorem getD_range {ws : List (Int × Int)} {k : Nat} (h : k ∈ List.range ws.length) : ws[k]? = some (ws.getD k (0, 0)) := by
  have := List.mem_range.mp h
  rw [List.getD_eq_getElem?_getD, List.getElem?_eq_getElem this]; rfl
namespace Swp
variable {ws : List (Int × Int)} {L : List Chg}
theorem starts (s : Swp ws L) (h : Int) : L.countP (fun c => c.b && decide (c.h ≤ h)) = (List.range ws.length).countP (fun k => decide ((ws.getD k (0, 0)).1 ≤ h)) := by
  rw [s.perm.countP_eq, List.countP_append, List.countP_map, List.countP_map]
  have e : List.countP ((fun c : Chg => c.b && decide (c.h ≤ h)) ∘ endOf ws) (List.range ws.length) = 0 := List.countP_eq_zero.mpr fun k _ => by simp [endOf]
  rw [e, Nat.add_zero]
  refine List.countP_congr fun k _ => ?_
  simp [begOf]
theorem stops (s : Swp ws L) (h : Int) : L.countP (fun c => !c.b && decide (c.h ≤ h)) = (List.range ws.length).countP (fun k => decide ((ws.getD k (0, 0)).2 ≤ h)) := by
  rw [s.perm.countP_eq, List.countP_append, List.countP_map, List.countP_map]
  have e : List.countP ((fun c : Chg => !c.b && decide (c.h ≤ h)) ∘ begOf ws) (List.range ws.length) = 0 := List.countP_eq_zero.mpr fun k _ => by simp [begOf]
  rw [e, Nat.zero_add]
  refine List.countP_congr fun k _ => ?_
  simp [endOf]
/-- how many wishes are for an hour -/
theorem at_hour (s : Swp ws L) (h : Int) : ((cntN ws ws.length h : Nat) : Int) = (L.countP (fun c => c.b && decide (c.h ≤ h)) : Int) - (L.countP (fun c => !c.b && decide (c.h ≤ h)) : Int) := by
  rw [s.starts, s.stops]
  have key := countP_split (List.range ws.length) (fun k => decide ((ws.getD k (0, 0)).1 ≤ h)) (fun k => decide ((ws.getD k (0, 0)).2 ≤ h)) fun k hk e => by
    have := s.pos _ (List.mem_of_getElem? (getD_range hk))
    have := of_decide_eq_true e
    exact decide_eq_true (by omega)
  have e : cntN ws ws.length h = (List.range ws.length).countP (fun k => decide ((ws.getD k (0, 0)).1 ≤ h) && !decide ((ws.getD k (0, 0)).2 ≤ h)) := by
    unfold cntN placesN
    rw [← List.countP_eq_length_filter]
    refine List.countP_congr fun k hk => ?_
    unfold atW
    rw [getD_range hk]
    unfold inW
    simp only [Bool.and_eq_true, decide_eq_true_eq, Bool.not_eq_true', decide_eq_false_iff_not]
    omega
  rw [e]
  omega
/-- behind a begin, no more are going than its hour has -/
theorem le_hour (s : Swp ws L) {i : Nat} {c : Chg} (hi : L[i]? = some c) (hb : c.b = true) : cnt (L.take (i + 1)) ≤ (cntN ws ws.length c.h : Nat) := by
  rw [s.at_hour]
  unfold cnt
  have sp : L = L.take i ++ c :: L.drop (i + 1) := by
    have h1 := (List.getElem?_eq_some_iff.mp hi)
    obtain ⟨h, e⟩ := h1
    rw [← e]
    rw [← List.drop_eq_getElem_cons h, List.take_append_drop]
  have o := s.ord
  rw [sp, List.pairwise_append] at o
  obtain ⟨_, o2, o3⟩ := o
  rw [List.pairwise_cons] at o2
  have tk : L.take (i + 1) = L.take i ++ [c] := by rw [List.take_add_one, hi]; rfl
  have h1 : (L.take (i + 1)).countP (·.b) ≤ L.countP (fun c' => c'.b && decide (c'.h ≤ c.h)) := by
    have : (L.take (i + 1)).countP (·.b) = (L.take (i + 1)).countP (fun c' => c'.b && decide (c'.h ≤ c.h)) := by
      refine List.countP_congr fun d hd => ?_
      have : d.h ≤ c.h := by
        rw [tk] at hd
        rcases List.mem_append.mp hd with hd | hd
        · have := o3 d hd c List.mem_cons_self
          unfold Chg.lt at this
          omega
        · rw [List.mem_singleton.mp hd]; exact Int.le_refl _
      simp [this]
    rw [this]
    exact (List.take_sublist _ _).countP_le
  have h2 : L.countP (fun c' => !c'.b && decide (c'.h ≤ c.h)) ≤ (L.take (i + 1)).countP (fun c => !c.b) := by
    have e : L.countP (fun c' => !c'.b && decide (c'.h ≤ c.h)) = (L.take (i + 1)).countP (fun c' => !c'.b && decide (c'.h ≤ c.h)) + (L.drop (i + 1)).countP (fun c' => !c'.b && decide (c'.h ≤ c.h)) := by
      rw [← List.countP_append, List.take_append_drop]
    have z : (L.drop (i + 1)).countP (fun c' => !c'.b && decide (c'.h ≤ c.h)) = 0 := List.countP_eq_zero.mpr fun d hd => by
      have := o2.1 d hd
      unfold Chg.lt at this
      rcases this with this | ⟨h1, h2⟩
      · simp; intro _; omega
      · simp [h2 hb]
    rw [e, z, Nat.add_zero]
    exact List.countP_mono_left fun d _ h => by
      simp only [Bool.and_eq_true] at h
      exact h.1
  omega
theorem cut : ∀ {L : List Chg}, L.Pairwise Chg.lt → ∀ h : Int, ∃ k, k ≤ L.length ∧ (∀ c ∈ L.take k, c.h ≤ h) ∧ ∀ c ∈ L.drop k, h < c.h
  | [], _, h => ⟨0, Nat.le_refl _, by simp, by simp⟩
  | c :: L, o, h => by
    rw [List.pairwise_cons] at o
    by_cases z : c.h ≤ h
    · obtain ⟨k, h1, h2, h3⟩ := cut o.2 h
      refine ⟨k + 1, Nat.succ_le_succ h1, fun d hd => ?_, fun d hd => h3 d hd⟩
      rw [List.take_succ_cons] at hd
      rcases List.mem_cons.mp hd with rfl | hd
      · exact z
      · exact h2 d hd
    · refine ⟨0, Nat.zero_le _, by simp, fun d hd => ?_⟩
      rw [List.drop_zero] at hd
      rcases List.mem_cons.mp hd with rfl | hd
      · omega
      · have := o.1 d hd
        unfold Chg.lt at this
        omega
/-- some prefix has just the wishes of an hour going -/
theorem hour_cut (s : Swp ws L) (h : Int) : ∃ k, k ≤ L.length ∧ cnt (L.take k) = (cntN ws ws.length h : Nat) := by
  obtain ⟨k, h1, h2, h3⟩ := cut s.ord h
  refine ⟨k, h1, ?_⟩
  rw [s.at_hour]
  unfold cnt
  have part : ∀ f : Chg → Bool, L.countP (fun c => f c && decide (c.h ≤ h)) = (L.take k).countP f := fun f => by
    have e : L.countP (fun c => f c && decide (c.h ≤ h)) = (L.take k).countP (fun c => f c && decide (c.h ≤ h)) + (L.drop k).countP (fun c => f c && decide (c.h ≤ h)) := by
      rw [← List.countP_append, List.take_append_drop]
    have z : (L.drop k).countP (fun c => f c && decide (c.h ≤ h)) = 0 := List.countP_eq_zero.mpr fun d hd => by
      have := h3 d hd
      simp; intro _; omega
    rw [e, z, Nat.add_zero]
    refine List.countP_congr fun d hd => ?_
    have := h2 d hd
    simp [this]
  rw [part (·.b), part (fun c => !c.b)]
end Swp
end RW

namespace RW
/-! ### rooms taken and given back -/
structure Sh where
  rooms : List Int
  idle : List Int
  known : Int
def Sh.step (s : Sh) (c : Chg) : Sh :=
  if c.b then (match s.idle.getLast? with
    | some r => ⟨s.rooms.set c.p r, s.idle.dropLast, s.known⟩
    | none => ⟨s.rooms.set c.p s.known, s.idle, s.known + 1⟩)
  else ⟨s.rooms, s.idle ++ [s.rooms.getD c.p 0], s.known⟩
def Begun (T : List Chg) (p : Nat) : Prop := ∃ c ∈ T, c.b = true ∧ c.p = p
def Over (T : List Chg) (p : Nat) : Prop := ∃ c ∈ T, c.b = false ∧ c.p = p
/-- the wishes at p and q have an hour in common -/
def Share (ws : List (Int × Int)) (p q : Nat) : Prop := ∃ h : Int, ((ws.getD p (0, 0)).1 ≤ h ∧ h < (ws.getD p (0, 0)).2) ∧ (ws.getD q (0, 0)).1 ≤ h ∧ h < (ws.getD q (0, 0)).2
structure ShOk (ws : List (Int × Int)) (L : List Chg) (i : Nat) (s : Sh) : Prop where
  len : s.rooms.length = ws.length
  pos : 0 ≤ s.known
  idle : ∀ r ∈ s.idle, 0 ≤ r ∧ r < s.known
  lt : ∀ p, Begun (L.take i) p → 0 ≤ s.rooms.getD p 0 ∧ s.rooms.getD p 0 < s.known
  nd : s.idle.Nodup
  d1 : ∀ p, Begun (L.take i) p → ¬ Over (L.take i) p → s.rooms.getD p 0 ∉ s.idle
  d2 : ∀ p q, p ≠ q → Begun (L.take i) p → ¬ Over (L.take i) p → Begun (L.take i) q → ¬ Over (L.take i) q → s.rooms.getD p 0 ≠ s.rooms.getD q 0
  used : ∀ r, 0 ≤ r → r < s.known → ∃ p, Begun (L.take i) p ∧ s.rooms.getD p 0 = r
  apart : ∀ p q, p ≠ q → Begun (L.take i) p → Begun (L.take i) q → Share ws p q → s.rooms.getD p 0 ≠ s.rooms.getD q 0
  num : cnt (L.take i) + (s.idle.length : Int) = s.known
  all : ∀ j, j ≤ i → cnt (L.take j) ≤ s.known
  top : s.known = 0 ∨ ∃ h, s.known ≤ (cntN ws ws.length h : Nat)
namespace Swp
variable {ws : List (Int × Int)} {L : List Chg}
theorem mem (s : Swp ws L) {c : Chg} (h : c ∈ L) : c.p < ws.length ∧ c = if c.b then begOf ws c.p else endOf ws c.p := by
  have := s.perm.mem_iff.mp h
  rcases List.mem_append.mp this with z | z
  · obtain ⟨k, hk, rfl⟩ := List.mem_map.mp z
    exact ⟨List.mem_range.mp hk, rfl⟩
  · obtain ⟨k, hk, rfl⟩ := List.mem_map.mp z
    exact ⟨List.mem_range.mp hk, rfl⟩
theorem mem_beg (s : Swp ws L) {p : Nat} (h : p < ws.length) : begOf ws p ∈ L := s.perm.mem_iff.mpr (List.mem_append_left _ (List.mem_map.mpr ⟨p, List.mem_range.mpr h, rfl⟩))
theorem mem_end (s : Swp ws L) {p : Nat} (h : p < ws.length) : endOf ws p ∈ L := s.perm.mem_iff.mpr (List.mem_append_right _ (List.mem_map.mpr ⟨p, List.mem_range.mpr h, rfl⟩))
theorem nodup (s : Swp ws L) : L.Nodup := by
  refine s.perm.nodup_iff.mpr (List.nodup_append.mpr ⟨?_, ?_, ?_⟩)
  · refine List.pairwise_map.mpr (List.nodup_range.imp fun h e => h ?_)
    have := congrArg Chg.p e
    exact this
  · refine List.pairwise_map.mpr (List.nodup_range.imp fun h e => h ?_)
    have := congrArg Chg.p e
    exact this
  · intro a ha b hb e
    obtain ⟨k, _, rfl⟩ := List.mem_map.mp ha
    obtain ⟨j, _, rfl⟩ := List.mem_map.mp hb
    have := congrArg Chg.b e
    cases this
theorem split {i : Nat} {c : Chg} (hi : L[i]? = some c) : L = L.take i ++ c :: L.drop (i + 1) := by
  obtain ⟨h, e⟩ := List.getElem?_eq_some_iff.mp hi
  rw [← e, ← List.drop_eq_getElem_cons h, List.take_append_drop]
theorem ahead (s : Swp ws L) {i : Nat} {c d : Chg} (hi : L[i]? = some c) (hd : d ∈ L.take i) : Chg.lt d c := by
  have o := s.ord
  rw [split hi, List.pairwise_append] at o
  exact o.2.2 d hd c List.mem_cons_self
theorem behind (s : Swp ws L) {i : Nat} {c d : Chg} (hi : L[i]? = some c) (hd : d ∈ L.drop (i + 1)) : Chg.lt c d := by
  have o := s.ord
  rw [split hi, List.pairwise_append, List.pairwise_cons] at o
  exact o.2.1.1 d hd
theorem new (s : Swp ws L) {i : Nat} {c : Chg} (hi : L[i]? = some c) : c ∉ L.take i := by
  have o := s.nodup
  rw [split hi] at o
  exact fun h => (List.nodup_append.mp o).2.2 c h c List.mem_cons_self rfl
theorem posD (s : Swp ws L) {p : Nat} (h : p < ws.length) : (ws.getD p (0, 0)).1 < (ws.getD p (0, 0)).2 := s.pos _ (List.mem_of_getElem? (getD_range (List.mem_range.mpr h)))
theorem begun_beg (s : Swp ws L) {i p : Nat} (h : Begun (L.take i) p) : p < ws.length ∧ begOf ws p ∈ L.take i := by
  obtain ⟨c, hc, hb, rfl⟩ := h
  obtain ⟨h1, h2⟩ := s.mem (List.mem_of_mem_take hc)
  rw [hb] at h2
  have h2 : c = begOf ws c.p := h2
  exact ⟨h1, h2 ▸ hc⟩
theorem over_end (s : Swp ws L) {i p : Nat} (h : Over (L.take i) p) : p < ws.length ∧ endOf ws p ∈ L.take i := by
  obtain ⟨c, hc, hb, rfl⟩ := h
  obtain ⟨h1, h2⟩ := s.mem (List.mem_of_mem_take hc)
  rw [hb] at h2
  have h2 : c = endOf ws c.p := h2
  exact ⟨h1, h2 ▸ hc⟩
/-- at a begin -/
theorem at_beg (s : Swp ws L) {i : Nat} {c : Chg} (hi : L[i]? = some c) (hb : c.b = true) : c.p < ws.length ∧ c = begOf ws c.p ∧ ¬ Begun (L.take i) c.p ∧ ¬ Over (L.take i) c.p := by
  obtain ⟨h1, h2⟩ := s.mem (List.mem_of_getElem? hi)
  rw [hb] at h2
  have h2 : c = begOf ws c.p := h2
  refine ⟨h1, h2, fun z => ?_, fun z => ?_⟩
  · exact s.new hi (h2 ▸ (s.begun_beg z).2)
  · have := s.ahead hi (s.over_end z).2
    have p := s.posD h1
    rw [h2] at this
    unfold Chg.lt begOf endOf at this
    simp only at this
    omega
theorem at_end (s : Swp ws L) {i : Nat} {c : Chg} (hi : L[i]? = some c) (hb : c.b = false) : c.p < ws.length ∧ c = endOf ws c.p ∧ Begun (L.take i) c.p ∧ ¬ Over (L.take i) c.p := by
  obtain ⟨h1, h2⟩ := s.mem (List.mem_of_getElem? hi)
  rw [hb] at h2
  have h2 : c = endOf ws c.p := h2
  refine ⟨h1, h2, ?_, fun z => ?_⟩
  · have m := s.mem_beg h1
    rw [split hi] at m
    rcases List.mem_append.mp m with m | m
    · exact ⟨_, m, rfl, rfl⟩
    · rcases List.mem_cons.mp m with m | m
      · have := congrArg Chg.b m
        rw [hb] at this
        cases this
      · have := s.behind hi m
        have p := s.posD h1
        rw [h2] at this
        unfold Chg.lt begOf endOf at this
        simp only at this
        omega
  · exact s.new hi (h2 ▸ (s.over_end z).2)
theorem over_apart (s : Swp ws L) {i : Nat} {c : Chg} (hi : L[i]? = some c) (hb : c.b = true) {p : Nat} (ho : Over (L.take i) p) : ¬ Share ws p c.p ∧ ¬ Share ws c.p p := by
  have := s.ahead hi (s.over_end ho).2
  obtain ⟨_, h2, _⟩ := s.at_beg hi hb
  rw [h2] at this
  unfold Chg.lt begOf endOf at this
  simp only at this
  constructor
  · rintro ⟨h, h3, h4⟩; omega
  · rintro ⟨h, h3, h4⟩; omega
end Swp
theorem begun_snoc {T : List Chg} {c : Chg} {p : Nat} : Begun (T ++ [c]) p ↔ Begun T p ∨ (c.b = true ∧ c.p = p) := by
  unfold Begun
  constructor
  · rintro ⟨d, hd, h⟩
    rcases List.mem_append.mp hd with z | z
    · exact .inl ⟨d, z, h⟩
    · rw [List.mem_singleton.mp z] at h; exact .inr h
  · rintro (⟨d, hd, h⟩ | h)
    · exact ⟨d, List.mem_append_left _ hd, h⟩
    · exact ⟨c, List.mem_append_right _ List.mem_cons_self, h⟩
theorem over_snoc {T : List Chg} {c : Chg} {p : Nat} : Over (T ++ [c]) p ↔ Over T p ∨ (c.b = false ∧ c.p = p) := by
  unfold Over
  constructor
  · rintro ⟨d, hd, h⟩
    rcases List.mem_append.mp hd with z | z
    · exact .inl ⟨d, z, h⟩
    · rw [List.mem_singleton.mp z] at h; exact .inr h
  · rintro (⟨d, hd, h⟩ | h)
    · exact ⟨d, List.mem_append_left _ hd, h⟩
    · exact ⟨c, List.mem_append_right _ List.mem_cons_self, h⟩
theorem getD_set {l : List Int} {i j : Nat} {v : Int} (h : i < l.length) : (l.set i v).getD j 0 = if j = i then v else l.getD j 0 := by
  rw [List.getD_eq_getElem?_getD, List.getD_eq_getElem?_getD, List.getElem?_set]
  by_cases e : i = j
  · subst e; simp [h]
  · rw [if_neg e, if_neg (fun z => e z.symm)]
theorem ShOk.start {ws : List (Int × Int)} {L : List Chg} (rooms : List Int) (h : rooms.length = ws.length) : ShOk ws L 0 ⟨rooms, [], 0⟩ := by
  have nb : ∀ p, ¬ Begun (L.take 0) p := fun p ⟨c, hc, _⟩ => by rw [List.take_zero] at hc; cases hc
  refine ⟨h, Int.le_refl _, by simp, fun p hp => absurd hp (nb p), List.nodup_nil, fun p hp => absurd hp (nb p), fun p q _ hp => absurd hp (nb p), fun r h0 h1 => ?_, fun p q _ hp => absurd hp (nb p), by rw [List.take_zero]; rfl, fun j hj => ?_, .inl rfl⟩
  · exact absurd (show r < 0 from h1) (by omega)
  · rw [Nat.le_zero.mp hj, List.take_zero]; exact Int.le_refl _
/-- the room r for the begin c -/
theorem ShOk.take {ws : List (Int × Int)} {L : List Chg} (sw : Swp ws L) {i : Nat} {s : Sh} {c : Chg} (o : ShOk ws L i s) (hi : L[i]? = some c) (hb : c.b = true) (r known : Int) (idle : List Int)
    (hk : s.known ≤ known) (h0 : 0 ≤ r ∧ r < known) (hi0 : ∀ x ∈ idle, x ∈ s.idle ∧ x ≠ r) (hnd : idle.Nodup) (hop : ∀ p, Begun (L.take i) p → ¬ Over (L.take i) p → s.rooms.getD p 0 ≠ r)
    (hu : ∀ x, 0 ≤ x → x < known → x = r ∨ x < s.known) (hold : s.known ≤ r ∨ r ∈ s.idle) (hn : cnt (L.take i) + 1 + (idle.length : Int) = known) (ht : known = 0 ∨ ∃ h, known ≤ (cntN ws ws.length h : Nat)) (hidle : ∀ x ∈ s.idle, x = r ∨ x ∈ idle) : ShOk ws L (i + 1) ⟨s.rooms.set c.p r, idle, known⟩ := by
  obtain ⟨hp, hc, nb, no⟩ := sw.at_beg hi hb
  have tk : L.take (i + 1) = L.take i ++ [c] := by rw [List.take_add_one, hi]; rfl
  have gd : ∀ j, (s.rooms.set c.p r).getD j 0 = if j = c.p then r else s.rooms.getD j 0 := fun j => getD_set (by rw [o.len]; exact hp)
  have bg : ∀ p, Begun (L.take (i + 1)) p → p = c.p ∨ (p ≠ c.p ∧ Begun (L.take i) p) := fun p h => by
    rw [tk] at h
    rcases begun_snoc.mp h with z | z
    · exact .inr ⟨fun e => nb (e ▸ z), z⟩
    · exact .inl z.2.symm
  have ov : ∀ p, ¬ Over (L.take (i + 1)) p → ¬ Over (L.take i) p := fun p h z => h (by rw [tk]; exact over_snoc.mpr (.inl z))
  have ov' : ∀ p, Over (L.take (i + 1)) p → Over (L.take i) p := fun p h => by
    rw [tk] at h
    rcases over_snoc.mp h with z | z
    · exact z
    · rw [hb] at z; cases z.1
  have cn : cnt (L.take (i + 1)) = cnt (L.take i) + 1 := by rw [tk, cnt_snoc, hb]; rfl
  refine ⟨by show (s.rooms.set c.p r).length = _; rw [List.length_set]; exact o.len, by show 0 ≤ known; omega, fun x hx => ?_, fun p h => ?_, hnd, fun p h1 h2 => ?_, fun p q ne h1 h2 h3 h4 => ?_, fun x h1 h2 => ?_, fun p q ne h1 h2 sh => ?_, ?_, fun j hj => ?_, ht⟩
  · have := o.idle x (hi0 x hx).1
    show 0 ≤ x ∧ x < known
    omega
  · show 0 ≤ (s.rooms.set c.p r).getD p 0 ∧ (s.rooms.set c.p r).getD p 0 < known
    rw [gd]
    rcases bg p h with z | ⟨z, z'⟩
    · rw [if_pos z]; exact h0
    · rw [if_neg z]
      have := o.lt p z'
      omega
  · show (s.rooms.set c.p r).getD p 0 ∉ idle
    rw [gd]
    rcases bg p h1 with z | ⟨z, z'⟩
    · rw [if_pos z]; exact fun y => (hi0 r y).2 rfl
    · rw [if_neg z]; exact fun y => o.d1 p z' (ov p h2) (hi0 _ y).1
  · show (s.rooms.set c.p r).getD p 0 ≠ (s.rooms.set c.p r).getD q 0
    rw [gd, gd]
    rcases bg p h1 with z | ⟨z, z'⟩
    · rw [if_pos z]
      rcases bg q h3 with y | ⟨y, y'⟩
      · exact absurd (z.trans y.symm) ne
      · rw [if_neg y]; exact fun e => hop q y' (ov q h4) e.symm
    · rw [if_neg z]
      rcases bg q h3 with y | ⟨y, y'⟩
      · rw [if_pos y]; exact hop p z' (ov p h2)
      · rw [if_neg y]; exact o.d2 p q ne z' (ov p h2) y' (ov q h4)
  · have h2 : x < known := h2
    rcases hu x h1 h2 with e | e
    · refine ⟨c.p, ?_, ?_⟩
      · rw [tk]; exact begun_snoc.mpr (.inr ⟨hb, rfl⟩)
      · show (s.rooms.set c.p r).getD c.p 0 = x
        rw [gd, if_pos rfl, e]
    · obtain ⟨p, h3, h4⟩ := o.used x h1 e
      refine ⟨p, by rw [tk]; exact begun_snoc.mpr (.inl h3), ?_⟩
      show (s.rooms.set c.p r).getD p 0 = x
      rw [gd, if_neg (fun z : p = c.p => nb (z ▸ h3)), h4]
  · show (s.rooms.set c.p r).getD p 0 ≠ (s.rooms.set c.p r).getD q 0
    rw [gd, gd]
    rcases bg p h1 with z | ⟨z, z'⟩
    · rw [if_pos z]
      rcases bg q h2 with y | ⟨y, y'⟩
      · exact absurd (z.trans y.symm) ne
      · rw [if_neg y]
        by_cases w : Over (L.take i) q
        · exact absurd (z ▸ sh) (sw.over_apart hi hb w).2
        · exact fun e => hop q y' w e.symm
    · rw [if_neg z]
      rcases bg q h2 with y | ⟨y, y'⟩
      · rw [if_pos y]
        by_cases w : Over (L.take i) p
        · exact absurd (y ▸ sh) (sw.over_apart hi hb w).1
        · exact hop p z' w
      · rw [if_neg y]; exact o.apart p q ne z' y' sh
  · show cnt (L.take (i + 1)) + (idle.length : Int) = known
    rw [cn]; omega
  · show cnt (L.take j) ≤ known
    by_cases z : j ≤ i
    · have := o.all j z; omega
    · rw [show j = i + 1 by omega, cn]
      omega
theorem ShOk.step {ws : List (Int × Int)} {L : List Chg} (sw : Swp ws L) {i : Nat} {s : Sh} {c : Chg} (o : ShOk ws L i s) (hi : L[i]? = some c) : ShOk ws L (i + 1) (s.step c) := by
  have tk : L.take (i + 1) = L.take i ++ [c] := by rw [List.take_add_one, hi]; rfl
  unfold Sh.step
  cases hb : c.b with
  | true =>
    rw [if_pos rfl]
    have cn : cnt (L.take (i + 1)) = cnt (L.take i) + 1 := by rw [tk, cnt_snoc, hb]; rfl
    have le := sw.le_hour hi hb
    have num := o.num
    cases hl : s.idle.getLast? with
    | some r =>
      dsimp only
      have ne : s.idle ≠ [] := fun e => by rw [e] at hl; cases hl
      have hr : s.idle.getLast ne = r := by rw [List.getLast?_eq_some_getLast ne] at hl; exact Option.some.inj hl
      have sp : s.idle = s.idle.dropLast ++ [r] := by rw [← hr]; exact (List.dropLast_concat_getLast ne).symm
      have nd := o.nd
      rw [sp] at nd
      have nd' := List.nodup_append.mp nd
      have hm : r ∈ s.idle := by rw [sp]; simp
      have ln : (s.idle.length : Int) = (s.idle.dropLast.length : Int) + 1 := by
        have := congrArg List.length sp
        rw [List.length_append] at this
        simp only [List.length_cons, List.length_nil] at this
        omega
      refine o.take sw hi hb r s.known s.idle.dropLast (Int.le_refl _) (o.idle r hm) (fun x hx => ⟨by rw [sp]; exact List.mem_append_left _ hx, fun e => nd'.2.2 x hx r (by simp) e⟩) nd'.1 (fun p h1 h2 e => o.d1 p h1 h2 (e ▸ hm)) (fun x _ h => .inr h) (.inr hm) (by omega) o.top fun x hx => ?_
      rw [sp] at hx
      rcases List.mem_append.mp hx with z | z
      · exact .inr z
      · exact .inl (List.mem_singleton.mp z)
    | none =>
      dsimp only
      have e : s.idle = [] := List.getLast?_eq_none_iff.mp hl
      rw [e] at num
      simp only [List.length_nil] at num
      have pos := o.pos
      refine o.take sw hi hb s.known (s.known + 1) s.idle (by omega) (by omega) (fun x hx => by rw [e] at hx; cases hx) o.nd (fun p h1 _ e => by have := (o.lt p h1).2; omega) (fun x _ h => by omega) (.inl (Int.le_refl _)) (by rw [e]; simp only [List.length_nil]; omega) (.inr ⟨c.h, by omega⟩) (fun x hx => by rw [e] at hx; cases hx)
  | false =>
    rw [if_neg Bool.false_ne_true]
    obtain ⟨hp, hc, bg, no⟩ := sw.at_end hi hb
    have cn : cnt (L.take (i + 1)) = cnt (L.take i) - 1 := by rw [tk, cnt_snoc, hb]; rfl
    have bg' : ∀ p, Begun (L.take (i + 1)) p → Begun (L.take i) p := fun p h => by
      rw [tk] at h
      rcases begun_snoc.mp h with z | z
      · exact z
      · rw [hb] at z; cases z.1
    have ov : ∀ p, ¬ Over (L.take (i + 1)) p → ¬ Over (L.take i) p ∧ p ≠ c.p := fun p h => ⟨fun z => h (by rw [tk]; exact over_snoc.mpr (.inl z)), fun z => h (by rw [tk]; exact over_snoc.mpr (.inr ⟨hb, z.symm⟩))⟩
    refine ⟨o.len, o.pos, fun x hx => ?_, fun p h => o.lt p (bg' p h), ?_, fun p h1 h2 => ?_, fun p q ne h1 h2 h3 h4 => o.d2 p q ne (bg' p h1) (ov p h2).1 (bg' q h3) (ov q h4).1, fun x h1 h2 => ?_, fun p q ne h1 h2 sh => o.apart p q ne (bg' p h1) (bg' q h2) sh, ?_, fun j hj => ?_, o.top⟩
    · rcases List.mem_append.mp hx with z | z
      · exact o.idle x z
      · rw [List.mem_singleton.mp z]; exact o.lt c.p bg
    · refine List.nodup_append.mpr ⟨o.nd, by simp, fun x hx y hy e => ?_⟩
      rw [List.mem_singleton.mp hy] at e
      exact o.d1 c.p bg no (e ▸ hx)
    · intro z
      rcases List.mem_append.mp z with z | z
      · exact o.d1 p (bg' p h1) (ov p h2).1 z
      · exact o.d2 p c.p (ov p h2).2 (bg' p h1) (ov p h2).1 bg no (List.mem_singleton.mp z)
    · obtain ⟨p, h3, h4⟩ := o.used x h1 h2
      exact ⟨p, by rw [tk]; exact begun_snoc.mpr (.inl h3), h4⟩
    · show cnt (L.take (i + 1)) + ((s.idle ++ [s.rooms.getD c.p 0]).length : Int) = s.known
      rw [cn, List.length_append]
      have := o.num
      simp only [List.length_cons, List.length_nil]
      omega
    · show cnt (L.take j) ≤ s.known
      by_cases z : j ≤ i
      · exact o.all j z
      · rw [show j = i + 1 by omega, cn]
        have := o.num
        omega
/-- behind all changes -/
theorem ShOk.fin {ws : List (Int × Int)} {L : List Chg} (sw : Swp ws L) {s : Sh} (o : ShOk ws L L.length s) :
    s.rooms.length = ws.length ∧ (∀ p, p < ws.length → 0 ≤ s.rooms.getD p 0 ∧ s.rooms.getD p 0 < s.known) ∧ (∀ p q, p < ws.length → q < ws.length → p ≠ q → Share ws p q → s.rooms.getD p 0 ≠ s.rooms.getD q 0) ∧
    (∀ r, 0 ≤ r → r < s.known → ∃ p, p < ws.length ∧ s.rooms.getD p 0 = r) ∧ (∀ h, (cntN ws ws.length h : Int) ≤ s.known) ∧ (s.known = 0 ∨ ∃ h, s.known ≤ (cntN ws ws.length h : Nat)) := by
  have bg : ∀ p, p < ws.length → Begun (L.take L.length) p := fun p h => by rw [List.take_length]; exact ⟨_, sw.mem_beg h, rfl, rfl⟩
  refine ⟨o.len, fun p h => o.lt p (bg p h), fun p q h1 h2 ne sh => o.apart p q ne (bg p h1) (bg q h2) sh, fun r h0 h1 => ?_, fun h => ?_, o.top⟩
  · obtain ⟨p, h2, h3⟩ := o.used r h0 h1
    exact ⟨p, (sw.begun_beg h2).1, h3⟩
  · obtain ⟨k, h1, h2⟩ := sw.hour_cut h
    rw [← h2]
    exact o.all k h1
end RW

namespace L2
open PySem PySem.Spec PyProof.Rows
/-! ### comprehensions whose items are made anew -/
theorem comp_gen {J : It} {p : Addr} {js : List Nat} {σ : St} {H : Hp} {tc : TT} {te : TE} {Q : VK} {n : Nat} (hn : n ≤ 1000000) (Iv : Nat → List V → Hp → Prop) (Itm : Nat → V → Prop) (h0 : Iv 0 [] (upd H p (.lst [])))
    (hst : ∀ ys H', Iv n ys H' → J.stop n H') (hgo : ∀ i ys H', i < n → Iv i ys H' → J.go i H' ∧ ∀ x H'', J.yld i H' x H'' → H'' = H' ∧ Itm i x) (hlen : ∀ i ys H', Iv i ys H' → ys.length ≤ i)
    (hs : ∀ i ys H' x, i < n → Iv i ys H' → Itm i x → ∀ (N0 : Hp → Prop) (N1 : VK), (∀ H3, Iv (i + 1) ys H3 → N0 H3) → (∀ y H4, H4 p = some (.lst ys) → Iv (i + 1) (ys ++ [y]) (upd H4 p (.lst (ys ++ [y]))) → N1 y H4) →
      tc (some x :: js.map fun j => (σ[j]?).join) H' fun b H3 => if b = true then te (some x :: js.map fun j => (σ[j]?).join) H3 N1 else N0 H3)
    (hd : ∀ ys H', Iv n ys H' → Q (.ref p) H') : CompW J p (startC σ js) (upd H p (.lst [])) tc te Q := by
  refine ⟨fun i m σ' H' => m = n - i ∧ i ≤ n ∧ (∃ v, σ' = v :: js.map fun j => (σ[j]?).join) ∧ ∃ ys, Iv i ys H', ⟨n, by simp, Nat.zero_le _, ⟨none, rfl⟩, [], h0⟩, ?_⟩
  rintro i m σ' H' ⟨rfl, hi, ⟨v, rfl⟩, ys, iv⟩
  by_cases e : i = n
  · subst e
    exact .inl ⟨hst ys H' iv, hd ys H' iv⟩
  · have hlt : i < n := by omega
    obtain ⟨g1, g2⟩ := hgo i ys H' hlt iv
    refine .inr ⟨g1, fun x H'' hy => ?_⟩
    obtain ⟨rfl, hx⟩ := g2 x H'' hy
    refine hs i ys H'' x hlt iv hx _ _ (fun H3 iv3 => ⟨n - (i + 1), by omega, rfl, hlt, ⟨_, rfl⟩, ys, iv3⟩) fun y H4 h4 iv4 => ⟨ys, h4, ?_, n - (i + 1), by omega, rfl, hlt, ⟨_, rfl⟩, _, iv4⟩
    exact small_of (Nat.le_trans (hlen i ys _ iv) (by omega))
theorem perm_of_map {α β : Type} {f : α → β} : ∀ {bs : List β} {as : List α}, bs.Perm (as.map f) → ∃ cs : List α, cs.Perm as ∧ bs = cs.map f := by
  intro bs as p
  generalize e : as.map f = ds at p
  induction p generalizing as with
  | nil =>
    rw [List.map_eq_nil_iff] at e
    subst e
    exact ⟨[], .nil, rfl⟩
  | cons x _ ih =>
    cases as with
    | nil => cases e
    | cons a as =>
      rw [List.map_cons] at e
      injection e with e1 e2
      obtain ⟨cs, p, q⟩ := ih e2
      exact ⟨a :: cs, .cons _ p, by rw [List.map_cons, e1, q]⟩
  | swap x y l =>
    cases as with
    | nil => cases e
    | cons a as =>
      cases as with
      | nil => cases e
      | cons b as =>
        rw [List.map_cons, List.map_cons] at e
        injection e with e1 e2
        injection e2 with e2 e3
        exact ⟨b :: a :: as, .swap _ _ _, by rw [List.map_cons, List.map_cons, e1, e2, e3]⟩
  | trans _ _ ih1 ih2 =>
    obtain ⟨cs, p1, q1⟩ := ih2 e
    obtain ⟨ds, p2, q2⟩ := ih1 q1.symm
    exact ⟨ds, p2.trans p1, q2⟩
end L2
namespace RW
open PySem L2
def kindN (c : Chg) : Int := if c.b then 1 else 0
def chg3 (c : Chg) : List Int := [c.h, kindN c, (c.p : Int)]
def chgVs (c : Chg) : List V := (chg3 c).map V.int
theorem chg_lt {c d : Chg} (h : ¬ chg3 d < chg3 c) : Chg.lt c d := by
  unfold chg3 at h
  rw [List.cons_lt_cons_iff, List.cons_lt_cons_iff] at h
  unfold Chg.lt
  unfold kindN at h
  by_cases z : c.h < d.h
  · exact .inl z
  · have e : d.h = c.h := by
      by_cases y : d.h < c.h
      · exact absurd (.inl y) h
      · omega
    refine .inr ⟨e.symm, fun hc => ?_⟩
    cases hd : d.b with
    | true => rfl
    | false =>
      exfalso
      apply h
      rw [hc, hd]
      exact .inr ⟨e, .inl (by decide)⟩
theorem swp_of {ws : List (Int × Int)} {mss : List (List Int)} (pos : ∀ x ∈ ws, x.1 < x.2) (p : mss.Perm (((List.range ws.length).map (begOf ws) ++ (List.range ws.length).map (endOf ws)).map chg3)) (o : mss.Pairwise fun a b => ¬ b < a) : ∃ L, mss = L.map chg3 ∧ Swp ws L := by
  obtain ⟨L, pl, rfl⟩ := perm_of_map p
  exact ⟨L, rfl, pl, (List.pairwise_map.mp o).imp fun h => chg_lt h, pos⟩
theorem wish_at {H : Hp} {rs : List V} {ws : List (Int × Int)} {k : Nat} (t : TupsAt H rs (ws.map pairVs)) (h : k < ws.length) : ∃ a, rs[k]? = some (.ref a) ∧ H a = some (.tup (pairVs (ws.getD k (0, 0)))) := by
  refine t.at ?_
  rw [List.getElem?_map, getD_range (List.mem_range.mpr h)]; rfl
end RW

namespace L2
open PySem
/-! ### a set's table never gives way -/
def Ris (l : List Nat) : Prop := l.Pairwise (· < ·)
theorem below_go {xs : Array Nat} {j : Nat} (r : Ris xs.toList) : ∀ (fuel lo hi : Nat), hi - lo ≤ fuel → lo ≤ hi → hi ≤ xs.size → (∀ i (h : i < xs.size), i < lo → xs[i] < j) → (∀ i (h : i < xs.size), hi ≤ i → j ≤ xs[i]) →
    ∃ b, SetTable.below.go xs j fuel lo hi = b ∧ b ≤ xs.size ∧ (∀ i (h : i < xs.size), i < b → xs[i] < j) ∧ (∀ i (h : i < xs.size), b ≤ i → j ≤ xs[i])
  | 0, lo, hi, h1, h2, h3, h4, h5 => ⟨lo, rfl, by omega, h4, fun i h h' => h5 i h (by omega)⟩
  | fuel + 1, lo, hi, h1, h2, h3, h4, h5 => by
    have mono : ∀ i k (hi : i < xs.size) (hk : k < xs.size), i < k → xs[i] < xs[k] := fun i k hi hk hik => by
      have := List.pairwise_iff_getElem.mp r i k (by simpa using hi) (by simpa using hk) hik
      simpa using this
    unfold SetTable.below.go
    by_cases z : lo < hi
    · rw [if_pos z]
      have hm : (lo + hi) / 2 < xs.size := by omega
      have eg : xs.getD ((lo + hi) / 2) j = xs[(lo + hi) / 2] := by rw [Array.getD_eq_getD_getElem?, Array.getElem?_eq_getElem hm]; rfl
      dsimp only
      rw [eg]
      by_cases y : xs[(lo + hi) / 2] < j
      · rw [if_pos y]
        exact below_go r fuel _ hi (by omega) (by omega) h3 (fun i h h' => by
          by_cases e : i = (lo + hi) / 2
          · subst e; exact y
          · have := mono i ((lo + hi) / 2) h hm (by omega)
            omega) h5
      · rw [if_neg y]
        exact below_go r fuel lo _ (by omega) (by omega) (by omega) h4 (fun i h h' => by
          by_cases e : i = (lo + hi) / 2
          · subst e; omega
          · have := mono ((lo + hi) / 2) i hm h (by omega)
            omega)
    · rw [if_neg z]
      exact ⟨lo, rfl, by omega, h4, fun i h h' => h5 i h (by omega)⟩
theorem below_at {xs : Array Nat} (r : Ris xs.toList) (j : Nat) : SetTable.below xs j ≤ xs.size ∧ (∀ i (h : i < xs.size), i < SetTable.below xs j → xs[i] < j) ∧ (∀ i (h : i < xs.size), SetTable.below xs j ≤ i → j ≤ xs[i]) := by
  obtain ⟨b, e, h1, h2, h3⟩ := below_go (j := j) r xs.size 0 xs.size (by omega) (by omega) (Nat.le_refl _) (fun i h h' => by omega) (fun i h h' => by omega)
  have : SetTable.below xs j = b := e
  rw [this]
  exact ⟨h1, h2, h3⟩
/-- a place in the middle -/
theorem below_item {xs : Array Nat} (r : Ris xs.toList) {i : Nat} (h : i < xs.size) : SetTable.below xs (xs[i] + 1) = i + 1 := by
  obtain ⟨h1, h2, h3⟩ := below_at r (xs[i] + 1)
  have mono : ∀ i k (hi : i < xs.size) (hk : k < xs.size), i < k → xs[i] < xs[k] := fun i k hi hk hik => by
    have := List.pairwise_iff_getElem.mp r i k (by simpa using hi) (by simpa using hk) hik
    simpa using this
  by_cases z : SetTable.below xs (xs[i] + 1) ≤ i
  · have := h3 i h z; omega
  · by_cases y : i + 1 < SetTable.below xs (xs[i] + 1)
    · have := h2 (i + 1) (by omega) y
      have := mono i (i + 1) h (by omega) (by omega)
      omega
    · omega
theorem below_zero {xs : Array Nat} (r : Ris xs.toList) : SetTable.below xs 0 = 0 := by
  obtain ⟨h1, h2, _⟩ := below_at r 0
  by_cases z : SetTable.below xs 0 = 0
  · exact z
  · have := h2 0 (by omega) (by omega)
    omega
theorem insertAt_list {α : Type} (xs : Array α) (p : Nat) (x : α) : (SetTable.insertAt xs p x).toList = xs.toList.take p ++ x :: xs.toList.drop p := by
  unfold SetTable.insertAt
  simp only [Array.toList_append, Array.toList_push, Array.toList_extract, List.extract_eq_take_drop, List.drop_zero, Nat.sub_zero, List.append_assoc, List.singleton_append]
  congr 2
  rw [List.take_of_length_le (by rw [List.length_drop, Array.length_toList]; omega)]
theorem ris_insert {xs : Array Nat} (r : Ris xs.toList) {j : Nat} (hj : j ∉ xs.toList) : Ris (SetTable.insertAt xs (SetTable.below xs j) j).toList := by
  obtain ⟨h1, h2, h3⟩ := below_at r j
  rw [insertAt_list]
  have sp : xs.toList = xs.toList.take (SetTable.below xs j) ++ xs.toList.drop (SetTable.below xs j) := (List.take_append_drop _ _).symm
  have r' := r
  unfold Ris at r'
  rw [sp, List.pairwise_append] at r'
  have lo : ∀ a ∈ xs.toList.take (SetTable.below xs j), a < j := fun a ha => by
    obtain ⟨i, hi⟩ := List.getElem?_of_mem ha
    have hl := (List.getElem?_eq_some_iff.mp hi).1
    rw [List.length_take] at hl
    rw [List.getElem?_take_of_lt (by omega), Array.getElem?_toList] at hi
    obtain ⟨h, e⟩ := Array.getElem?_eq_some_iff.mp hi
    rw [← e]; exact h2 i h (by omega)
  have hi : ∀ a ∈ xs.toList.drop (SetTable.below xs j), j < a := fun a ha => by
    obtain ⟨i, hi⟩ := List.getElem?_of_mem ha
    rw [List.getElem?_drop, Array.getElem?_toList] at hi
    obtain ⟨h, e⟩ := Array.getElem?_eq_some_iff.mp hi
    have := h3 _ h (by omega)
    rw [e] at this
    have ne : a ≠ j := fun z => hj (z ▸ List.mem_of_mem_drop ha)
    omega
  refine List.pairwise_append.mpr ⟨r'.1, List.pairwise_cons.mpr ⟨hi, r'.2.1⟩, fun a ha b hb => ?_⟩
  rcases List.mem_cons.mp hb with rfl | hb
  · exact lo a ha
  · exact r'.2.2 a ha b hb
/-! ### the order in which slots are tried -/
def orb (m : Nat) : Nat → Nat
  | 0 => 0
  | n + 1 => (orb m n * 5 + 1) % m
def walkI (m : Nat) : Nat → Nat → Nat
  | 0, i => i
  | n + 1, i => walkI m n ((i * 5 + 1) % m)
theorem walk_orb (m : Nat) : ∀ (r a : Nat), walkI m r (orb m a) = orb m (a + r)
  | 0, _ => rfl
  | r + 1, a => by
    show walkI m r (orb m (a + 1)) = _
    rw [walk_orb m r (a + 1)]
    congr 1
    omega
theorem orb_round {m : Nat} (h : orb m m = 0) : ∀ b, orb m (m + b) = orb m b
  | 0 => h
  | b + 1 => by
    show (orb m (m + b) * 5 + 1) % m = (orb m b * 5 + 1) % m
    rw [orb_round h b]
structure Cyc (m : Nat) : Prop where
  round : orb m m = 0
  all : ∀ j, j < m → ∃ a, a < m ∧ orb m a = j
theorem cyc8 : Cyc 8 := ⟨by decide, by decide⟩
theorem cyc32 : Cyc 32 := ⟨by decide +kernel, by decide +kernel⟩
theorem cyc128 : Cyc 128 := ⟨by decide +kernel, by decide +kernel⟩
theorem Cyc.reach {m : Nat} (c : Cyc m) {i j : Nat} (hi : i < m) (hj : j < m) : ∃ r, r < m ∧ walkI m r i = j := by
  obtain ⟨a, a1, rfl⟩ := c.all i hi
  obtain ⟨b, b1, rfl⟩ := c.all j hj
  by_cases z : a ≤ b
  · exact ⟨b - a, by omega, by rw [walk_orb]; congr 1; omega⟩
  · refine ⟨m + b - a, by omega, ?_⟩
    rw [walk_orb, show a + (m + b - a) = m + b by omega, orb_round c.round]
/-- so many leaps -/
def leaps (mask : Nat) : Nat → Nat → Nat → Nat × Nat
  | 0, i, p => (i, p)
  | n + 1, i, p => leaps mask n (SetTable.leap mask i p).1 (SetTable.leap mask i p).2
theorem leaps_snd (mask : Nat) : ∀ (n i p : Nat), (leaps mask n i p).2 = p / 32 ^ n
  | 0, i, p => by show p = p / 32 ^ 0; rw [Nat.pow_zero, Nat.div_one]
  | n + 1, i, p => by
    show (leaps mask n _ (p / 32)).2 = _
    rw [leaps_snd mask n, Nat.div_div_eq_div_mul, Nat.pow_succ, Nat.mul_comm]
theorem leaps_lt {mask : Nat} : ∀ (n : Nat) {i p : Nat}, i < mask + 1 → (leaps mask n i p).1 < mask + 1
  | 0, _, _, h => h
  | n + 1, i, p, _ => leaps_lt n (Nat.mod_lt _ (Nat.succ_pos _))
theorem leaps_add (mask : Nat) : ∀ (a b i p : Nat), leaps mask (a + b) i p = leaps mask b (leaps mask a i p).1 (leaps mask a i p).2
  | 0, b, i, p => by rw [Nat.zero_add]; rfl
  | a + 1, b, i, p => by
    rw [show a + 1 + b = a + b + 1 by omega]
    exact leaps_add mask a b _ _
theorem leaps_zero (mask : Nat) : ∀ (n i : Nat), leaps mask n i 0 = (walkI (mask + 1) n i, 0)
  | 0, i => rfl
  | n + 1, i => by
    show leaps mask n ((i * 5 + 1 + 0 / 32) % (mask + 1)) (0 / 32) = _
    rw [Nat.zero_div, Nat.add_zero, leaps_zero mask n]; rfl
theorem bits_lt (h : Int) : SetTable.bits h < 2 ^ 64 := by
  unfold SetTable.bits
  have h1 := Int.emod_nonneg h (show (2 ^ 64 : Int) ≠ 0 by decide)
  have h2 := Int.emod_lt_of_pos h (show (0 : Int) < 2 ^ 64 by decide)
  omega
/-- every slot is tried -/
theorem leaps_reach {mask : Nat} (c : Cyc (mask + 1)) (h : Int) {j : Nat} (hj : j < mask + 1) : ∃ n, n < mask + 15 ∧ (leaps mask n (SetTable.bits h % (mask + 1)) (SetTable.bits h)).1 = j := by
  have hb := bits_lt h
  have hi : SetTable.bits h % (mask + 1) < mask + 1 := Nat.mod_lt _ (Nat.succ_pos _)
  have p0 : (leaps mask 13 (SetTable.bits h % (mask + 1)) (SetTable.bits h)).2 = 0 := by
    rw [leaps_snd]
    exact Nat.div_eq_of_lt (Nat.lt_trans hb (by decide))
  obtain ⟨r, r1, r2⟩ := c.reach (leaps_lt (p := SetTable.bits h) 13 hi) hj
  refine ⟨13 + r, by omega, ?_⟩
  rw [leaps_add, p0, leaps_zero]
  exact r2
end L2

namespace L2
open PySem
/-! ### a free slot is found -/
theorem nodup_le {α : Type} [DecidableEq α] : ∀ {l m : List α}, l.Nodup → (∀ x ∈ l, x ∈ m) → l.length ≤ m.length
  | [], _, _, _ => Nat.zero_le _
  | a :: l, m, nd, sub => by
    rw [List.nodup_cons] at nd
    have ha := sub a List.mem_cons_self
    have := nodup_le (m := m.erase a) nd.2 fun x hx => (List.mem_erase_of_ne (fun e : x = a => nd.1 (e ▸ hx))).mpr (sub x (List.mem_cons_of_mem _ hx))
    rw [List.length_erase_of_mem ha] at this
    have : 0 < m.length := List.length_pos_of_mem ha
    rw [List.length_cons]; omega
theorem some_free {l : List Nat} {m : Nat} (h : l.length < m) : ∃ j, j < m ∧ j ∉ l := by
  refine Classical.byContradiction fun hn => ?_
  have := nodup_le (l := List.range m) (m := l) List.nodup_range fun x hx => Classical.byContradiction fun hx' => hn ⟨x, List.mem_range.mp hx, hx'⟩
  rw [List.length_range] at this
  omega
theorem has_nil (j : Nat) : SetTable.has #[] j = false := rfl
theorem slot_empty {t : SetTable} (r : Ris t.place.toList) (d : t.dummies = #[]) (j : Nat) : (t.slot j = .empty ↔ j ∉ t.place.toList) ∧ t.slot j ≠ .dummy := by
  unfold SetTable.slot
  dsimp only
  rw [d, has_nil]
  by_cases z : (t.place[SetTable.below t.place j]? == some j) = true
  · rw [if_pos z]
    refine ⟨⟨fun e => (by cases e), fun e => absurd (List.mem_of_getElem? (i := SetTable.below t.place j) (by rw [Array.getElem?_toList]; exact beq_iff_eq.mp z)) e⟩, fun e => by cases e⟩
  · rw [if_neg z, if_neg (by decide)]
    refine ⟨⟨fun _ hm => z ?_, fun _ => rfl⟩, fun e => by cases e⟩
    obtain ⟨i, hi⟩ := List.getElem?_of_mem hm
    rw [Array.getElem?_toList] at hi
    obtain ⟨hl, e⟩ := Array.getElem?_eq_some_iff.mp hi
    obtain ⟨h1, h2, h3⟩ := below_at r j
    have ib : SetTable.below t.place j = i := by
      by_cases y : i < SetTable.below t.place j
      · have := h2 i hl y; omega
      · by_cases w : SetTable.below t.place j < i
        · have g := h3 _ (by omega) (Nat.le_refl _)
          have := List.pairwise_iff_getElem.mp r (SetTable.below t.place j) i (by simp; omega) (by simpa using hl) w
          have this : t.place[SetTable.below t.place j]'(by omega) < t.place[i] := by simpa using this
          omega
        · omega
    rw [ib, hi]
    exact beq_self_eq_true _
def advN (t : SetTable) : Nat → SetTable.Probe → SetTable.Probe
  | 0, p => p
  | n + 1, p => advN t n (t.advance p)
theorem adv_dummy (t : SetTable) (p : SetTable.Probe) : (t.advance p).dummy = p.dummy := by
  unfold SetTable.advance
  split <;> rfl
theorem probe_go {t : SetTable} {h : Int} (r : Ris t.place.toList) (d : t.dummies = #[]) : ∀ (fuel : Nat) (p : SetTable.Probe), p.dummy = none → (∃ k, k < fuel ∧ t.slot (advN t k p).j = .empty) → ∃ j, SetTable.probe.go t (fun _ => h + 1) h fuel p = some (.empty j none) ∧ t.slot j = .empty
  | 0, p, _, ⟨k, hk, _⟩ => absurd hk (Nat.not_lt_zero _)
  | fuel + 1, p, hd, ⟨k, hk, he⟩ => by
    unfold SetTable.probe.go
    cases hs : t.slot p.j with
    | empty => exact ⟨p.j, by rw [hd], hs⟩
    | dummy => exact absurd hs (slot_empty r d _).2
    | live i =>
      dsimp only
      have : ((h + 1 : Int) == h) = false := beq_eq_false_iff_ne.mpr (by omega)
      rw [this, if_neg Bool.false_ne_true]
      refine probe_go r d fuel _ (by rw [adv_dummy]; exact hd) ?_
      cases k with
      | zero => rw [show advN t 0 p = p from rfl, hs] at he; cases he
      | succ k => exact ⟨k, by omega, he⟩
def leapAt (mask i p : Nat) : SetTable.Probe := { j := i, more := SetTable.runEnd mask i - i, i := i, perturb := p, dummy := none }
theorem adv_run (t : SetTable) : ∀ (m : Nat) (p : SetTable.Probe), p.more = m → p.dummy = none → advN t (m + 1) p = leapAt t.mask (SetTable.leap t.mask p.i p.perturb).1 (SetTable.leap t.mask p.i p.perturb).2
  | 0, p, hm, hd => by
    show t.advance p = _
    unfold SetTable.advance
    rw [if_neg (by omega)]
    unfold leapAt
    dsimp only
    rw [hd]
  | m + 1, p, hm, hd => by
    show advN t (m + 1) (t.advance p) = _
    have e : t.advance p = { p with j := p.j + 1, more := p.more - 1 } := by
      unfold SetTable.advance
      rw [if_pos (by omega)]
    rw [e]
    exact adv_run t m _ (by show p.more - 1 = m; omega) hd
theorem advN_add (t : SetTable) : ∀ (a b : Nat) (p : SetTable.Probe), advN t (a + b) p = advN t b (advN t a p)
  | 0, b, p => by rw [Nat.zero_add]; rfl
  | a + 1, b, p => by
    rw [show a + 1 + b = a + b + 1 by omega]
    exact advN_add t a b _
theorem adv_leaps (t : SetTable) : ∀ (n i p : Nat), ∃ k, k ≤ 10 * n ∧ advN t k (leapAt t.mask i p) = leapAt t.mask (leaps t.mask n i p).1 (leaps t.mask n i p).2
  | 0, i, p => ⟨0, Nat.le_refl _, rfl⟩
  | n + 1, i, p => by
    obtain ⟨k, k1, k2⟩ := adv_leaps t n (SetTable.leap t.mask i p).1 (SetTable.leap t.mask i p).2
    have e := adv_run t (SetTable.runEnd t.mask i - i) (leapAt t.mask i p) rfl rfl
    have hm : SetTable.runEnd t.mask i - i ≤ 9 := by unfold SetTable.runEnd; split <;> omega
    refine ⟨SetTable.runEnd t.mask i - i + 1 + k, by omega, ?_⟩
    rw [advN_add, e]
    exact k2
theorem free_slot {t : SetTable} (c : Cyc (t.mask + 1)) (r : Ris t.place.toList) (d : t.dummies = #[]) (hn : t.place.size < t.mask + 1) (h : Int) : ∃ j, t.freeSlot h = some (j, false) ∧ j ∉ t.place.toList := by
  obtain ⟨j0, j1, j2⟩ := some_free (l := t.place.toList) (m := t.mask + 1) (by rw [Array.length_toList]; exact hn)
  obtain ⟨n, n1, n2⟩ := leaps_reach c h j1
  obtain ⟨k, k1, k2⟩ := adv_leaps t n (SetTable.bits h % (t.mask + 1)) (SetTable.bits h)
  have hs : t.probeStart h = leapAt t.mask (SetTable.bits h % (t.mask + 1)) (SetTable.bits h) := rfl
  obtain ⟨j, g1, g2⟩ := probe_go (h := h) r d (10 * SetTable.turns t.mask) (t.probeStart h) rfl ⟨k, by unfold SetTable.turns; omega, by
    rw [hs, k2]
    show t.slot (leaps t.mask n _ _).1 = .empty
    rw [n2]
    exact (slot_empty r d j0).1.mpr j2⟩
  refine ⟨j, ?_, (slot_empty r d j).1.mp g2⟩
  unfold SetTable.freeSlot SetTable.probe
  rw [g1]
  rfl
/-! ### the table laid anew -/
theorem free_ok {mask : Nat} {owner : Array (Option Nat)} : ∀ (fuel i p : Nat), (∃ n, n < fuel ∧ owner.getD (leaps mask n i p).1 (some 0) = none) → ∃ j, SetTable.layClean.free mask owner fuel i p = some j ∧ owner.getD j (some 0) = none
  | 0, i, p, ⟨n, hn, _⟩ => absurd hn (Nat.not_lt_zero _)
  | fuel + 1, i, p, ⟨n, hn, he⟩ => by
    unfold SetTable.layClean.free
    cases hf : (List.range (SetTable.runEnd mask i + 1 - i)).find? fun k => (owner.getD (i + k) (some 0)).isNone with
    | some k =>
      have := List.find?_some hf
      exact ⟨i + k, rfl, Option.isNone_iff_eq_none.mp this⟩
    | none =>
      dsimp only
      refine free_ok fuel _ _ ?_
      cases n with
      | zero =>
        have := List.find?_eq_none.mp hf 0 (List.mem_range.mpr (by unfold SetTable.runEnd; split <;> omega))
        have he : owner.getD i (some 0) = none := he
        rw [Nat.add_zero, he] at this
        exact absurd rfl this
      | succ n => exact ⟨n, by omega, he⟩
theorem filterMap_set {l : List (Option Nat)} {j k : Nat} (h : l[j]? = some none) : ((l.set j (some k)).filterMap id).Perm (l.filterMap id ++ [k]) := by
  obtain ⟨hl, e⟩ := List.getElem?_eq_some_iff.mp h
  have sp : l = l.take j ++ none :: l.drop (j + 1) := by
    rw [← e, ← List.drop_eq_getElem_cons hl, List.take_append_drop]
  have s2 : l.set j (some k) = l.take j ++ some k :: l.drop (j + 1) := by
    rw [List.set_eq_take_append_cons_drop, if_pos hl]
  rw [s2]
  conv => rhs; rw [sp]
  rw [List.filterMap_append, List.filterMap_append, List.filterMap_cons, List.filterMap_cons]
  show (List.filterMap id (l.take j) ++ k :: List.filterMap id (l.drop (j + 1))).Perm (List.filterMap id (l.take j) ++ List.filterMap id (l.drop (j + 1)) ++ [k])
  rw [List.append_assoc]
  exact List.Perm.append_left _ (List.perm_append_singleton _ _).symm
theorem some_none {l : List (Option Nat)} (h : (l.filterMap id).length < l.length) : ∃ j : Nat, l[j]? = some none := by
  induction l with
  | nil => exact absurd h (Nat.lt_irrefl _)
  | cons a l ih =>
    cases a with
    | none => exact ⟨0, rfl⟩
    | some x =>
      rw [List.filterMap_cons] at h
      have h : (List.filterMap id l).length + 1 < l.length + 1 := h
      obtain ⟨j, hj⟩ := ih (by omega)
      exact ⟨j + 1, by simpa using hj⟩
structure OwnOk (mask : Nat) (a : Array (Option Nat) × Nat) : Prop where
  size : a.1.size = mask + 1
  perm : (a.1.toList.filterMap id).Perm (List.range a.2)
theorem lay_step {mask : Nat} (c : Cyc (mask + 1)) {a : Array (Option Nat) × Nat} (o : OwnOk mask a) (hk : a.2 < mask + 1) (h : Int) : ∃ j, SetTable.layClean.free mask a.1 (SetTable.turns mask) (SetTable.bits h % (mask + 1)) (SetTable.bits h) = some j ∧ OwnOk mask (a.1.setIfInBounds j (some a.2), a.2 + 1) := by
  have l1 : a.1.toList.length = mask + 1 := by rw [Array.length_toList]; exact o.size
  obtain ⟨j0, hj0⟩ := some_none (l := a.1.toList) (by rw [o.perm.length_eq, List.length_range, l1]; exact hk)
  have j0l := (List.getElem?_eq_some_iff.mp hj0).1
  have g0 : a.1.getD j0 (some 0) = none := by
    rw [Array.getD_eq_getD_getElem?, ← Array.getElem?_toList, hj0]; rfl
  obtain ⟨n, n1, n2⟩ := leaps_reach c h (j := j0) (by omega)
  obtain ⟨j, g1, g2⟩ := free_ok (mask := mask) (owner := a.1) (SetTable.turns mask) (SetTable.bits h % (mask + 1)) (SetTable.bits h) ⟨n, n1, by rw [n2]; exact g0⟩
  refine ⟨j, g1, by show (a.1.setIfInBounds j (some a.2)).size = _; rw [Array.size_setIfInBounds]; exact o.size, ?_⟩
  have gj : a.1.toList[j]? = some none := by
    rw [Array.getD_eq_getD_getElem?] at g2
    rw [Array.getElem?_toList]
    cases e : a.1[j]? with
    | none => rw [e] at g2; cases g2
    | some x => rw [e] at g2; exact congrArg some g2
  show ((a.1.setIfInBounds j (some a.2)).toList.filterMap id).Perm (List.range (a.2 + 1))
  rw [Array.toList_setIfInBounds, List.range_succ]
  exact (filterMap_set gj).trans (List.Perm.append_right _ o.perm)
theorem lay_fold {mask : Nat} (c : Cyc (mask + 1)) : ∀ (hs : List Int) (a : Array (Option Nat) × Nat), OwnOk mask a → a.2 + hs.length ≤ mask + 1 →
    ∃ b, hs.foldl (fun (acc : Option (Array (Option Nat) × Nat)) h => do
      let (owner, k) ← acc
      let j ← SetTable.layClean.free mask owner (SetTable.turns mask) (SetTable.bits h % (mask + 1)) (SetTable.bits h)
      pure (owner.setIfInBounds j (some k), k + 1)) (some a) = some b ∧ OwnOk mask b ∧ b.2 = a.2 + hs.length
  | [], a, o, _ => ⟨a, rfl, o, rfl⟩
  | h :: hs, a, o, hl => by
    rw [List.length_cons] at hl
    obtain ⟨j, e, o'⟩ := lay_step c o (by omega) h
    obtain ⟨b, b1, b2, b3⟩ := lay_fold c hs _ o' (by show a.2 + 1 + hs.length ≤ mask + 1; omega)
    refine ⟨b, ?_, b2, by rw [b3, List.length_cons]; show a.2 + 1 + hs.length = _; omega⟩
    rw [List.foldl_cons]
    have : (do
      let (owner, k) ← (some a : Option (Array (Option Nat) × Nat))
      let j ← SetTable.layClean.free mask owner (SetTable.turns mask) (SetTable.bits h % (mask + 1)) (SetTable.bits h)
      pure (owner.setIfInBounds j (some k), k + 1)) = some (a.1.setIfInBounds j (some a.2), a.2 + 1) := by
      show (SetTable.layClean.free mask a.1 _ _ _).bind _ = _
      rw [e]; rfl
    rw [this]
    exact b1
theorem lay_clean {mask : Nat} (c : Cyc (mask + 1)) (hs : Array Int) (hl : hs.size ≤ mask + 1) : ∃ owner, SetTable.layClean mask hs = some owner ∧ owner.size = mask + 1 ∧ (owner.toList.filterMap id).Perm (List.range hs.size) := by
  have o0 : OwnOk mask (Array.replicate (mask + 1) none, 0) := ⟨by show (Array.replicate (mask + 1) none).size = _; rw [Array.size_replicate], by
    show ((Array.replicate (mask + 1) (none : Option Nat)).toList.filterMap id).Perm (List.range 0)
    rw [Array.toList_replicate, List.filterMap_eq_nil_iff.mpr fun x hx => by rw [List.eq_of_mem_replicate hx]; rfl]
    exact List.Perm.refl _⟩
  obtain ⟨b, b1, b2, b3⟩ := lay_fold c hs.toList _ o0 (by rw [Array.length_toList]; show 0 + hs.size ≤ _; omega)
  refine ⟨b.1, ?_, b2.size, ?_⟩
  · unfold SetTable.layClean
    rw [← Array.foldl_toList]
    have : ∀ (l : List Int) (x : Option (Array (Option Nat) × Nat)), l.foldl (fun (acc : Option (Array (Option Nat) × Nat)) h => do
      let (owner, k) ← acc
      let j ← SetTable.layClean.free mask owner (SetTable.turns mask) (SetTable.bits h % (mask + 1)) (SetTable.bits h)
      pure (owner.setIfInBounds j (some k), k + 1)) x = l.foldl (fun acc h => do
      let (owner, k) ← acc
      let j ← SetTable.layClean.free mask owner (SetTable.turns mask) (SetTable.bits h % (mask + 1)) (SetTable.bits h)
      pure (owner.setIfInBounds j (some k), k + 1)) x := fun l x => rfl
    exact congrArg (Option.map Prod.fst) b1
  · have e : b.2 = hs.size := by
      have : b.2 = 0 + hs.toList.length := b3
      rw [this, Nat.zero_add, Array.length_toList]
    rw [← e]; exact b2.perm
theorem laid_ok {mask : Nat} (c : Cyc (mask + 1)) (finger moves : Nat) (led plain : Bool) (hs : Array Int) (hl : hs.size ≤ mask + 1) : ∃ place order, SetTable.laid mask finger moves led plain hs = some ({ mask := mask, place := place, dummies := #[], finger := finger, led := led, moves := moves, plain := plain }, order) ∧
    Ris place.toList ∧ place.size = hs.size ∧ order.toList.Perm (List.range hs.size) := by
  obtain ⟨owner, e, sz, pm⟩ := lay_clean c hs hl
  have live : ((List.range (mask + 1)).filterMap fun j => (owner.getD j none).map fun y => (j, y)).map (fun x : Nat × Nat => x.2) = owner.toList.filterMap id := by
    rw [List.map_filterMap]
    have e1 : owner.toList = (List.range (mask + 1)).map fun j => owner.getD j none := by
      apply List.ext_getElem?
      intro q
      rw [List.getElem?_map, Array.getElem?_toList]
      by_cases z : q < mask + 1
      · rw [List.getElem?_range z]
        show owner[q]? = some (owner.getD q none)
        rw [Array.getD_eq_getD_getElem?, Array.getElem?_eq_getElem (by omega)]; rfl
      · rw [List.getElem?_eq_none (by rw [List.length_range]; omega), Array.getElem?_eq_none (by omega)]; rfl
    rw [e1, List.filterMap_map]
    congr 1
    funext j
    show Option.map _ (Option.map _ (owner.getD j none)) = id (owner.getD j none)
    cases owner.getD j none <;> rfl
  unfold SetTable.laid
  rw [e]
  refine ⟨_, _, rfl, ?_, ?_, ?_⟩
  · unfold Ris
    show (List.map (fun x : Nat × Nat => x.1) _).Pairwise (· < ·)
    refine List.pairwise_map.mpr (List.pairwise_filterMap.mpr ?_)
    refine List.pairwise_lt_range.imp fun {a b} hab x hx y hy => ?_
    obtain ⟨u, _, rfl⟩ := Option.map_eq_some_iff.mp hx
    obtain ⟨v, _, rfl⟩ := Option.map_eq_some_iff.mp hy
    exact hab
  · show ((List.filterMap _ _).map fun x : Nat × Nat => x.1).toArray.size = _
    have := congrArg List.length live
    rw [List.length_map] at this
    rw [List.size_toArray, List.length_map, this, pm.length_eq, List.length_range]
  · show ((List.filterMap _ _).map fun x : Nat × Nat => x.2).toArray.toList.Perm _
    rw [List.toList_toArray, live]
    exact pm
end L2

namespace L2
open PySem PyProof.Rows
/-! ### a set of numbers, told with its table -/
structure TbI (t : SetTable) (n : Nat) : Prop where
  mask : t.mask = 7 ∨ t.mask = 31 ∨ t.mask = 127
  dum : t.dummies = #[]
  ris : Ris t.place.toList
  sz : t.place.size = n
  plain : t.plain = true
  room : n * 5 < t.mask * 3
theorem TbI.cyc {t : SetTable} {n : Nat} (h : TbI t n) : Cyc (t.mask + 1) := by
  rcases h.mask with e | e | e <;> rw [e]
  · exact cyc8
  · exact cyc32
  · exact cyc128
theorem TbI.fits {t : SetTable} {n : Nat} (h : TbI t n) : t.fits n = true := by
  have := h.room
  have f : t.fill = n := by unfold SetTable.fill; rw [h.dum, h.sz]; rfl
  unfold SetTable.fits
  rw [h.sz, f]
  simp; omega
theorem TbI.fresh (led : Bool) : TbI (.fresh 0 0 led) 0 := ⟨.inl rfl, rfl, List.Pairwise.nil, rfl, rfl, by show 0 * 5 < 7 * 3; decide⟩
/-- a new element: its slot, the table behind it -/
theorem lay_new {t : SetTable} {n : Nat} {es : Array (Int × Value)} (ti : TbI t n) (hn : es.size = n) (h : Int) (x : Value) : ∃ (es1 : Array (Int × Value)) (t1 : SetTable), layNew t es h x = (es1, t1, false, false) ∧ es1.toList.Perm (es.toList ++ [(h, x)]) ∧ t1.mask = t.mask ∧ t1.dummies = #[] ∧ Ris t1.place.toList ∧ t1.place.size = n + 1 ∧ t1.plain = true ∧ t1.led = t.led := by
  have room := ti.room
  obtain ⟨j, fs, nj⟩ := free_slot ti.cyc ti.ris ti.dum (by rw [ti.sz]; omega) h
  have hp : (t.put j) = ({ t with place := SetTable.insertAt t.place (SetTable.below t.place j) j, dummies := #[] }, SetTable.below t.place j) := by
    unfold SetTable.put
    dsimp only
    rw [ti.dum, has_nil, if_neg Bool.false_ne_true]
  have bl := (below_at ti.ris j).1
  have s1 : (SetTable.insertAt t.place (SetTable.below t.place j) j).size = n + 1 := by
    rw [← Array.length_toList, insertAt_list, List.length_append, List.length_cons, List.length_take, List.length_drop, Array.length_toList, ti.sz]
    rw [ti.sz] at bl
    omega
  have s2 : (SetTable.insertAt es (SetTable.below t.place j) (h, x)).size = n + 1 := by
    rw [← Array.length_toList, insertAt_list, List.length_append, List.length_cons, List.length_take, List.length_drop, Array.length_toList, hn]
    rw [ti.sz] at bl
    omega
  refine ⟨SetTable.insertAt es (SetTable.below t.place j) (h, x), { t with place := SetTable.insertAt t.place (SetTable.below t.place j) j, dummies := #[] }, ?_, ?_, rfl, rfl, ris_insert ti.ris nj, s1, ti.plain, rfl⟩
  · unfold layNew
    rw [fs]
    dsimp only
    rw [hp]
    dsimp only
    have f : SetTable.fits { t with place := SetTable.insertAt t.place (SetTable.below t.place j) j, dummies := #[] } (SetTable.insertAt es (SetTable.below t.place j) (h, x)).size = true := by
      unfold SetTable.fits SetTable.fill
      dsimp only
      rw [s1, s2]
      simp; omega
    unfold SetTable.orStandIn
    rw [if_pos f, f]
    rfl
  · rw [insertAt_list]
    refine List.Perm.trans ?_ (List.perm_append_singleton _ _).symm
    refine List.perm_middle.trans ?_
    rw [List.take_append_drop]
theorem relay {t : SetTable} {n : Nat} {es : Array (Int × Value)} (hn : es.size = n) (hm : t.mask = 7 ∨ t.mask = 31) (hf : n = if t.mask = 7 then 5 else 19) (pl : t.plain = true) : ∃ (es1 : Array (Int × Value)) (t1 : SetTable), relayAll t es (SetTable.grown n) = (es1, t1, false) ∧ es1.toList.Perm es.toList ∧ TbI t1 n ∧ t1.led = t.led := by
  have key : ∀ (m2 : Nat), SetTable.sizeAbove (SetTable.grown n) - 1 = m2 → m2 = 31 ∨ m2 = 127 → n * 5 < m2 * 3 → ∃ (es1 : Array (Int × Value)) (t1 : SetTable), relayAll t es (SetTable.grown n) = (es1, t1, false) ∧ es1.toList.Perm es.toList ∧ TbI t1 n ∧ t1.led = t.led := fun m2 e1 e2 e3 => by
    have cy : Cyc (m2 + 1) := by
      rcases e2 with e | e <;> rw [e]
      · exact cyc32
      · exact cyc128
    obtain ⟨place, order, l1, l2, l3, l4⟩ := laid_ok cy t.finger (t.movedTo m2) t.led t.plain (es.map (·.1)) (by rw [Array.size_map]; omega)
    rw [Array.size_map] at l3 l4
    have eo : (order.filterMap (es[·]?)).toList.Perm es.toList := by
      rw [Array.toList_filterMap]
      refine (l4.filterMap _).trans ?_
      have : (List.range es.size).filterMap (fun i => es[i]?) = es.toList := by
        have : ∀ l : List (Int × Value), (List.range l.length).filterMap (fun i => l[i]?) = l := fun l => by
          apply List.ext_getElem?
          intro q
          have e2 : (List.range l.length).filterMap (fun i => l[i]?) = (List.range l.length).attach.map fun i => l[i.1]'(List.mem_range.mp i.2) := by
            rw [← List.filterMap_eq_map]
            conv => lhs; rw [← List.attach_map_subtype_val (List.range l.length)]
            rw [List.filterMap_map]
            congr 1
            funext i
            exact List.getElem?_eq_getElem (List.mem_range.mp i.2)
          rw [e2, List.getElem?_map]
          by_cases z : q < l.length
          · rw [List.getElem?_attach]
            simp [z]
          · rw [List.getElem?_eq_none (by simp; omega), List.getElem?_eq_none (by omega)]; rfl
        have h := this es.toList
        rw [Array.length_toList] at h
        simpa using h
      rw [this]
    have sz : (order.filterMap (es[·]?)).size = n := by rw [← Array.length_toList, eo.length_eq, Array.length_toList, hn]
    refine ⟨order.filterMap (es[·]?), { mask := m2, place := place, dummies := #[], finger := t.finger, led := t.led, moves := t.movedTo m2, plain := t.plain }, ?_, eo, ⟨.inr e2, rfl, l2, by rw [← hn]; exact l3, pl, e3⟩, rfl⟩
    unfold relayAll SetTable.relaid
    rw [e1, l1]
    dsimp only
    have c1 : coversAll order es.size = true := by unfold coversAll; exact List.isPerm_iff.mpr l4
    have c2 : SetTable.fits { mask := m2, place := place, dummies := #[], finger := t.finger, led := t.led, moves := t.movedTo m2, plain := t.plain } (order.filterMap (es[·]?)).size = true := by
      unfold SetTable.fits SetTable.fill
      dsimp only
      rw [l3, sz, hn]
      simp; omega
    rw [c1, c2]
    rfl
  rcases hm with e | e
  · rw [e, if_pos rfl] at hf
    subst hf
    exact key 31 (by decide +kernel) (.inl rfl) (by decide)
  · rw [e, if_neg (by decide)] at hf
    subst hf
    exact key 127 (by decide +kernel) (.inr rfl) (by decide)
section
variable {prog : Program} {w : World} {A : Around} {E : Value → Shared → Prop} {s : Shared}
def SetI (prog : Program) (w : World) (led : Bool) (h : Heap) (a : Addr) (ms : List Int) : Prop := ∃ o es ep t, h.get? a = some o ∧ o.ExactSet ∧ o.data = .set es ep t ∧ ElemsOf (intKind prog w) es.toList ∧ (es.toList.map fun e => numOf e.2).Perm ms ∧ ms.Nodup ∧ TbI t es.size ∧ t.led = led
def addI (ms : List Int) (k : Int) : List Int := if k ∈ ms then ms else ms ++ [k]
theorem num_is {k : Int} {v : Value} (h : (intKind prog w).is k v = true) : numOf v = k := by
  obtain ⟨t, e⟩ := Value.isInt_shape (k := k) (v := v) h
  rw [e]; rfl
theorem set_add {a : Addr} {ms : List Int} {led : Bool} {k : Int} {tk : Tok} {Q : Bool → Shared → Prop} (hS : SetI prog w led s.heap a ms) (hb : ms.length < 64)
    (h : ∀ (b : Bool) (h' : Heap), Heap.SameBut a s.heap h' → SetI prog w led h' a (addI ms k) → Q b { s with heap := h' }) : wpAny (model prog w) A (setAddHashed a (.int k tk) ((intKind prog w).hash k)) Q E s := by
  obtain ⟨o, es, ep, t, ho, hex, hd, hel, hpm, hnd, ti, hled⟩ := hS
  have hkey : (intKind prog w).is k (.int k tk) = true := intKind_is _ _ _ _
  have hsc : (Value.int k tk).scannable = true := rfl
  have hf := ti.fits
  have hsz : es.size = ms.length := by
    have := hpm.length_eq
    rw [List.length_map, Array.length_toList] at this
    exact this
  have hb1 : es.size < scanBound := by unfold scanBound; omega
  have room := ti.room
  unfold setAddHashed setAddHashedIn
  refine wpAny_holding (wpAny_bind (wpAny_setState_of ho hd hf ?_))
  dsimp only
  rw [byScan_of hsc hb1 hel]
  simp only [↓reduceIte]
  unfold setAddByScan
  refine wpAny_bind (wpAny_bind (wpAny_rule (wpAny_bind (wpAny_setScan_of hkey ho hd hf hel ?_))))
  have mem : k ∈ ms ↔ ∃ e ∈ es.toList, (intKind prog w).is k e.2 = true := by
    rw [← hpm.mem_iff, List.mem_map]
    constructor
    · rintro ⟨e, he, q⟩
      obtain ⟨⟨k', hk', _⟩, _⟩ := hel e he
      have := num_is hk'
      rw [q] at this
      subst this
      exact ⟨e, he, hk'⟩
    · rintro ⟨e, he, q⟩
      exact ⟨e, he, num_is q⟩
  cases hr : List.findIdx? (fun e => (intKind prog w).is k e.2) es.toList with
  | some j =>
    dsimp only
    obtain ⟨hj, hpj, _⟩ := List.findIdx?_eq_some_iff_getElem.mp hr
    have hin : k ∈ ms := mem.mpr ⟨es.toList[j], List.getElem_mem hj, hpj⟩
    refine wpAny_pure (wpAny_pure ?_)
    have e : s = { s with heap := s.heap } := by cases s; rfl
    rw [e]
    refine h false s.heap (Heap.SameBut.refl a s.heap) ?_
    unfold addI
    rw [if_pos hin]
    exact ⟨o, es, ep, t, ho, hex, hd, hel, hpm, hnd, ti, hled⟩
  | none =>
    dsimp only
    have hout : k ∉ ms := fun hin => by
      obtain ⟨e, he, q⟩ := mem.mp hin
      have := List.findIdx?_eq_none_iff.mp hr e he
      rw [q] at this; cases this
    obtain ⟨es1, t1, eL, p1, m1, d1, r1, z1, pl1, led1⟩ := lay_new (es := es) ti rfl ((intKind prog w).hash k) (.int k tk)
    rw [eL]
    dsimp only
    refine wpAny_bind (wpAny_pure ?_)
    rw [pl1, if_pos rfl, hashByValue_scannable 8 hsc]
    refine wpAny_bind (wpAny_pure ?_)
    have hpk : plainKind (Value.int k tk) = true := rfl
    rw [hpk, if_pos rfl]
    have el1 : ElemsOf (intKind prog w) es1.toList := (hel.push hkey hsc).perm p1
    have sz1 : es1.size = es.size + 1 := by rw [← Array.length_toList, p1.length_eq, List.length_append, Array.length_toList]; rfl
    have pm1 : (es1.toList.map fun e => numOf e.2).Perm (ms ++ [k]) := by
      refine (p1.map _).trans ?_
      rw [List.map_append]
      exact List.Perm.append_right _ hpm
    have nd1 : (ms ++ [k]).Nodup := List.nodup_append.mpr ⟨hnd, by simp, fun x hx y hy e => hout (by rw [List.mem_singleton.mp hy] at e; exact e ▸ hx)⟩
    have ad : addI ms k = ms ++ [k] := if_neg hout
    have hz1 : es1.size ≤ sizeLine := by
      have : (1000 : Nat) ≤ sizeLine := by decide
      omega
    have put : ∀ {h0 : Heap} {o0 : Obj} {es0 : Array (Int × Value)} {ep0 : Nat} {t0 : SetTable} (es' : Array (Int × Value)) (t' : SetTable), h0.get? a = some o0 → o0.data = .set es0 ep0 t0 → (h0.update a (Obj.putSet es' t')).get? a = some { o0 with data := .set es' (ep0 + 1) t' } := fun {h0 o0 es0 ep0 t0} es' t' g1 g2 => by
      have := Heap.get?_update_self (Obj.putSet es' t') g1 (by rw [putSet_of es' t' g2] <;> rfl)
      rw [putSet_of es' t' g2] at this
      exact this
    have ho1 := put es1 t1 ho hd
    have sb1 := Heap.SameBut.update s.heap a (Obj.putSet es1 t1)
    have f1 : t1.fill = es.size + 1 := by unfold SetTable.fill; rw [d1, z1]; rfl
    refine wpAny_bind (wpAny_storeSet_of ho hd ?_ hz1)
    by_cases z : (!false && t1.tooFull) = true
    · rw [if_pos z]
      have zf : t1.mask * 3 ≤ (es.size + 1) * 5 := by
        have z : t1.tooFull = true := z
        unfold SetTable.tooFull at z
        rw [f1] at z
        simpa using z
      have hm : t1.mask = 7 ∨ t1.mask = 31 := by
        rcases ti.mask with e | e | e
        · exact .inl (m1.trans e)
        · exact .inr (m1.trans e)
        · rw [m1, e] at zf; omega
      have hn : es1.size = if t1.mask = 7 then 5 else 19 := by
        rw [← m1] at room
        rcases hm with e | e
        · rw [e, if_pos rfl]; rw [e] at zf room; omega
        · rw [e, if_neg (by decide)]; rw [e] at zf room; omega
      obtain ⟨es2, t2, eR, p2, ti2, led2⟩ := relay rfl hm hn pl1
      rw [eR]
      dsimp only
      refine wpAny_bind (wpAny_pure ?_)
      have sz2 : es2.size = es1.size := by rw [← Array.length_toList, p2.length_eq, Array.length_toList]
      refine wpAny_bind (wpAny_storeSet_of ho1 rfl ?_ (by omega))
      refine wpAny_pure (wpAny_pure (h true _ (sb1.trans (Heap.SameBut.update _ a _)) ?_))
      rw [ad]
      exact ⟨_, es2, _, t2, put es2 t2 ho1 rfl, hex, rfl, el1.perm p2, (p2.map _).trans pm1, nd1, by rw [sz2]; exact ti2, led2.trans (led1.trans hled)⟩
    · rw [if_neg z]
      refine wpAny_pure (wpAny_pure (h true _ sb1 ?_))
      rw [ad]
      refine ⟨_, es1, _, t1, ho1, hex, rfl, el1, pm1, nd1, ⟨by rw [m1]; exact ti.mask, d1, r1, by rw [sz1]; exact z1, pl1, ?_⟩, led1.trans hled⟩
      have z : ¬ t1.tooFull = true := z
      unfold SetTable.tooFull at z
      rw [f1] at z
      rw [sz1]
      simp at z
      omega
end
end L2

namespace PySem
open PyProof.Rows L2
/-! ### set(a list of numbers) -/
def seenI (val : Nat → Int) : Nat → List Int
  | 0 => []
  | i + 1 => addI (seenI val i) (val i)
theorem seenI_len (val : Nat → Int) : ∀ i, (seenI val i).length ≤ i
  | 0 => Nat.le_refl _
  | i + 1 => by
    have := seenI_len val i
    show (addI (seenI val i) (val i)).length ≤ i + 1
    unfold addI
    split
    · omega
    · rw [List.length_append]; simp; exact this
theorem seenI_mem (val : Nat → Int) (k : Int) : ∀ i, k ∈ seenI val i ↔ ∃ j, j < i ∧ val j = k
  | 0 => ⟨fun h => (by cases h), fun ⟨j, hj, _⟩ => absurd hj (Nat.not_lt_zero _)⟩
  | i + 1 => by
    show k ∈ addI (seenI val i) (val i) ↔ _
    have ih := seenI_mem val k i
    unfold addI
    split
    · rename_i hin
      rw [ih]
      constructor
      · rintro ⟨j, hj, e⟩; exact ⟨j, by omega, e⟩
      · rintro ⟨j, hj, e⟩
        by_cases z : j < i
        · exact ⟨j, z, e⟩
        · have : j = i := by omega
          subst this
          rw [e] at hin
          exact ih.mp hin
    · rw [List.mem_append, List.mem_singleton, ih]
      constructor
      · rintro (⟨j, hj, e⟩ | e)
        · exact ⟨j, by omega, e⟩
        · exact ⟨i, by omega, e.symm⟩
      · rintro ⟨j, hj, e⟩
        by_cases z : j < i
        · exact .inl ⟨j, z, e⟩
        · have : j = i := by omega
          subst this
          exact .inr e.symm
section
variable {prog : Program} {w : World} {A : Around} {R : Result → Shared → Prop} {I : Addr} {fp wr : List Addr} {G : Array GenState → Array GenState → Prop} {n : Nat} {P : Nat → Value → Prop} {St : Nat → Shared → Prop} {led : Bool}
theorem setI_at {h h' : Heap} {S : Addr} {ms : List Int} (hS : SetI prog w led h S ms) (k : ∀ o, h.get? S = some o → h'.get? S = some o) : SetI prog w led h' S ms := by
  obtain ⟨o, es, ep, t, ho, rest⟩ := hS
  exact ⟨o, es, ep, t, k o ho, rest⟩
theorem set_loop (W : WalksS prog w A.in1 I fp wr G n P St) (S : Addr) (hSf : S ∉ fp) (val : Nat → Int) (hval : ∀ i v, P i v → ∃ t, v = .int (val i) t) (hb : ∀ i, i < n → (seenI val i).length < 64) :
    ∀ (k i : Nat) (s : Shared), n - i = k → i ≤ n → St i s → SetI prog w led s.heap S (seenI val i) → (∀ s', Moved (S :: wr) G s s' → SetI prog w led s'.heap S (seenI val n) → R (.ok (.ret .none)) s') →
      codeAny (model prog w) A (.builtin "set.update.loop" ⟨[.ref S, .ref I], []⟩) R s := by
  have nw : S ∉ wr := fun h => hSf (W.sub _ h)
  have more : ∀ b ∈ wr, b ∈ S :: wr := fun b hb => List.mem_cons_of_mem _ hb
  intro k
  induction k with
  | zero =>
    intro i s hk hi st hS hR
    obtain rfl : i = n := by omega
    refine codeAny_builtin F.entry_set_update_loop ?_
    rw [Around.under_plainId F.plain_set_update_loop _]
    refine wpAny_bind (m := pyNext (.ref I)) (W.done s _ _ st fun s' hm => ?_)
    show wpAny _ A.in1 (ret Value.none) _ _ s'
    exact wpAny_pure (hR s' (hm.mono more) (setI_at hS fun o ho => hm.heap S _ nw ho))
  | succ k ih =>
    intro i s hk hi st hS hR
    have hlt : i < n := by omega
    refine codeAny_builtin F.entry_set_update_loop ?_
    rw [Around.under_plainId F.plain_set_update_loop _]
    refine wpAny_bind (m := pyNext (.ref I)) (W.item i s _ _ hlt st fun v s' hP st' hm => ?_)
    obtain ⟨t, rfl⟩ := hval i v hP
    have hS' : SetI prog w led s'.heap S (seenI val i) := setI_at hS fun o ho => hm.heap S _ nw ho
    refine wpAny_bind (m := holding [Value.int (val i) t] (setAdd S (.int (val i) t))) (wpAny_holding ?_)
    unfold setAdd
    refine wpAny_holding (wpAny_bind ((intKind prog w).pyHash (k := val i) (intKind_is _ _ _ _) ?_))
    refine set_add (s := { s' with toks := s'.toks + 1 }) hS' (hb i hlt) fun b h' hsb hS2 => ?_
    refine wpAny_pure ⟨plainId_quiet F.plain_set_update_loop _, ih (i + 1) _ (by omega) hlt (W.frame _ s' _ _ st' (Nat.le_succ _) fun b hb o e => ?_) hS2 fun s'' hm'' hS'' => ?_⟩
    · rw [hsb.2 b (fun h : b = S => hSf (h ▸ hb))]; exact e
    · refine hR s'' (Moved.trans W.gtrans ((hm.mono more).then_heap (Nat.le_succ _) fun b o hb e => ?_) hm'') hS''
      rw [hsb.2 b (fun h : b = S => hb (h ▸ List.mem_cons_self))]; exact e
end
section
variable {prog : Program} {w : World} {A : Around} {E : Value → Shared → Prop} {s : Shared}
theorem set_new (a : Value) {Q₁ : Value → Shared → Prop}
    (h : Q₁ (.ref s.heap.objs.size) { s with heap := s.heap.push { cls := .type "set", dict := none, data := .set #[] 0 (.fresh 0 0 (!w.params.followText "set-order")) } }) :
    codeAny (model prog w) A (.call (.builtin "set.__new__") ⟨[.type "set", a], []⟩) (wants Q₁ E) s := by
  refine codeAny_of_tree ?_
  refine wpAny_bind (m := checkBuiltinCall "set.__new__" ⟨[.type "set", a], []⟩) (wpAny_of_eq (F.newCall_set_1 a) (wpAny_pure ⟨plainId_quiet F.plain_set_new _, codeAny_builtin F.entry_set_new ?_⟩))
  rw [Around.under_plainId F.plain_set_new _]
  unfold Builtin.«set.__new__» Builtin.Frozenset.newClass
  have hsub := sub_set_self
  obtain ⟨hp, g, d, tk, os⟩ := s
  dsimp only
  wp_walk
  refine wpAny_askSetting (wpAny_pure ?_)
  dsimp only
  simp only [newObj]
  refine wpAny_bind (wpAny_alloc (wpAny_pure ?_))
  exact wpAny_pure h
theorem set_of_list {l : Addr} {items : Array Value} {ns : List Int} {Q : Value → Shared → Prop} (hh : A.handled = none) (hl : s.heap.IsList l items) (hi : IntsAre items.toList ns) (hb : ∀ i, i < items.size → (seenI (fun i => ns.getD i 0) i).length < 64)
    (h : ∀ (h' : Heap) (tk : Nat), SetI prog w (!w.params.followText "set-order") h' s.heap.objs.size (seenI (fun i => ns.getD i 0) items.size) → (∀ b o, s.heap.get? b = some o → h'.get? b = some o) → Q (.ref s.heap.objs.size) { s with heap := h', toks := tk }) :
    wpAny (model prog w) A (call (.type "set") [.ref l]) Q E s := by
  obtain ⟨c, tl, hmro⟩ := F.called_set.mro
  have hmade := F.called_set.made
  have hsub := F.called_set.sub
  refine wpAny_call (codeAny_of_tree (show wpAny _ _ (callAny (.type "set") _) _ _ _ from wpAny_pure ⟨Code.quiet_builtin _ (by decide +kernel), codeAny_builtin F.entry_type_call ?_⟩))
  rw [Around.under_plain (weight_type_call_type "set" [.ref l] []) rfl]
  have q1 := F.called_set.notType
  have q2 := F.called_set.canCreate
  have q3 := F.typeCall_set_1 (.ref l)
  repeat (any_goals (first | assumption | wp_step))
  refine codeAny_mono (set_new (.ref l) (E := E) (Q₁ := fun obj s₁ => obj = .ref s.heap.objs.size ∧ s₁ = { s with heap := s.heap.push { cls := .type "set", dict := none, data := .set #[] 0 (.fresh 0 0 (!w.params.followText "set-order")) } }) ⟨rfl, rfl⟩) fun r s1 hr => ?_
  cases r with
  | error e => exact hr
  | ok fl =>
    cases fl with
    | ret obj =>
      obtain ⟨rfl, rfl⟩ := hr
      generalize hled : (!w.params.followText "set-order") = led at *
      have hS : (s.heap.push { cls := .type "set", dict := none, data := .set #[] 0 (.fresh 0 0 led) }).get? s.heap.objs.size = some { cls := .type "set", dict := none, data := .set #[] 0 (.fresh 0 0 led) } := Heap.get?_push_size _ rfl
      have hT : Shared.TypeIs { s with heap := s.heap.push { cls := .type "set", dict := none, data := .set #[] 0 (.fresh 0 0 led) } } (.ref s.heap.objs.size) "set" := ⟨_, hS, rfl⟩
      have q4 := F.called_set.init.lookup
      have q5 := F.called_set.init.bind (.ref s.heap.objs.size)
      repeat (any_goals (first | assumption | wp_step))
      refine codeAny_mono (codeAny_call_builtin (R := wants (fun r s₂ => r = .none ∧ ∃ h' tk, s₂ = { s with heap := h', toks := tk } ∧ SetI prog w led h' s.heap.objs.size (seenI (fun i => ns.getD i 0) items.size) ∧ (∀ b o, s.heap.get? b = some o → h'.get? b = some o)) E) F.called_set.init.plain F.entry_set_init (check_set_init_1 hT ?_)) fun r2 s2 hr2 => ?_
      · obtain ⟨⟨oc, od, odt, osl⟩, hol, hcl, nl, hdl⟩ := hl
        simp only at hcl hdl
        subst hcl hdl
        have hol' : (s.heap.push { cls := .type "set", dict := none, data := .set #[] 0 (.fresh 0 0 led) }).get? l = some { cls := .type "list", dict := od, data := .seq items nl, slots := osl } := Heap.get?_push_of_some _ hol
        have q6 := F.sub_list_set
        have q7 := F.sub_list_frozenset
        have q8 : (Value.type "list" == Value.type "dict") = false := by decide
        have hl1 : (s.heap.push { cls := .type "set", dict := none, data := .set #[] 0 (.fresh 0 0 led) }).IsList l items := ⟨_, hol', rfl, nl, rfl⟩
        unfold Builtin.«set.__init__» noKeywords Builtin.Frozenset.updateFrom
        generalize hPI : pyIter = PI
        wp_walk
        subst hPI
        refine wpAny_pyIter_list hl1 (wpAny_bind (wpAny_runValue ?_))
        have hlS : l < s.heap.objs.size := Heap.lt_size hol
        have hh3 : A.in1.in1.in1.handled = none := by simp [hh]
        have neI : l ≠ (s.heap.push { cls := .type "set", dict := none, data := .set #[] 0 (.fresh 0 0 led) }).objs.size := by
          rw [Heap.size_push]; exact Nat.ne_of_lt (Nat.lt_succ_of_lt hlS)
        have hSf : s.heap.objs.size ∉ [(s.heap.push { cls := .type "set", dict := none, data := .set #[] 0 (.fresh 0 0 led) }).objs.size, l] := by
          rw [Heap.size_push]
          simp only [List.mem_cons, List.not_mem_nil, or_false, not_or]
          exact ⟨Nat.ne_of_lt (Nat.lt_succ_self _), Nat.ne_of_gt hlS⟩
        have hval : ∀ (i : Nat) (v : Value), items[i]? = some v → ∃ t, v = .int ((fun i => ns.getD i 0) i) t := fun i v hv => IntsAre.int_at hi i v (by rw [Array.getElem?_toList]; exact hv)
        refine set_loop (led := led) ((Walks.list hh3 _ l neI items).toS) s.heap.objs.size hSf (fun i => ns.getD i 0) hval hb (items.size - 0) 0 _ (by omega) (Nat.zero_le _) ⟨⟨_, Heap.get?_push_size _ rfl, rfl, rfl⟩, (hl1.push _)⟩ ?hS0 ?hR
        case hS0 => exact ⟨_, #[], 0, .fresh 0 0 led, Heap.get?_push_of_some _ hS, ⟨rfl, rfl, rfl⟩, rfl, fun e he => by simp at he, List.Perm.refl _, List.nodup_nil, TbI.fresh led, rfl⟩
        case hR =>
          intro s' hm hS'
          obtain ⟨h', g', d', tk', os'⟩ := s'
          obtain rfl : g' = s.gens := hm.gens
          obtain rfl : d' = s.drawn := hm.drawn
          obtain rfl : os' = s.os := hm.os
          refine wpAny_pure (show wpAny _ _ (ret Value.none) _ _ _ from wpAny_pure ⟨rfl, h', tk', rfl, hS', fun b o e => ?_⟩)
          have hb : b < s.heap.objs.size := Heap.lt_size e
          refine hm.heap b o ?_ (Heap.get?_push_of_some _ (Heap.get?_push_of_some _ e))
          rw [Heap.size_push]
          simp only [List.mem_cons, List.not_mem_nil, or_false, not_or]
          exact ⟨Nat.ne_of_lt hb, Nat.ne_of_lt (Nat.lt_succ_of_lt hb)⟩
      · cases r2 with
        | error e => exact hr2
        | ok fl2 =>
          cases fl2 with
          | ret r =>
            obtain ⟨rfl, h', tk, rfl, hS', hk'⟩ := hr2
            repeat (any_goals (first | assumption | wp_step))
            exact h _ _ hS' hk'
          | _ => exact hr2.elim
    | _ => exact hr.elim
end
end PySem

namespace PySem
open PyProof.Rows L2
/-! ### the walk over a set of numbers -/
namespace SW
theorem slot_next : Slot "set_iterator" "__next__" "set_iterator.__next__" :=
  .of (owner := "set_iterator") (n := "__next__") (by rw [typeLookup_type, builtinLookup_eq_fast]; kernel_rfl) (by decide +kernel) (by decide +kernel) (by decide +kernel) (by first | exact .inl (by decide +kernel) | exact .inr (by decide +kernel)) (by rw [isSubtype_type]; kernel_rfl)
theorem entry_next : entryFor table "set_iterator.__next__" = some Builtin.«set_iterator.__next__» := entryFor_of_tree (by kernel_rfl)
theorem args_next (a : Value) : argsOk "set_iterator.__next__" ⟨[a], []⟩ := by unfold argsOk; kernel_rfl
theorem entry_iter : entryFor table "set.__iter__" = some Builtin.«frozenset.__iter__» := entryFor_alias (id' := "frozenset.__iter__") (by kernel_rfl) (by first | rfl | decide +kernel) (by decide +kernel) (by kernel_rfl)
end SW
theorem pick_go {α : Type} (next : Nat → Nat) : ∀ (fuel k : Nat) (left : List α) (out : Array α), left.length = fuel → (pickOrder.go next fuel k left out).toList.Perm (out.toList ++ left)
  | 0, k, left, out, h => by
    rw [List.eq_nil_of_length_eq_zero h, List.append_nil]
    exact List.Perm.refl _
  | fuel + 1, k, left, out, h => by
    have hi : next k % left.length < left.length := Nat.mod_lt _ (by omega)
    unfold pickOrder.go
    rw [List.getElem?_eq_getElem hi]
    dsimp only
    have hl : (left.eraseIdx (next k % left.length)).length = fuel := by rw [List.length_eraseIdx_of_lt hi]; omega
    refine (pick_go next fuel (k + 1) _ _ hl).trans ?_
    rw [Array.toList_push, List.append_assoc]
    refine List.Perm.append_left _ ?_
    rw [List.singleton_append]
    have sp : left = left.take (next k % left.length) ++ left[next k % left.length] :: left.drop (next k % left.length + 1) := by
      rw [← List.drop_eq_getElem_cons hi, List.take_append_drop]
    rw [List.eraseIdx_eq_take_drop_succ]
    conv => rhs; rw [sp]
    exact List.perm_middle.symm
theorem pick_perm {α : Type} (next : Nat → Nat) (xs : Array α) : (pickOrder next xs).toList.Perm xs.toList := by
  have := pick_go next xs.size 0 xs.toList #[] (by simp)
  exact this
section
variable {prog : Program} {w : World} {A : Around} {E : Value → Shared → Prop} {s : Shared}
/-- the elements in the order in which the walk meets them -/
def walkS (w : World) (r : Addr) (ep : Nat) (es : Array (Int × Value)) : Array (Int × Value) := if w.params.followText "set-order" = true then pickOrder (w.params.setOrder r ep) es else es
theorem walkS_perm (w : World) (r : Addr) (ep : Nat) (es : Array (Int × Value)) : (walkS w r ep es).toList.Perm es.toList := by
  unfold walkS
  split
  · exact pick_perm _ _
  · exact List.Perm.refl _
def slotS (w : World) (t : SetTable) (i : Nat) : Nat := if w.params.followText "set-order" = true then 0 else if i = 0 then 0 else (t.place[i - 1]?).getD 0 + 1
def IsSetIter (w : World) (h : Heap) (I r : Addr) (t : SetTable) (n ep i : Nat) : Prop := ∃ o, h.get? I = some o ∧ o.cls = .type "set_iterator" ∧ o.data = .fields #[.int (slotS w t i) 0, .int i 0, .ref r, .int n 0, .int ep 0]
structure SetAt (w : World) (r : Addr) (o : Obj) (es : Array (Int × Value)) (ep : Nat) (t : SetTable) : Prop where
  cls : o.cls = .type "set"
  data : o.data = .set es ep t
  ti : TbI t es.size
  led : t.led = !w.params.followText "set-order"
theorem set_next {r : Addr} {o : Obj} {es : Array (Int × Value)} {ep : Nat} {t : SetTable} (a : SetAt w r o es ep t) (ho : s.heap.get? r = some o) (i : Nat) (hi : i ≤ es.size) {Q : Option (Value × Nat) → Shared → Prop}
    (h : Q (match (walkS w r ep es)[i]? with | some e => some (e.2, slotS w t (i + 1)) | none => none) s) : wpAny (model prog w) A (setNext r (slotS w t i) i ep) Q E s := by
  unfold setNext
  refine wpAny_bind (wpAny_setState_of ho a.data a.ti.fits ?_)
  dsimp only
  refine wpAny_bind (m := setsByText) (wpAny_bind (wpAny_askSetting (wpAny_pure ?_)))
  show wpAny (model prog w) A (if w.params.followText "set-order" = true then _ else _) Q E s
  cases e : w.params.followText "set-order" with
  | true =>
    rw [if_pos rfl, if_neg (by simp)]
    refine wpAny_bind (m := setWalk r) ?_
    unfold setWalk
    refine wpAny_bind (wpAny_setState_of ho a.data a.ti.fits ?_)
    dsimp only
    refine wpAny_bind (m := setsByText) (wpAny_bind (wpAny_askSetting (wpAny_pure ?_)))
    show wpAny (model prog w) A (if w.params.followText "set-order" = true then _ else _) _ E s
    rw [e, if_pos rfl]
    refine wpAny_bind (wpAny_askSetting (wpAny_pure (wpAny_pure ?_)))
    have ws : walkS w r ep es = pickOrder (w.params.setOrder r ep) es := by unfold walkS; rw [e, if_pos rfl]
    have sl : ∀ j, slotS w t j = 0 := fun j => by unfold slotS; rw [e, if_pos rfl]
    rw [ws, sl] at h
    rw [sl]
    show Q (Option.map (fun e => (e.2, 0)) (pickOrder (w.params.setOrder r ep) es)[i]?) s
    cases ex : (pickOrder (w.params.setOrder r ep) es)[i]? with
    | none => rw [ex] at h; exact h
    | some x => rw [ex] at h; exact h
  | false =>
    have ws : walkS w r ep es = es := by unfold walkS; rw [e]; rfl
    have led : t.led = true := by rw [a.led, e]; rfl
    rw [if_neg Bool.false_ne_true]
    have nd : (!t.plain && decide (es.size > 1)) = false := by rw [a.ti.plain]; rfl
    refine wpAny_ite_split (fun hab => absurd (show (!t.plain && decide (es.size > 1)) = true from hab) (by rw [nd]; exact Bool.false_ne_true)) fun _ => ?_
    refine wpAny_bind ?_
    show wpAny (model prog w) A (if (!t.led && !es.isEmpty) = true then (unsupported _ : Sem Unit) else pure ()) _ E s
    rw [if_neg (by rw [led]; exact Bool.false_ne_true)]
    refine wpAny_pure (wpAny_pure ?_)
    have ps : t.place.size = es.size := a.ti.sz
    have bi : SetTable.below t.place (slotS w t i) = i := by
      unfold slotS
      rw [e, if_neg Bool.false_ne_true]
      by_cases z : i = 0
      · rw [if_pos z, z]; exact below_zero a.ti.ris
      · rw [if_neg z, Array.getElem?_eq_getElem (by omega)]
        show SetTable.below t.place (t.place[i - 1] + 1) = i
        rw [below_item a.ti.ris (by omega)]
        omega
    rw [bi]
    rw [ws] at h
    by_cases z : i < es.size
    · have sl : slotS w t (i + 1) = t.place[i] + 1 := by
        unfold slotS
        rw [e, if_neg Bool.false_ne_true, if_neg (by omega), Nat.add_sub_cancel, Array.getElem?_eq_getElem (by omega)]
        rfl
      rw [Array.getElem?_eq_getElem z, sl] at h
      rw [Array.getElem?_eq_getElem z, Array.getElem?_eq_getElem (by omega)]
      exact h
    · rw [Array.getElem?_eq_none (by omega)] at h
      rw [Array.getElem?_eq_none (by omega)]
      exact h
theorem set_iter {r : Addr} {o : Obj} {es : Array (Int × Value)} {ep : Nat} {t : SetTable} (a : SetAt w r o es ep t) (ho : s.heap.get? r = some o) {Q : Value → Shared → Prop}
    (h : Q (.ref s.heap.objs.size) { s with heap := s.heap.push { cls := .type "set_iterator", data := .fields #[.int 0 0, .int 0 0, .ref r, .int es.size 0, .int ep 0] } }) : wpAny (model prog w) A (pyIter (.ref r)) Q E s := by
  have hT : s.TypeIs (.ref r) "set" := ⟨o, ho, a.cls⟩
  have st : ∀ {R : (Array (Int × Value) × Nat × SetTable) → Shared → Prop} {A' : Around} {E' : Value → Shared → Prop}, R (es, ep, t) s → wpAny (model prog w) A' (setState r) R E' s := fun {R A' E'} q => wpAny_setState_of ho a.data a.ti.fits q
  refine wpAny_pyIter_slot hT F.slot_set_iter (wpAny_call_entry F.slot_set_iter hT SW.entry_iter ?_ (F.args_set_iter_1 _))
  unfold Builtin.«frozenset.__iter__» Builtin.Frozenset.slot0 slotArgs
  simp only [List.isEmpty_nil, Bool.not_true, Bool.false_eq_true, ↓reduceIte, bind_assoc, List.length_nil, bne_self_eq_false]
  unfold Builtin.Frozenset.addrOf Builtin.Frozenset.sizeOf
  refine wpAny_bind (wpAny_pure ?_)
  try dsimp only
  refine wpAny_bind (wpAny_pure ?_)
  refine wpAny_bind (wpAny_bind (wpAny_setEntries_of ho a.data a.ti.fits (wpAny_pure ?_)))
  refine wpAny_bind (m := setDrawn r) ?_
  unfold setDrawn
  refine wpAny_bind (st ?_)
  dsimp only
  refine wpAny_bind (m := setsByText) (wpAny_bind (wpAny_askSetting (wpAny_pure (wpAny_pure ?_))))
  have nd : (!w.params.followText "set-order" && (!t.plain && decide (es.size > 1))) = false := by rw [a.ti.plain]; simp
  refine wpAny_ite_split (fun hab => absurd (show (!w.params.followText "set-order" && (!t.plain && decide (es.size > 1))) = true from hab) (by rw [nd]; exact Bool.false_ne_true)) fun _ => ?_
  refine wpAny_bind (wpAny_pure ?_)
  refine wpAny_bind (wpAny_setEpoch_of ho a.data a.ti.fits ?_)
  refine wpAny_bind (wpAny_newObj_type (wpAny_pure ⟨_, rfl, "set_iterator", _, ⟨_, Heap.get?_push_size _ rfl, rfl⟩, SW.slot_next.lookup, ?_⟩))
  exact h
theorem set_item {I r : Addr} {o : Obj} {es : Array (Int × Value)} {ep : Nat} {t : SetTable} (a : SetAt w r o es ep t) (ho : s.heap.get? r = some o) {i : Nat} (hit : IsSetIter w s.heap I r t es.size ep i) (hi : i ≤ es.size) {e : Int × Value} (hx : (walkS w r ep es)[i]? = some e) {Q : Option Value → Shared → Prop}
    (hQ : ∀ h', IsSetIter w h' I r t es.size ep (i + 1) → Heap.SameBut I s.heap h' → Q (some e.2) { s with heap := h' }) : wpAny (model prog w) A (pyNext (.ref I)) Q E s := by
  obtain ⟨oI, hoI, hc, hd⟩ := id hit
  have hT : s.TypeIs (.ref I) "set_iterator" := ⟨oI, hoI, hc⟩
  unfold pyNext
  refine wpAny_bind (wpAny_attempt (wpAny_callSpecial?_slot (name := Str.ofString "__next__") hT SW.slot_next (wpAny_call_entry SW.slot_next hT SW.entry_next ?_ (SW.args_next _))))
  refine wpAny_bind (wpAny_pure ?_)
  refine wpAny_bind (wpAny_fieldsOf hoI hd ?_)
  show wpAny _ _ (do
    let x ← setEntries r
    _) _ _ _
  refine wpAny_bind (wpAny_setEntries_of ho a.data a.ti.fits ?_)
  rw [if_neg (by simp)]
  simp only [Int.toNat_natCast]
  refine wpAny_bind (set_next a ho i hi ?_)
  rw [hx]
  dsimp only
  refine wpAny_bind (wpAny_setField hoI hd (by simp) ?_)
  have h1 : (s.heap.update I (Obj.mapFields (·.setIfInBounds 0 (rawInt (slotS w t (i + 1) : Nat))))).get? I = some (Obj.mapFields (·.setIfInBounds 0 (rawInt (slotS w t (i + 1) : Nat))) oI) := Heap.get?_update_self _ hoI (Obj.isFreed_of_fields (Obj.data_mapFields hd _))
  have d1 := Obj.data_mapFields hd (·.setIfInBounds 0 (rawInt (slotS w t (i + 1) : Nat)))
  refine wpAny_bind (wpAny_setField h1 d1 (by simp) ?_)
  have h2 := Heap.get?_update_self (Obj.mapFields (·.setIfInBounds 1 (rawInt ((i : Int) + 1)))) h1 (Obj.isFreed_of_fields (Obj.data_mapFields d1 _))
  refine wpAny_pure ⟨_, rfl, wpAny_pure (hQ _ ⟨_, h2, ?_, ?_⟩ ((Heap.SameBut.update ..).trans (Heap.SameBut.update ..)))⟩
  · exact (Obj.cls_mapFields ..).trans ((Obj.cls_mapFields ..).trans hc)
  · rw [Obj.data_mapFields d1]
    simp [rawInt]
theorem set_done {I r : Addr} {o : Obj} {es : Array (Int × Value)} {ep : Nat} {t : SetTable} (hh : A.handled = none) (a : SetAt w r o es ep t) (ho : s.heap.get? r = some o) (hit : IsSetIter w s.heap I r t es.size ep es.size) {Q : Option Value → Shared → Prop}
    (hQ : ∀ h', Heap.ExtBut I s.heap h' → Q none { s with heap := h' }) : wpAny (model prog w) A (pyNext (.ref I)) Q E s := by
  obtain ⟨oI, hoI, hc, hd⟩ := id hit
  have hT : s.TypeIs (.ref I) "set_iterator" := ⟨oI, hoI, hc⟩
  have hx : (walkS w r ep es)[es.size]? = none := by
    have := (walkS_perm w r ep es).length_eq
    rw [Array.length_toList, Array.length_toList] at this
    exact Array.getElem?_eq_none (by omega)
  unfold pyNext
  refine wpAny_bind (wpAny_attempt (wpAny_callSpecial?_slot (name := Str.ofString "__next__") hT SW.slot_next (wpAny_call_entry SW.slot_next hT SW.entry_next ?_ (SW.args_next _))))
  refine wpAny_bind (wpAny_pure ?_)
  refine wpAny_bind (wpAny_fieldsOf hoI hd ?_)
  show wpAny _ _ (do
    let x ← setEntries r
    _) _ _ _
  refine wpAny_bind (wpAny_setEntries_of ho a.data a.ti.fits ?_)
  rw [if_neg (by simp)]
  simp only [Int.toNat_natCast]
  refine wpAny_bind (set_next a ho es.size (Nat.le_refl _) ?_)
  rw [hx]
  dsimp only
  refine wpAny_bind (wpAny_setField hoI hd (by simp) ?_)
  refine wpAny_bind (m := newExc (.type "StopIteration") []) ?_
  simp only [newExc, newTuple]
  refine wpAny_bind (wpAny_newObj_type ?_ (by size_fits))
  refine wpAny_bind (m := firstArgMember _ _) (wpAny_of_eq (a := Value.none) (by first | rfl | (simp only [firstArgMember]; rfl)) ?_)
  refine wpAny_newObj_type ?_ (by size_fits)
  simp only [raiseNew]
  refine wpAny_bind (wpAny_handled ?_)
  rw [show A.in1.handled = none from hh]
  refine wpAny_bind (wpAny_pure (wpAny_throw ?_))
  refine wpAny_bind (wpAny_isInstance (T := "StopIteration") (b := true) ⟨_, Heap.get?_push_size _ rfl, rfl⟩ isSubtype_stop ?_)
  exact wpAny_pure (hQ _ (((Heap.SameBut.update ..).extBut.push _).push _))
end
end PySem

namespace PySem
open PyProof.Rows L2
/-! ### sorted(set(..)) -/
namespace SW
theorem slot_sitit : Slot "set_iterator" "__iter__" "set_iterator.__iter__" :=
  .of (owner := "set_iterator") (n := "__iter__") (by rw [typeLookup_type, builtinLookup_eq_fast]; kernel_rfl) (by decide +kernel) (by decide +kernel) (by decide +kernel) (by first | exact .inl (by decide +kernel) | exact .inr (by decide +kernel)) (by rw [isSubtype_type]; kernel_rfl)
theorem args_sitit (a : Value) : argsOk "set_iterator.__iter__" ⟨[a], []⟩ := by unfold argsOk; kernel_rfl
theorem entry_sitit : entryFor table "set_iterator.__iter__" = some Builtin.«dict_keyiterator.__iter__» := entryFor_alias (id' := "dict_keyiterator.__iter__") (by kernel_rfl) (by first | rfl | decide +kernel) (by decide +kernel) (by kernel_rfl)
end SW
section
variable {prog : Program} {w : World} {A : Around} {E : Value → Shared → Prop} {s : Shared} {r : Addr}
theorem hint_set {Q : Bool → Shared → Prop} (hT : s.TypeIs (.ref r) "set") (h : Q false s) : wpAny (model prog w) A (Builtin.List.listLengthHint (.ref r)) Q E s := by
  unfold Builtin.List.listLengthHint
  refine wpAny_bind (wpAny_specialOf hT PySem.F.slot_set_len.lookup ?_)
  generalize hid : ("set.__len__" : String) = id0
  wp_delta
  rw [show splitId id0 = some ("set", "__len__") from by subst hid; decide +kernel]
  subst hid
  refine wpAny_bind (wpAny_isInstance (T := "set") (b := true) hT (by rw [isSubtype_type]; kernel_rfl) ?_)
  refine wpAny_ite_split (fun hab => absurd hab (by decide)) (fun _ => wpAny_ite_split (fun _ => ?_) (fun hab => absurd (by decide +kernel) hab))
  exact wpAny_bind (wpAny_typeOf hT (wpAny_pure h))
end
end PySem

namespace PySem
open PyProof.Rows L2 PySem.W PySem.Calls
section
variable {prog : Program} {w : World} {A : Around} {E : Value → Shared → Prop} {s : Shared} {r : Addr} {o : Obj} {es : Array (Int × Value)} {ep : Nat} {t : SetTable}
theorem IsSetIter.at {h h' : Heap} {I : Addr} {n i : Nat} (x : IsSetIter w h I r t n ep i) (e : ∀ o, h.get? I = some o → h'.get? I = some o) : IsSetIter w h' I r t n ep i := let ⟨o, ho, q⟩ := x; ⟨o, e _ ho, q⟩
theorem walks_set (a : SetAt w r o es ep t) (hh : A.handled = none) (I : Addr) (hne : r ≠ I) : Walks prog w A I [I, r] [I] es.size (fun i v => ∃ e, (walkS w r ep es)[i]? = some e ∧ e.2 = v) (fun i h => IsSetIter w h I r t es.size ep i ∧ h.get? r = some o) where
  sub := fun b hb => by simp at hb; simp [hb]
  frame := fun _ _ _ st hk => ⟨st.1.at fun o e => hk I (by simp) o e, hk r (by simp) _ st.2⟩
  item := fun i s Q E hi st hQ => by
    have hl : (walkS w r ep es).size = es.size := by
      have := (walkS_perm w r ep es).length_eq
      rw [Array.length_toList, Array.length_toList] at this
      exact this
    have hx : (walkS w r ep es)[i]? = some (walkS w r ep es)[i] := Array.getElem?_eq_getElem (by omega)
    refine set_item a st.2 st.1 (Nat.le_of_lt hi) hx fun h' it' hs => ?_
    exact hQ _ h' s.toks ⟨_, hx, rfl⟩ ⟨it', hs.extBut _ _ hne st.2⟩ fun b o hb e => hs.extBut b o (fun h => hb (by simp [h])) e
  done := fun s Q E st hQ => set_done hh a st.2 st.1 fun h' he => hQ h' s.toks fun b o hb e => he b o (fun h => hb (by simp [h])) e
  self := fun i s Q E st hQ => by
    obtain ⟨oI, hoI, hc, hd⟩ := st.1
    have hT : s.TypeIs (.ref I) "set_iterator" := ⟨oI, hoI, hc⟩
    refine wpAny_pyIter_slot hT SW.slot_sitit (wpAny_call_entry SW.slot_sitit hT SW.entry_sitit ?_ (SW.args_sitit _))
    show wpAny _ _ (ret (.ref I)) _ _ s
    exact wpAny_pure ⟨_, rfl, "set_iterator", _, hT, SW.slot_next.lookup, hQ⟩
theorem src_set (a : SetAt w r o es ep t) : KdlSrc prog w "set" r r es.size (fun i v => ∃ e, (walkS w r ep es)[i]? = some e ∧ e.2 = v) (fun h => h.get? r = some o) where
  type := fun _ h => ⟨o, h, a.cls⟩
  there := fun _ h => ⟨Heap.lt_size h, Heap.lt_size h⟩
  keep := fun _ _ h k => k r (.inl rfl) _ h
  notList := by decide
  notTuple := by decide
  hint := fun _ _ _ _ h q => hint_set ⟨o, h, a.cls⟩ q
  iter := fun A s hh h => ⟨_, _, (fun _ _ q => set_iter a h q), walks_set a hh _ (Nat.ne_of_lt (Heap.lt_size h)), ⟨⟨_, Heap.get?_push_size _ rfl, rfl, by
    have : slotS w t 0 = 0 := by unfold slotS; split <;> rfl
    rw [this]; rfl⟩, Heap.get?_push_of_some _ h⟩⟩
theorem sortedHeap_old {h : Heap} {a b : Addr} {vs : List Value} {out : Array Value} {o : Obj} (e : h.get? b = some o) (ne : b ≠ a) : (sortedHeap h a vs out).get? b = some o := by
  unfold sortedHeap
  have hlt := Heap.lt_size e
  rw [Heap.get?_update_ne _ _ _ _ ne, Heap.get?_push_ne _ _ _ (by rw [size_push', Heap.size_update]; exact Nat.ne_of_lt (Nat.lt_succ_of_lt hlt)), Heap.get?_push_ne _ _ _ (by rw [Heap.size_update]; exact Nat.ne_of_lt hlt), Heap.get?_update_ne _ _ _ _ ne]
  exact e
theorem sortedHeap_at {h : Heap} {a : Addr} {vs us : List Value} {out : Array Value} {n : Nat} (e : h.get? a = some (seqObj "list" us.toArray n)) : ∃ k, (sortedHeap h a vs out).get? a = some (seqObj "list" out k) := by
  have hlt := Heap.lt_size e
  have e1 := get?_update_seq e (fun _ => #[])
  generalize (if ((#[] : Array Value).size == us.toArray.size) = true then n else n + 1) = n1 at e1
  have e2 : (((h.update a (Obj.mapSeq fun _ => #[])).push (seqObj "tuple" vs.toArray 0)).push (seqObj "list" #[] 0)).get? a = some (seqObj "list" #[] n1) := by
    rw [Heap.get?_push_ne _ _ _ (by rw [size_push', Heap.size_update]; exact Nat.ne_of_lt (Nat.lt_succ_of_lt hlt)), Heap.get?_push_ne _ _ _ (by rw [Heap.size_update]; exact Nat.ne_of_lt hlt)]
    exact e1
  exact ⟨_, get?_update_seq e2 (fun _ => out)⟩
/-- collect of a source, and the heap has grown -/
theorem collect_grown {T : String} {d : Addr} {n : Nat} {P : Nat → Value → Prop} {OK : Heap → Prop} {R : List Value → Shared → Prop} (K : KdlSrc prog w T r d n P OK) (hh : A.handled = none) (hok : OK s.heap) (hn : n ≤ sizeLine)
    (h : ∀ (h' : Heap) (tk : Nat) (acc : Array Value), s.heap.objs.size < h'.objs.size → (∀ b o, s.heap.get? b = some o → h'.get? b = some o) → ItemsOf P acc n → R acc.toList { s with heap := h', toks := tk }) :
    wpAny (model prog w) A (collect (.ref r)) R E s := by
  have hlt := K.there _ hok
  unfold collect
  refine wpAny_bind (wpAny_runValue (codeAny_builtin entry_proto_collect' ?_))
  rw [Around.under_plainId PySem.F.plain_proto_collect _]
  refine wpAny_bind (m := newList []) (wpAny_newObj_type (wpAny_pure ⟨plainId_quiet PySem.F.plain_list_iadd _, codeAny_builtin entry_list_iadd' ?_⟩))
  rw [Around.under_plainId PySem.F.plain_list_iadd _]
  have fin : ∀ (h' : Heap) (tk : Nat) (acc : Array Value) (c : Nat), (∀ b o, s.heap.get? b = some o → h'.get? b = some o) → h'.get? s.heap.objs.size = some { cls := .type "list", dict := none, data := .seq acc c, slots := #[] } → ItemsOf P acc n →
      wpAny (model prog w) A (load s.heap.objs.size >>= fun o => match o.data with | .seq xs _ => pure xs.toList | _ => unsupported "internal:collect") R E { s with heap := h', toks := tk } := fun h' tk acc c k e it =>
    wpAny_bind (wpAny_load e (wpAny_pure (h h' tk acc (Heap.lt_size e) k it)))
  have key := kdl_extend (A := A) (s := { s with heap := s.heap.push { cls := .type "list", data := .seq #[] } })
    (R := fun q s' => ∃ h' tk acc c, q = .ok (.ret (.ref s.heap.objs.size)) ∧ s' = { s with heap := h', toks := tk } ∧ (∀ b o, s.heap.get? b = some o → h'.get? b = some o) ∧ h'.get? s.heap.objs.size = some { cls := .type "list", dict := none, data := .seq acc c, slots := #[] } ∧ ItemsOf P acc n)
    K hh (K.keep _ _ hok fun b _ o e => Heap.get?_push_of_some _ e) s.heap.objs.size (Nat.ne_of_gt hlt.1) (Nat.ne_of_gt hlt.2) (.ref s.heap.objs.size) 0 (Heap.get?_push_size _ rfl)
    (fun h' tk acc c k e it => ⟨h', tk, acc, c, rfl, rfl, fun b o q => k b o (Nat.ne_of_lt (Heap.lt_size q)) (Heap.get?_push_of_some _ q), e, it⟩) hn
  refine wpAny_mono key (fun f s' x => ?_) fun e s' x => ?_
  · cases f with
    | done f =>
      obtain ⟨h', tk, acc, c, z, rfl, k, e, it⟩ := x
      cases z
      exact fin h' tk acc c k e it
    | again c₁ =>
      refine ⟨x.1, codeAny_mono x.2 fun q s2 y => ?_⟩
      obtain ⟨h', tk, acc, c, rfl, rfl, k, e, it⟩ := y
      exact fin h' tk acc c k e it
  · obtain ⟨_, _, _, _, e', _⟩ := x
    cases e'
/-- sorted of a set of numbers -/
theorem sorted_set {Q : Value → Shared → Prop} (a : SetAt w r o es ep t) (ho : s.heap.get? r = some o) (hE : ElemsOf (intKind prog w) es.toList) (hh : A.handled = none) (hz : es.size ≤ 1000000)
    (h : ∀ (h' : Heap) (tk : Nat) (D : Addr) (out : List Value) (k : Nat), s.heap.objs.size ≤ D → (∀ b o, s.heap.get? b = some o → h'.get? b = some o) → h'.get? D = some (seqObj "list" out.toArray k) → (∀ v ∈ out, ∃ n t, v = .int n t) → (out.map numOf).Perm (es.toList.map fun e => numOf e.2) → (out.map numOf).Pairwise (· ≤ ·) → Q (.ref D) { s with heap := h', toks := tk }) :
    wpAny (model prog w) A (call (.builtin "sorted") [.ref r]) Q E s := by
  have hsl : (1000000 : Nat) ≤ sizeLine := by decide
  refine call_function_entry kind_sorted plain_sorted entry_sorted (args_sorted1 _) ?_
  unfold Builtin.«sorted»
  refine wpAny_bind (m := checkCount "sorted" 1 1 _) (wpAny_pure ?_)
  refine wpAny_bind (collect_grown (A := A.in1) (src_set (prog := prog) a) hh ho (by omega) fun h' tk acc hgr hk hacc => ?_)
  have hl : acc.toList.length = es.size := by rw [Array.length_toList]; exact hacc.1
  have hw : acc.toList = (walkS w r ep es).toList.map fun e => e.2 := by
    have hl2 : (walkS w r ep es).toList.length = es.size := by rw [(walkS_perm w r ep es).length_eq, Array.length_toList]
    refine List.ext_getElem? fun j => ?_
    by_cases hj : j < es.size
    · rw [List.getElem?_eq_getElem (by omega), List.getElem?_map, List.getElem?_eq_getElem (by omega)]
      obtain ⟨e, e1, e2⟩ := hacc.2 j acc.toList[j] (by rw [← Array.getElem?_toList, List.getElem?_eq_getElem (by omega)])
      rw [← Array.getElem?_toList, List.getElem?_eq_getElem (by omega)] at e1
      cases e1
      rw [← e2]; rfl
    · rw [List.getElem?_eq_none (by omega), List.getElem?_eq_none (by rw [List.length_map]; omega)]
  have hint : ∀ v ∈ acc.toList, ∃ n t, v = Value.int n t := fun v hv => by
    rw [hw] at hv
    obtain ⟨e, he, rfl⟩ := List.mem_map.mp hv
    obtain ⟨⟨k, hk, _⟩, _⟩ := hE e ((walkS_perm w r ep es).mem_iff.mp he)
    obtain ⟨t, e1⟩ := Value.isInt_shape (k := k) (v := e.2) hk
    exact ⟨k, t, e1⟩
  have hI : IntsAre acc.toList (acc.toList.map numOf) := by
    clear hw hl hacc
    generalize acc.toList = vs at hint
    induction vs with
    | nil => exact .nil
    | cons v vs ih =>
      obtain ⟨n, t, rfl⟩ := hint v List.mem_cons_self
      exact .cons n t (ih fun u hu => hint u (List.mem_cons_of_mem _ hu))
  refine wpAny_bind (wpAny_newList ?_ (by omega))
  have ho2 : (h'.push (seqObj "list" acc.toList.toArray 0)).get? h'.objs.size = some (seqObj "list" acc.toList.toArray 0) := Heap.get?_push_size _ rfl
  show wpAny _ _ _ _ _ { s with heap := h'.push (seqObj "list" acc.toList.toArray 0), toks := tk }
  refine wpAny_bind (wpAny_holding (wpAny_call_entry slot_list_sort ⟨_, ho2, rfl⟩ entry_list_sort (list_sort_any (s := { s with heap := h'.push (seqObj "list" acc.toList.toArray 0), toks := tk }) (O := ordL) (key := keyI) (knd := oneType') (D := DI) ho2 (by omega) (fun h2 => kind_ints h2 hI) lt_ints (fun v hv => ?_) fun out p q => ⟨_, rfl, ?_⟩) (args_list_sort _)))
  · obtain ⟨n, t, e⟩ := hint v hv
    exact ⟨n, t, e⟩
  refine wpAny_pure ⟨_, rfl, ?_⟩
  obtain ⟨k, hk2⟩ := sortedHeap_at (vs := acc.toList) (out := out.toArray) ho2
  refine h _ tk _ out k ?_ (fun b o e => sortedHeap_old (Heap.get?_push_of_some _ (hk b o e)) ?_) hk2 (fun v hv => hint v (p.mem_iff.mp hv)) ?_ ?_
  · exact Nat.le_of_lt hgr
  · exact Nat.ne_of_lt (Heap.lt_size (hk b o e))
  · refine (p.map numOf).trans ?_
    rw [hw, List.map_map]
    exact (walkS_perm w r ep es).map _
  · rw [List.pairwise_map]
    refine q.imp fun {v u} hvu => ?_
    have hvu : decide ([numOf u] < [numOf v]) = false := hvu
    have : ¬ [numOf u] < [numOf v] := of_decide_eq_false hvu
    have : ¬ numOf u < numOf v := fun hlt => this (List.Lex.rel hlt)
    omega
end
end PySem

namespace L2
open PySem PySem.Spec PyProof.Rows
variable {X : Cx}
/-- a set of numbers -/
def SetO (prog : Program) (w : World) (a : Addr) (ms : List Int) : HO := .ext fun h => SetI prog w (!w.params.followText "set-order") h a ms
theorem call_setL (hc : X.calm = true) : CallR X (.type "set") (fun xs H Q => ∃ (p : Addr) (ns : List Int), xs = [.ref p] ∧ SqL X.K H p (ns.map V.int) ∧ ns.length ≤ 64 ∧ ∀ l ms, H l = none → (∀ k, k ∈ ms ↔ k ∈ ns) → Q (.ref l) (upd H l (SetO X.prog X.w l ms))) := by
  intro pins s σ H xs us Q I r h
  obtain ⟨p, ns, rfl, hq, hz, q⟩ := h
  obtain ⟨u, rfl, rx⟩ := vals1 r
  cases rx
  obtain ⟨its, r', pl, _⟩ := I.list hq
  have hlen := r'.length
  rw [List.length_map] at hlen
  have hs : its.toArray.size = its.length := by simp
  refine set_of_list (I.ok.hd hc) pl.isList (intsAre_of r') (fun i hi => by have := seenI_len (fun i => ns.getD i 0) i; omega) fun h' tk hS hk => ?_
  refine ⟨.ref s.heap.objs.size, _, I.laid (t' := tk) hk (Nat.le_refl _) (show ObjOk X.prog X.w _ h' _ (SetO X.prog X.w s.heap.objs.size _) from ⟨hS, ?_, fun h1 h2 a b => setI_at a b⟩), rfl, q _ _ (I.hok.fresh (Nat.le_refl _)) fun k => ?_⟩
  · obtain ⟨o, _, _, _, e, _⟩ := hS
    exact ⟨o, e⟩
  · rw [seenI_mem, hs, ← hlen]
    constructor
    · rintro ⟨j, hj, e⟩
      rw [List.getD_eq_getElem?_getD, List.getElem?_eq_getElem hj] at e
      rw [← e]
      exact List.getElem_mem hj
    · intro hm
      obtain ⟨j, hj, e⟩ := List.getElem_of_mem hm
      exact ⟨j, hj, by rw [List.getD_eq_getElem?_getD, List.getElem?_eq_getElem hj]; exact e⟩
theorem seenI_nodup (val : Nat → Int) : ∀ i, (seenI val i).Nodup
  | 0 => List.nodup_nil
  | i + 1 => by
    have ih := seenI_nodup val i
    show (addI (seenI val i) (val i)).Nodup
    unfold addI
    split
    · exact ih
    · rename_i h
      refine List.nodup_append.mpr ⟨ih, by simp, fun a ha b hb e => h ?_⟩
      rw [List.mem_singleton.mp hb] at e
      rw [← e]; exact ha
/-- set of a list of numbers that lie close -/
theorem call_setW (hc : X.calm = true) : CallR X (.type "set") (fun xs H Q => ∃ (p : Addr) (ns : List Int) (lo : Int), xs = [.ref p] ∧ SqL X.K H p (ns.map V.int) ∧ (∀ n ∈ ns, lo ≤ n ∧ n ≤ lo + 62) ∧ ∀ l ms, H l = none → (∀ k, k ∈ ms ↔ k ∈ ns) → Q (.ref l) (upd H l (SetO X.prog X.w l ms))) := by
  intro pins s σ H xs us Q I r h
  obtain ⟨p, ns, lo, rfl, hq, hw, q⟩ := h
  obtain ⟨u, rfl, rx⟩ := vals1 r
  cases rx
  obtain ⟨its, r', pl, _⟩ := I.list hq
  have hlen := r'.length
  rw [List.length_map] at hlen
  have hs : its.toArray.size = its.length := by simp
  have mem : ∀ i, i ≤ ns.length → ∀ k ∈ seenI (fun i => ns.getD i 0) i, k ∈ ns := fun i hi k hk => by
    obtain ⟨j, hj, e⟩ := (seenI_mem _ k i).mp hk
    rw [List.getD_eq_getElem?_getD, List.getElem?_eq_getElem (by omega)] at e
    rw [← e]
    exact List.getElem_mem _
  refine set_of_list (I.ok.hd hc) pl.isList (intsAre_of r') (fun i hi => ?_) fun h' tk hS hk => ?_
  · have := nodup_le (seenI_nodup (fun i => ns.getD i 0) i) (m := (List.range 63).map fun (j : Nat) => lo + (j : Int)) fun k hk => by
      have := hw k (mem i (by omega) k hk)
      exact List.mem_map.mpr ⟨(k - lo).toNat, List.mem_range.mpr (by omega), by omega⟩
    rw [List.length_map, List.length_range] at this
    omega
  refine ⟨.ref s.heap.objs.size, _, I.laid (t' := tk) hk (Nat.le_refl _) (show ObjOk X.prog X.w _ h' _ (SetO X.prog X.w s.heap.objs.size _) from ⟨hS, ?_, fun h1 h2 a b => setI_at a b⟩), rfl, q _ _ (I.hok.fresh (Nat.le_refl _)) fun k => ?_⟩
  · obtain ⟨o, _, _, _, e, _⟩ := hS
    exact ⟨o, e⟩
  · rw [hs, ← hlen]
    refine ⟨mem _ (Nat.le_refl _) k, fun hm => (seenI_mem _ k _).mpr ?_⟩
    obtain ⟨j, hj, e⟩ := List.getElem_of_mem hm
    exact ⟨j, hj, by rw [List.getD_eq_getElem?_getD, List.getElem?_eq_getElem hj]; exact e⟩
theorem vals_nums : ∀ {us : List Value}, (∀ v ∈ us, ∃ n t, v = Value.int n t) → Vals ((us.map numOf).map V.int) us
  | [], _ => .nil
  | u :: us, h => by
    obtain ⟨n, t, rfl⟩ := h u List.mem_cons_self
    exact .cons ⟨t, rfl⟩ (vals_nums fun v hv => h v (List.mem_cons_of_mem _ hv))
theorem call_sortedS (hc : X.calm = true) : CallR X (.builtin "sorted") (fun xs H Q => ∃ (p : Addr) (ms : List Int), xs = [.ref p] ∧ H p = some (SetO X.prog X.w p ms) ∧ ∀ (l : Addr) (ns : List Int), H l = none → (∀ k, k ∈ ns ↔ k ∈ ms) → ns.Pairwise (· < ·) → Q (.ref l) (upd H l (.lst (ns.map V.int)))) := by
  intro pins s σ H xs us Q I r h
  obtain ⟨p, ms, rfl, hp, q⟩ := h
  obtain ⟨u, rfl, rx⟩ := vals1 r
  cases rx
  obtain ⟨hS, _, _⟩ := I.hok p _ hp
  obtain ⟨o, es, ep, t, ho, hex, hd, hel, hpm, hnd, ti, hled⟩ := hS
  have room : es.size ≤ 1000000 := by
    have := ti.room
    have := ti.mask
    omega
  refine sorted_set (r := p) (o := o) (es := es) (ep := ep) (t := t) ⟨hex.1, hd, ti, hled⟩ ho hel (I.ok.hd hc) room fun h' tk D out k hD hk hat hi hp hs => ?_
  have ln : (out.map numOf).length ≤ sizeLine := by
    have e := hp.length_eq
    simp only [List.length_map, Array.length_toList] at e
    rw [List.length_map]
    have : (1000000 : Nat) ≤ sizeLine := by decide
    omega
  refine ⟨.ref D, _, I.laid (t' := tk) hk hD (show ObjOk X.prog X.w _ h' _ (.lst ((out.map numOf).map V.int)) from ⟨by rw [List.length_map]; exact ln, out, k, vals_nums hi, hat⟩), rfl, q _ _ (I.hok.fresh hD) (fun k => (hp.trans hpm).mem_iff) ?_⟩
  have nd : (out.map numOf).Nodup := (hp.trans hpm).nodup_iff.mpr hnd
  have both := hs.and nd
  exact both.imp fun {a b} h => by omega
theorem bt_set : bootBuiltins "set" = some (.type "set") := by first | rfl | decide +kernel | kernel_rfl
end L2

namespace L2
open PySem PySem.Spec PyProof.Rows
variable {X : Cx}
/-- two lists of numbers -/
def rEqI (K : PySem.W.Frag) : R2 := fun x y H Q => ∃ (a b : Addr) (ns ms : List Int), x = .ref a ∧ y = .ref b ∧ SqL K H a (ns.map V.int) ∧ SqL K H b (ms.map V.int) ∧ Q (.bl (decide (ns = ms))) H
theorem op_eqI (hu : X.A.units + 1 < cLine) : OpR X (compareOp .Eq) (rEqI X.K) := by
  intro pins s σ H x y v u Q I rx ry h
  obtain ⟨a, b, ns, ms, rfl, rfl, h1, h2, q⟩ := h
  cases rx
  cases ry
  obtain ⟨its, r1, p1, _⟩ := I.list h1
  obtain ⟨its2, r2, p2, _⟩ := I.list h2
  have l1 := r1.length
  have l2 := r2.length
  rw [List.length_map] at l1 l2
  by_cases hl : ns.length = ms.length
  · refine SeqAt.eq_listAt (e := fun j => decide (ns[j]? = ms[j]?)) p1.isList p2.isList (by simp; omega) (by omega) (fun j z1 z2 => ?_) ⟨.bl _, H, I, rfl, ?_⟩
    · rw [List.size_toArray] at z1 z2
      have g1 : (ns.map V.int)[j]? = some (.int ns[j]) := by rw [List.getElem?_map, List.getElem?_eq_getElem (by omega)]; rfl
      have g2 : (ms.map V.int)[j]? = some (.int ms[j]) := by rw [List.getElem?_map, List.getElem?_eq_getElem (by omega)]; rfl
      obtain ⟨u1, q1, ru1⟩ := r1.get g1
      obtain ⟨u2, q2, ru2⟩ := r2.get g2
      have e1 : its.toArray[j] = u1 := by
        rw [List.getElem?_eq_getElem (by omega)] at q1
        simpa using Option.some.inj q1
      have e2 : its2.toArray[j] = u2 := by
        rw [List.getElem?_eq_getElem (by omega)] at q2
        simpa using Option.some.inj q2
      have e3 : (decide (ns[j]? = ms[j]?)) = eqV (.int ns[j]) (.int ms[j]) := by
        rw [eqV_isv rfl rfl, List.getElem?_eq_getElem (by omega), List.getElem?_eq_getElem (by omega)]
        exact decide_eq_decide.mpr ⟨fun z => congrArg V.int (Option.some.inj z), fun z => congrArg some (V.int.inj z)⟩
      rw [e1, e2, e3]
      exact eqAt_V ru1 ru2 (flat_isv rfl) (flat_isv rfl)
    · have e := all_range ns ms
      rw [hl, Nat.min_self, beq_self_eq_true, Bool.and_true] at e
      rw [List.size_toArray, show its.length = ms.length by omega, e]
      exact q
  · refine SeqAt.eq_list_lengthsAt p1.isList p2.isList (by simp; omega) (by omega) ⟨.bl _, H, I, rfl, ?_⟩
    rw [decide_eq_false (fun z => hl (by rw [z]))] at q
    exact q
end L2
namespace RW
/-- strictly rising, with the members 0 .. n-1 -/
theorem inc_eq : ∀ {n : Nat} {zs : List Int}, zs.Pairwise (· < ·) → (∀ r, r ∈ zs ↔ 0 ≤ r ∧ r < (n : Int)) → zs = (List.range n).map fun (j : Nat) => (j : Int) := by
  intro n zs inc mem
  have inc2 : ((List.range n).map fun (j : Nat) => (j : Int)).Pairwise (· < ·) := List.pairwise_map.mpr (List.pairwise_lt_range.imp fun h => by omega)
  refine List.Perm.eq_of_pairwise (le := fun a b : Int => a < b) ?_ inc inc2 ?_
  · intro a b _ _ h1 h2; omega
  · refine (List.perm_ext_iff_of_nodup (inc.imp fun h => by omega) (inc2.imp fun h => by omega)).mpr fun r => ?_
    rw [mem, List.mem_map]
    constructor
    · rintro ⟨h1, h2⟩
      exact ⟨r.toNat, List.mem_range.mpr (by omega), by omega⟩
    · rintro ⟨j, h, rfl⟩
      have := List.mem_range.mp h
      omega
end RW

namespace KX
open PySem PySem.Spec PyProof.Rows L2 RW
def top (i : Nat) : Stmt := PySem.Challenge.pw_roomweek_k07_whole_fewest_rooms.main.body.getD i (.Pass ⟨0, 0, 0, 0⟩)
structure Txt (mg : Str → Option Value) : Prop where
  z_len : mg "len" = none
  z_range : mg "range" = none
  z_isinstance : mg "isinstance" = none
  z_bool : mg "bool" = none
  z_int : mg "int" = none
  z_str : mg "str" = none
  z_list : mg "list" = none
  z_tuple : mg "tuple" = none
  z_max : mg "max" = none
  z_min : mg "min" = none
  z_sorted : mg "sorted" = none
  z_set : mg "set" = none
/-! ### the law's own defs -/
def spAt (K : PySem.W.Frag) : Sp := fun vs H Q _ => ∃ (a : Addr) (ns : List Int) (k : Nat), vs = [.ref a, .int k] ∧ SqL K H a (ns.map V.int) ∧ Q (.int (ns.getD k 0)) H
def spAll : Sp := fun vs H Q _ => ∃ (a b w : Int), vs = [.int a, .int b, .int w] ∧ (-(2 ^ 62) ≤ a ∧ a < 2 ^ 62 ∧ -(2 ^ 62) ≤ b ∧ b < 2 ^ 62) ∧ (-(2 ^ 62) ≤ w ∧ w < 2 ^ 62) ∧ w.toNat * (b - a).toNat ≤ 1000000 ∧
  ∀ (p : Addr) (H' : Hp), H p = none → Same H H' → H' p = some (.lst ((hrs a b w).map V.int)) → Q (.ref p) H'
def spJudged : Sp := fun vs H Q _ => ∃ (a b : Addr) (rs : List V) (rows : List Bkg) (d : Deed), vs = [.ref a, .ref b] ∧ H a = some (.lst rs) ∧ TupsAt H rs (rows.map Bkg.vs) ∧ H b = some (.tup d.vs) ∧ RowsOk rows ∧ DeedOk d ∧ rows.length ≤ 2000 ∧
  ∀ (p q : Addr) (rs' : List V) (H' : Hp), Same H H' → H' p = some (.tup [.str (judge rows d).1, .ref q]) → H' q = some (.lst rs') → TupsAt H' rs' ((judge rows d).2.map Bkg.vs) → Q (.ref p) H'
section
seal wpAny
variable {P : Program} {w : World} {K : PySem.W.Frag} {mg : Str → Option Value} {base : Heap}
abbrev s__law_at : Stmt := top 10
theorem sc__law_at : FnScope ["_law_script", "_law_k"] ["_law_script", "_law_k"] (defScope s__law_at) := ⟨rfl, rfl, rfl, by decide +kernel, rfl, by decide +kernel, by decide +kernel⟩
theorem ok__law_at {f : Addr} {fd : FuncData} (F : Fun K "_law_at" "_law_at" s__law_at f fd) (T : Txt mg) : FnOk P w K mg base CX0 1 f fd ["_law_script", "_law_k"] (spAt K) := by
  refine F.ok sc__law_at (fun vs H Q E h => ?_) (fun cdv A outer s H vs Q E hr h => ?_)
  · obtain ⟨_, _, _, rfl, _⟩ := h
    rfl
  · obtain ⟨a, ns, n, rfl, hL, k⟩ := h
    refine ⟨_, pss_cons (ps_if (pt_cmpR op_lt (pv 1) (pe_callB call_len_seq (by rfl) T.z_len PySem.boot_len (pa_cons (pv 0) pa_nil)) (nomark _))
          (pss_one (ps_ret (pe_ix ix_list (pv 0) (pv 1) (fun _ _ => rfl))))
          (pss_nil))
      (pss_one (ps_ret pe_int)), ?_⟩
    refine ⟨_, rfl, _, rfl, _, _, rfl, .inl hL, _, _, rfl, rfl, _, rfl, ?_⟩
    refine ite2 (fun h => ?_) (fun h => ?_)
    · have h' : n < ns.length := by
        have := of_decide_eq_true h
        rw [List.length_map] at this
        omega
      exact ⟨_, rfl, _, rfl, _, _, _, _, rfl, rfl, hL, atI_ints h', k⟩
    · have h' : ¬ n < ns.length := fun z => h (decide_eq_true (by rw [List.length_map]; omega))
      rw [List.getD_eq_getElem?_getD, List.getElem?_eq_none (by omega)] at k
      exact k
def spWhole : Sp := fun vs H Q _ => ∃ n : Int, vs = [.int n] ∧ Q (.bl true) H
abbrev s__law_whole : Stmt := top 9
theorem sc__law_whole : FnScope ["_law_found"] ["_law_found"] (defScope s__law_whole) := ⟨rfl, rfl, rfl, by decide +kernel, rfl, by decide +kernel, by decide +kernel⟩
theorem ok__law_whole {f : Addr} {fd : FuncData} (F : Fun K "_law_whole" "_law_whole" s__law_whole f fd) (T : Txt mg) : FnOk P w K mg base CX0 1 f fd ["_law_found"] spWhole := by
  refine F.ok sc__law_whole (fun vs H Q E h => ?_) (fun cdv A outer s H vs Q E hr h => ?_)
  · obtain ⟨_, rfl, _⟩ := h
    rfl
  · obtain ⟨n, rfl, k⟩ := h
    refine ⟨_, pss_one (ps_ret (pe_and (pe_callB call_isin (by rfl) T.z_isinstance boot_isinstance (pa_cons (pv 0) (pa_cons (pe_gty T.z_int bt_int) pa_nil))) (pe_one (pe_not (pe_callB call_isin (by rfl) T.z_isinstance boot_isinstance (pa_cons (pv 0) (pa_cons (pe_gty T.z_bool bt_bool) pa_nil))))))), ?_⟩
    exact ⟨_, rfl, _, _, _, _, rfl, TyOf.int _, kit_self, _, rfl, iteT ⟨_, rfl, _, _, _, _, rfl, TyOf.int _, kit_int_bool, _, rfl, k⟩⟩
def spWished (K : PySem.W.Frag) : Sp := fun vs H Q _ => ∃ (a : Addr) (ns : List Int) (wide : Int), vs = [.ref a, .int wide] ∧ SqL K H a (ns.map V.int) ∧ ns.length ≤ 1000 ∧ 8 ≤ wide ∧ wide ≤ 67 ∧
  ∀ (p : Addr) (rs : List V) (ws : List (Int × Int)) (far : Int) (H' : Hp), H p = none → Same H H' → H' p = some (.lst rs) → TupsAt H' rs (ws.map pairVs) → (∀ x ∈ ws, x.1 < x.2 ∧ x.2 ≤ x.1 + 40 ∧ far - 20 ≤ x.1 ∧ x.1 ≤ far + 70) → ws.length = ns.length → Q (.ref p) H'
abbrev s__law_wished : Stmt := top 11
theorem sc__law_wished : FnScope ["_law_cells", "_law_wide", "_law_wishes", "_law_far", "_law_most", "_law_k", "_law_start"] ["_law_cells", "_law_wide"] (defScope s__law_wished) := ⟨rfl, rfl, rfl, by decide +kernel, rfl, by decide +kernel, by decide +kernel⟩
theorem ok__law_wished {f : Addr} {fd : FuncData} (F : Fun K "_law_wished" "_law_wished" s__law_wished f fd) (T : Txt mg) : FnOk P w K mg base CX0 1 f fd ["_law_cells", "_law_wide"] (spWished K) := by
  refine F.ok sc__law_wished (fun vs H Q E h => ?_) (fun cdv A outer s H vs Q E hr h => ?_)
  · obtain ⟨_, _, _, rfl, _⟩ := h
    rfl
  · obtain ⟨a, ns, wide, rfl, hL, hlen, hw1, hw2, k⟩ := h
    refine ⟨_, pss_cons (ps_set (i := 2) sc__law_wished.nd rfl (Or.inl rfl) (pe_lst pa_nil))
      (pss_cons (ps_set (i := 3) sc__law_wished.nd rfl (Or.inl rfl) (pe_ix ix_list (pe_lst (pa_cons pe_int (pa_cons (pe_op op_pow pe_int pe_int) (pa_cons (pe_un un_neg (pe_op op_pow pe_int pe_int)) pa_nil)))) (pe_op op_mod (pv 1) pe_int) (fun _ _ => rfl)))
      (pss_cons (ps_set (i := 4) sc__law_wished.nd rfl (Or.inl rfl) (pe_ix ix_list (pe_lst (pa_cons pe_int (pa_cons pe_int (pa_cons pe_int pa_nil)))) (pe_op op_mod (pe_op op_fdiv (pv 1) pe_int) pe_int) (fun _ _ => rfl)))
      (pss_cons (ps_for PassesOwn.never rfl (pi_range1 rfl T.z_range (pa_cons (pe_callB call_len_seq (by rfl) T.z_len PySem.boot_len (pa_cons (pv 0) pa_nil)) pa_nil)) (pg_name (i := 5) sc__law_wished.nd rfl (Or.inl rfl))
          (pss_cons (ps_set (i := 6) sc__law_wished.nd rfl (Or.inl rfl) (pe_op op_add (pe_op op_sub (pe_op op_mod (pe_op op_add (pe_ix ix_list (pv 0) (pv 5) (fun _ _ => rfl)) (pe_op op_mul pe_int (pv 5))) (pv 1)) (pe_op op_fdiv (pv 1) pe_int)) (pv 3)))
          (pss_one (ps_expr (pe_bm PySem.F.plainAttrs_list PySem.slot_list_append rfl mt_append (pv 2) (pa_cons (pe_tup (pa_cons (pv 6) (pa_cons (pe_op op_add (pe_op op_add (pv 6) pe_int) (pe_op op_mod (pe_ix ix_list (pv 0) (pe_op op_sub (pv 5) pe_int) (fun _ _ => rfl)) (pv 4))) pa_nil))) pa_nil))))))
      (pss_one (ps_ret (pv 2)))))), ?_⟩
    refine ⟨Nat.zero_le _, fun pw hpw => set_go ?_⟩
    dsimp only
    have n1 : Same H (upd H pw (.lst [])) := Same.new hpw
    have lw1 : upd H pw (.lst []) pw = some (.lst []) := upd_same
    generalize upd H pw (.lst []) = H1 at n1 lw1
    -- far
    refine ⟨_, _, rfl, rfl, ⟨by decide, by decide, by decide⟩, _, _, rfl, rfl, ⟨by decide, by decide, by decide⟩, _, rfl, len3, fun p2 hp2 => ?_⟩
    obtain ⟨far, _, hfar⟩ := atI_map V.int [0, 10 ^ Int.toNat 20, -(10 ^ Int.toNat 20)] (wide % 3) (by omega) (by show _ < (3 : Int); omega)
    refine ⟨_, rfl, _, _, rfl, rfl, (by show (0 : Int) < 3; decide), _, _, _, _, rfl, rfl, SqL.of upd_same, hfar, set_go ?_⟩
    dsimp only
    have n2 := n1.trans (Same.new (o := .lst [.int 0, .int (10 ^ Int.toNat 20), .int (-(10 ^ Int.toNat 20))]) hp2)
    have lw2 := (Same.new (o := .lst [.int 0, .int (10 ^ Int.toNat 20), .int (-(10 ^ Int.toNat 20))]) hp2) _ _ lw1
    generalize upd H1 p2 (.lst [.int 0, .int (10 ^ Int.toNat 20), .int (-(10 ^ Int.toNat 20))]) = H2 at n2 lw2 ⊢
    -- most
    refine ⟨len3, fun p3 hp3 => ?_⟩
    obtain ⟨most, hmost, hmo⟩ := atI_map V.int [9, 40, 9] (wide / 3 % 3) (by omega) (by show _ < (3 : Int); omega)
    refine ⟨_, rfl, _, _, rfl, rfl, ⟨by decide, by decide⟩, _, _, rfl, rfl, (by show (0 : Int) < 3; decide), _, _, _, _, rfl, rfl, SqL.of upd_same, hmo, set_go ?_⟩
    dsimp only
    have n3 := n2.trans (Same.new (o := .lst [.int 9, .int 40, .int 9]) hp3)
    have lw3 := (Same.new (o := .lst [.int 9, .int 40, .int 9]) hp3) _ _ lw2
    generalize upd H2 p3 (.lst [.int 9, .int 40, .int 9]) = H3 at n3 lw3 ⊢
    have hm : 0 < most ∧ most ≤ 40 := by
      simp only [List.mem_cons, List.not_mem_nil, or_false] at hmost
      omega
    refine ⟨_, rfl, a, _, rfl, .inl (n3.seq hL), _, rfl, by rw [List.length_map]; omega, by rw [List.length_map]; omega, ?_⟩
    rw [List.length_map, Int.toNat_natCast]
    refine for_range (lo := 0) (n := ns.length) (fun i σ H' => ∃ (rs : List V) (ws : List (Int × Int)) (x5 x6 : Option V), σ = [some (.ref a), some (.int wide), some (.ref pw), some (.int far), some (.int most), x5, x6] ∧ Same H H' ∧ H' pw = some (.lst rs) ∧ TupsAt H' rs (ws.map pairVs) ∧ (∀ x ∈ ws, x.1 < x.2 ∧ x.2 ≤ x.1 + 40 ∧ far - 20 ≤ x.1 ∧ x.1 ≤ far + 70) ∧ ws.length = i)
      ⟨[], [], _, _, rfl, n3, lw3, .nil, fun x hx => (by cases hx), rfl⟩ ?_ ?_
    · rintro i σ H4 hi ⟨rs, ws, x5, x6, rfl, s4, lw, tw, hws, hl⟩
      refine set_go ?_
      dsimp only
      rw [Int.zero_add]
      have at1 := atI_ints (ns := ns) hi
      obtain ⟨prev, _, at2⟩ := atI_any V.int ns ((i : Int) - 1) (by omega) (by omega)
      generalize ns.getD i 0 = cell at at1
      refine ⟨_, rfl, _, rfl, _, _, _, _, rfl, rfl, s4.seq hL, at1, _, rfl, _, _, rfl, rfl, .inl ⟨by decide, by decide⟩, _, _, rfl, rfl, _, rfl, _, _, rfl, rfl, (by show 0 < wide; omega), _, rfl, _, _, rfl, rfl, ⟨by decide, by decide⟩, _, _, rfl, rfl, _, rfl, _, _, rfl, rfl, set_go ?_⟩
      dsimp only
      have b1 := Int.emod_nonneg (cell + 5 * (i : Int)) (show wide ≠ 0 by omega)
      have b2 := Int.emod_lt_of_pos (cell + 5 * (i : Int)) (show 0 < wide by omega)
      generalize (cell + 5 * (i : Int)) % wide = z at b1 b2
      have c1 := Int.emod_nonneg prev (show most ≠ 0 by omega)
      have c2 := Int.emod_lt_of_pos prev (show 0 < most by omega)
      refine ⟨_, rfl, .inl ⟨rfl, _, SqL.of lw⟩, _, rfl, _, rfl, _, _, rfl, rfl, _, rfl, _, rfl, _, _, rfl, rfl, _, _, _, _, rfl, rfl, s4.seq hL, at2, _, rfl, _, _, rfl, rfl, (by show 0 < most; omega), _, _, rfl, rfl, len2, fun pt hpt => ?_⟩
      generalize prev % most = y at c1 c2
      have rl : rs.length = ws.length := by rw [tw.len, List.length_map]
      refine ⟨pw, _, _, rfl, rfl, (Same.new hpt) _ _ lw, small_of (by omega), ?_⟩
      obtain ⟨e1, e2⟩ := app_tup (vs := pairVs (z - wide / 4 + far, z - wide / 4 + far + 1 + y)) hpw s4 lw tw hpt
      refine ⟨_, ws ++ [(z - wide / 4 + far, z - wide / 4 + far + 1 + y)], _, _, rfl, e1, upd_same, by rw [List.map_append]; exact e2, fun x hx => ?_, by rw [List.length_append, List.length_singleton]; omega⟩
      rcases List.mem_append.mp hx with h | h
      · exact hws x h
      · rw [List.mem_singleton.mp h]
        refine ⟨?_, ?_, ?_, ?_⟩
        · show z - wide / 4 + far < z - wide / 4 + far + 1 + y; omega
        · show z - wide / 4 + far + 1 + y ≤ z - wide / 4 + far + 40; omega
        · show far - 20 ≤ z - wide / 4 + far; omega
        · show z - wide / 4 + far ≤ far + 70; omega
    · rintro σ H4 ⟨rs, ws, x5, x6, rfl, s4, lw, tw, hws, hl⟩
      exact ⟨_, rfl, k pw rs ws far H4 hpw s4 lw tw hws hl⟩
def spLike : Sp := fun vs H Q _ => ∃ (a b : Addr) (rs rs' : List V) (vss : List (List V)), vs = [.ref a, .ref b] ∧ H a = some (.lst rs) ∧ H b = some (.lst rs') ∧ TupsAt H rs vss ∧ TupsAt H rs' vss ∧ (∀ vs ∈ vss, vs.all plainV = true ∧ vs.length ≤ 9) ∧ rs.length ≤ 2000 ∧ ∀ H', Same H H' → Q (.bl true) H'
abbrev s__law_like : Stmt := top 13
theorem sc__law_like : FnScope ["_law_found", "_law_due", "_law_got_parts", "_law_due_parts", "_law_one", "_law_two"] ["_law_found", "_law_due"] (defScope s__law_like) := ⟨rfl, rfl, rfl, by decide +kernel, rfl, by decide +kernel, by decide +kernel⟩
theorem ok__law_like {f : Addr} {fd : FuncData} (F : Fun K "_law_like" "_law_like" s__law_like f fd) (T : Txt mg) : FnOk P w K mg base CX0 1 f fd ["_law_found", "_law_due"] spLike := by
  refine F.ok sc__law_like (fun vs H Q E h => ?_) (fun cdv A outer s H vs Q E hr h => ?_)
  · obtain ⟨_, _, _, _, _, rfl, _⟩ := h
    rfl
  · obtain ⟨a, b, rs, rs', vss, rfl, la, lb, ta, tb, hv, hlen, k⟩ := h
    have hu := hu_of hr
    refine ⟨_, pss_cons (ps_set (i := 2) sc__law_like.nd rfl (Or.inl rfl) (pe_lst (pa_cons (pv 0) pa_nil)))
      (pss_cons (ps_set (i := 3) sc__law_like.nd rfl (Or.inl rfl) (pe_lst (pa_cons (pv 1) pa_nil)))
      (pss_cons (ps_while PassesOwn.never (pt_cmpR (op_neE (Nat.lt_of_succ_lt hu)) (pv 3) (pe_lst pa_nil) (nomark _))
          (pss_cons (ps_set (i := 4) sc__law_like.nd rfl (Or.inl rfl) (pe_bm0 PySem.F.plainAttrs_list PySem.F.slot_list_pop rfl mt_pop (pv 2)))
          (pss_cons (ps_set (i := 5) sc__law_like.nd rfl (Or.inl rfl) (pe_bm0 PySem.F.plainAttrs_list PySem.F.slot_list_pop rfl mt_pop (pv 3)))
          (pss_one (ps_if (pt_val (pe_callB call_isin (by rfl) T.z_isinstance boot_isinstance (pa_cons (pv 5) (pa_cons (pe_gty T.z_list bt_list) pa_nil))))
            (pss_cons (ps_if (pw_or (pt_not (pt_val (pe_callB call_isin (by rfl) T.z_isinstance boot_isinstance (pa_cons (pv 4) (pa_cons (pe_gty T.z_list bt_list) pa_nil))))) (pw_or1 (pt_cmpR op_ne (pe_callB call_len_seq (by rfl) T.z_len PySem.boot_len (pa_cons (pv 4) pa_nil)) (pe_callB call_len_seq (by rfl) T.z_len PySem.boot_len (pa_cons (pv 5) pa_nil)) (nomark _)))).pt
              (pss_one (ps_ret pe_bl))
              (pss_nil))
            (pss_cons (ps_expr (pe_bm PySem.F.plainAttrs_list PySem.F.slot_list_extend rfl mt_extend (pv 2) (pa_cons (pv 4) pa_nil)))
            (pss_one (ps_expr (pe_bm PySem.F.plainAttrs_list PySem.F.slot_list_extend rfl mt_extend (pv 3) (pa_cons (pv 5) pa_nil))))))
            (pss_one (ps_if (pt_val (pe_callB call_isin (by rfl) T.z_isinstance boot_isinstance (pa_cons (pv 5) (pa_cons (pe_gty T.z_tuple bt_tuple) pa_nil))))
              (pss_cons (ps_if (pw_or (pt_not (pt_val (pe_callB call_isin (by rfl) T.z_isinstance boot_isinstance (pa_cons (pv 4) (pa_cons (pe_gty T.z_tuple bt_tuple) pa_nil))))) (pw_or1 (pt_cmpR op_ne (pe_callB call_len_seq (by rfl) T.z_len PySem.boot_len (pa_cons (pv 4) pa_nil)) (pe_callB call_len_seq (by rfl) T.z_len PySem.boot_len (pa_cons (pv 5) pa_nil)) (nomark _)))).pt
                (pss_one (ps_ret pe_bl))
                (pss_nil))
              (pss_cons (ps_expr (pe_bm PySem.F.plainAttrs_list PySem.F.slot_list_extend rfl mt_extend (pv 2) (pa_cons (pe_callTy call_list_of (by rfl) T.z_list bt_list (pa_cons (pv 4) pa_nil)) pa_nil)))
              (pss_one (ps_expr (pe_bm PySem.F.plainAttrs_list PySem.F.slot_list_extend rfl mt_extend (pv 3) (pa_cons (pe_callTy call_list_of (by rfl) T.z_list bt_list (pa_cons (pv 5) pa_nil)) pa_nil))))))
              (pss_one (ps_if (pt_val (pe_callB call_isin (by rfl) T.z_isinstance boot_isinstance (pa_cons (pv 5) (pa_cons (pe_gty T.z_str bt_str) pa_nil))))
                (pss_one (ps_if (pw_or (pt_not (pt_val (pe_callB call_isin (by rfl) T.z_isinstance boot_isinstance (pa_cons (pv 4) (pa_cons (pe_gty T.z_str bt_str) pa_nil))))) (pw_or1 (pt_cmpR op_ne (pv 4) (pv 5) (nomark _)))).pt
                  (pss_one (ps_ret pe_bl))
                  (pss_nil)))
                (pss_one (ps_if (pt_cmpR op_isN (pv 5) pe_non (nomark _))
                  (pss_one (ps_if (pt_cmpR op_notN (pv 4) pe_non (nomark _))
                    (pss_one (ps_ret pe_bl))
                    (pss_nil)))
                  (pss_one (ps_if (pw_or (pt_not (pt_val (pe_callB call_isin (by rfl) T.z_isinstance boot_isinstance (pa_cons (pv 4) (pa_cons (pe_gty T.z_int bt_int) pa_nil))))) (pw_or1 (pt_cmpR op_ne (pe_callB call_isin (by rfl) T.z_isinstance boot_isinstance (pa_cons (pv 4) (pa_cons (pe_gty T.z_bool bt_bool) pa_nil))) (pe_callB call_isin (by rfl) T.z_isinstance boot_isinstance (pa_cons (pv 5) (pa_cons (pe_gty T.z_bool bt_bool) pa_nil))) (nomark _)))).pt
                    (pss_one (ps_ret pe_bl))
                    (pss_one (ps_if (pt_cmpR op_ne (pv 4) (pv 5) (nomark _))
                      (pss_one (ps_ret pe_bl))
                      (pss_nil))))))))))))))))
      (pss_one (ps_ret pe_bl)))), ?_⟩
    refine ⟨_, rfl, len1, fun pg hpg => set_go ?_⟩
    dsimp only
    refine ⟨_, rfl, len1, fun pd hpd => set_go ?_⟩
    dsimp only
    have hne : pd ≠ pg := fun e => by rw [e, upd_same] at hpd; cases hpd
    have hpd0 : H pd = none := (Same.new hpg).free hpd
    obtain ⟨N, hN, L0⟩ := Lks.ofTups (as := []) (bs := []) .nil ta tb hv
    rw [List.nil_append, List.nil_append] at L0
    have rl : rs.length = rs'.length := L0.len.1
    refine ⟨fun m σ H' => ∃ (gs ds : List V) (x4 x5 : Option V), σ = [some (.ref a), some (.ref b), some (.ref pg), some (.ref pd), x4, x5] ∧ Same H H' ∧ H' pg = some (.lst gs) ∧ H' pd = some (.lst ds) ∧ m ≤ N + 1 ∧ ((gs = [.ref a] ∧ ds = [.ref b] ∧ m = N + 1) ∨ Lks H gs ds m),
      ⟨N + 1, [.ref a], [.ref b], _, _, rfl, (Same.new hpg).put hpd0, by rw [upd_ne hne.symm, upd_same], upd_same, Nat.le_refl _, .inl ⟨rfl, rfl, rfl⟩⟩, ?_⟩
    rintro m σ H1 ⟨gs, ds, x4, x5, rfl, s1, lg, ld, hm, hc⟩
    refine ⟨_, rfl, Nat.zero_le _, fun pe hpe => ⟨pd, pe, ds, rfl, rfl, SqL.of ((Same.new hpe) _ _ ld), SqL.of upd_same, _, rfl, ?_⟩⟩
    have s2 : Same H (upd H1 pe (.lst [])) := s1.trans (Same.new hpe)
    have lg2 : upd H1 pe (.lst []) pg = some (.lst gs) := (Same.new hpe) _ _ lg
    have ld2 : upd H1 pe (.lst []) pd = some (.lst ds) := (Same.new hpe) _ _ ld
    generalize upd H1 pe (.lst []) = H2 at *
    -- the end
    have fin : ds = [] ∨ ∃ gs0 ds0 x y, gs = gs0 ++ [x] ∧ ds = ds0 ++ [y] := by
      rcases hc with ⟨h1, h2, _⟩ | h
      · exact .inr ⟨[], [], _, _, h1, h2⟩
      · cases h with
        | nil => exact .inl rfl
        | flat t h => exact .inr ⟨_, _, _, _, rfl, rfl⟩
        | tup t ha hb h => exact .inr ⟨_, _, _, _, rfl, rfl⟩
    rcases fin with rfl | ⟨gs0, ds0, x, y, rfl, rfl⟩
    · exact iteF (k _ s2)
    rw [show (!(ds0 ++ [y]).isEmpty) = true by cases ds0 <;> rfl]
    refine iteT ⟨_, fun σ' H' h => h, ?_⟩
    refine ⟨_, rfl, .inl ⟨rfl, _, SqL.of lg2⟩, pg, _, x, rfl, rfl, lg2, last_snoc, set_go ?_⟩
    dsimp only
    rw [List.dropLast_concat]
    have ld3 : upd H2 pg (.lst gs0) pd = some (.lst (ds0 ++ [y])) := by rw [upd_ne hne]; exact ld2
    refine ⟨_, rfl, .inl ⟨rfl, _, SqL.of ld3⟩, pd, _, y, rfl, rfl, ld3, last_snoc, set_go ?_⟩
    dsimp only
    rw [List.dropLast_concat]
    have s4 : Same H (upd (upd H2 pg (.lst gs0)) pd (.lst ds0)) := (s2.put hpg).put hpd0
    have lg4 : upd (upd H2 pg (.lst gs0)) pd (.lst ds0) pg = some (.lst gs0) := by rw [upd_ne hne.symm, upd_same]
    have ld4 : upd (upd H2 pg (.lst gs0)) pd (.lst ds0) pd = some (.lst ds0) := upd_same
    generalize upd (upd H2 pg (.lst gs0)) pd (.lst ds0) = H4 at *
    rcases hc with ⟨h1, h2, rfl⟩ | h
    · -- the two lists
      obtain ⟨rfl, rfl⟩ := snoc_one h1
      obtain ⟨rfl, rfl⟩ := snoc_one h2
      have la4 := s4 _ _ la
      have lb4 := s4 _ _ lb
      refine ⟨_, rfl, _, _, _, _, rfl, TyOf.lst lb4, kit_self, _, rfl, iteT ?_⟩
      refine ⟨_, rfl, _, _, _, _, rfl, TyOf.lst la4, kit_self, _, rfl, iteF ⟨_, rfl, _, _, rfl, .inl (SqL.of la4), _, rfl, _, _, rfl, .inl (SqL.of lb4), rfl, _, rfl, iteNS (by rw [rl]) ?_⟩⟩
      refine ⟨_, rfl, .inl ⟨rfl, _, SqL.of lg4⟩, _, rfl, pg, a, _, _, rfl, rfl, lg4, la4, Nat.le_of_lt (small_of (by rw [List.length_nil]; omega)), ?_⟩
      have sa : Same H (upd H4 pg (.lst ([] ++ rs))) := s4.put hpg
      have ld5 : upd H4 pg (.lst ([] ++ rs)) pd = some (.lst []) := by rw [upd_ne hne]; exact ld4
      refine ⟨_, rfl, .inl ⟨rfl, _, SqL.of ld5⟩, _, rfl, pd, b, _, _, rfl, rfl, ld5, sa _ _ lb, Nat.le_of_lt (small_of (by rw [List.length_nil]; omega)), ?_⟩
      exact ⟨N, by omega, rs, rs', _, _, rfl, sa.put hpd0, by rw [upd_ne hne.symm, upd_same]; rfl, upd_same, by omega, .inr L0⟩
    · generalize eg : gs0 ++ [x] = g1 at h
      generalize ed : ds0 ++ [y] = d1 at h
      cases h with
      | nil => cases gs0 <;> cases eg
      | @flat xs ys n v t hp =>
        obtain ⟨rfl, e1⟩ := List.append_inj' eg rfl
        obtain ⟨rfl, e2⟩ := List.append_inj' ed rfl
        cases e1; cases e2
        have done : ∃ m', m' < n + 1 ∧ ∃ (gs ds : List V) (x4 x5 : Option V), [some (.ref a), some (.ref b), some (.ref pg), some (.ref pd), some x, some x] = [some (.ref a), some (.ref b), some (.ref pg), some (.ref pd), x4, x5] ∧ Same H H4 ∧ H4 pg = some (.lst gs) ∧ H4 pd = some (.lst ds) ∧ m' ≤ N + 1 ∧ ((gs = [.ref a] ∧ ds = [.ref b] ∧ m' = N + 1) ∨ Lks H gs ds m') :=
          ⟨n, by omega, gs0, ds0, _, _, rfl, s4, lg4, ld4, by omega, .inr t⟩
        cases x with
        | int i =>
          refine ⟨_, rfl, _, _, _, _, rfl, TyOf.int _, kit_int_list, _, rfl, iteF ?_⟩
          refine ⟨_, rfl, _, _, _, _, rfl, TyOf.int _, kit_int_tup, _, rfl, iteF ?_⟩
          refine ⟨_, rfl, _, _, _, _, rfl, TyOf.int _, kit_int_str, _, rfl, iteF ?_⟩
          refine ⟨_, rfl, rfl, _, rfl, ?_⟩
          rw [decide_eq_false (by intro z; cases z)]
          refine iteF ⟨_, rfl, _, _, _, _, rfl, TyOf.int _, kit_self, _, rfl, iteF ⟨_, rfl, _, _, _, _, rfl, TyOf.int _, kit_int_bool, _, rfl, _, _, _, _, rfl, TyOf.int _, kit_int_bool, rfl, _, rfl, iteNS rfl ?_⟩⟩
          exact ⟨_, rfl, _, rfl, by unfold scal; rfl, _, rfl, iteNS rfl done⟩
        | str c =>
          refine ⟨_, rfl, _, _, _, _, rfl, TyOf.str _, kit_str_list, _, rfl, iteF ?_⟩
          refine ⟨_, rfl, _, _, _, _, rfl, TyOf.str _, kit_str_tup, _, rfl, iteF ?_⟩
          refine ⟨_, rfl, _, _, _, _, rfl, TyOf.str _, kit_self, _, rfl, iteT ?_⟩
          exact ⟨_, rfl, _, _, _, _, rfl, TyOf.str _, kit_self, _, rfl, iteF ⟨_, rfl, _, rfl, rfl, _, rfl, iteNS rfl done⟩⟩
        | _ => cases hp
      | @tup xs ys n c d vs t hc hd hp =>
        obtain ⟨rfl, e1⟩ := List.append_inj' eg rfl
        obtain ⟨rfl, e2⟩ := List.append_inj' ed rfl
        cases e1; cases e2
        have hc4 := s4 _ _ hc
        have hd4 := s4 _ _ hd
        have gl := t.len
        refine ⟨_, rfl, _, _, _, _, rfl, TyOf.tup hd4, kit_tup_list, _, rfl, iteF ?_⟩
        refine ⟨_, rfl, _, _, _, _, rfl, TyOf.tup hd4, kit_self, _, rfl, iteT ?_⟩
        refine ⟨_, rfl, _, _, _, _, rfl, TyOf.tup hc4, kit_self, _, rfl, iteF ⟨_, rfl, _, _, rfl, .inr (SqT.of hc4), _, rfl, _, _, rfl, .inr (SqT.of hd4), rfl, _, rfl, iteNS rfl ?_⟩⟩
        refine ⟨_, rfl, .inl ⟨rfl, _, SqL.of lg4⟩, _, rfl, c, vs, rfl, .inr (SqT.of hc4), fun l1 hl1 => ?_⟩
        have n1 := Same.new (o := .lst vs) hl1
        refine ⟨pg, l1, _, _, rfl, rfl, n1 _ _ lg4, upd_same, Nat.le_of_lt (small_of (by omega)), ?_⟩
        have s5 : Same H (upd (upd H4 l1 (.lst vs)) pg (.lst (gs0 ++ vs))) := (s4.trans n1).put hpg
        have ld5 : upd (upd H4 l1 (.lst vs)) pg (.lst (gs0 ++ vs)) pd = some (.lst ds0) := by rw [upd_ne hne]; exact n1 _ _ ld4
        have lg5 : upd (upd H4 l1 (.lst vs)) pg (.lst (gs0 ++ vs)) pg = some (.lst (gs0 ++ vs)) := upd_same
        generalize upd (upd H4 l1 (.lst vs)) pg (.lst (gs0 ++ vs)) = H5 at *
        refine ⟨_, rfl, .inl ⟨rfl, _, SqL.of ld5⟩, _, rfl, d, vs, rfl, .inr (SqT.of (s5 _ _ hd)), fun l2 hl2 => ?_⟩
        have n2 := Same.new (o := .lst vs) hl2
        refine ⟨pd, l2, _, _, rfl, rfl, n2 _ _ ld5, upd_same, Nat.le_of_lt (small_of (by omega)), ?_⟩
        exact ⟨n + vs.length, by omega, gs0 ++ vs, ds0 ++ vs, _, _, rfl, (s5.trans n2).put hpd0, by rw [upd_ne hne.symm]; exact n2 _ _ lg5, upd_same, by omega, .inr (t.flats vs hp)⟩
/-! ### the program's own: wishes -/
def spChanges : Sp := fun vs H Q _ => ∃ (a : Addr) (rs : List V) (ws : List (Int × Int)), vs = [.ref a] ∧ H a = some (.lst rs) ∧ TupsAt H rs (ws.map pairVs) ∧ (∀ x ∈ ws, x.1 < x.2) ∧ ws.length ≤ 1000 ∧
  ∀ (p : Addr) (ys : List V) (L : List Chg) (H' : Hp), H p = none → Same H H' → H' p = some (.lst ys) → TupsAt H' ys (L.map chgVs) → Swp ws L → Q (.ref p) H'
abbrev s_changes : Stmt := top 7
theorem sc_changes : FnScope ["wishes", "places", "begins", "ends"] ["wishes"] (defScope s_changes) := ⟨rfl, rfl, rfl, by decide +kernel, rfl, by decide +kernel, by decide +kernel⟩
theorem ok_changes {f : Addr} {fd : FuncData} (F : Fun K "changes" "changes" s_changes f fd) (T : Txt mg) (g_END : ∃ u, mg "END" = some (.int 0 u)) (g_BEGIN : ∃ u, mg "BEGIN" = some (.int 1 u)) : FnOk P w K mg base CX0 1 f fd ["wishes"] spChanges := by
  refine F.ok sc_changes (fun vs H Q E h => ?_) (fun cdv A outer s H vs Q E hr h => ?_)
  · obtain ⟨_, _, _, rfl, _⟩ := h
    rfl
  · obtain ⟨a, rs, ws, rfl, la, ta, pos, len, k⟩ := h
    have rl : rs.length = ws.length := by rw [ta.len, List.length_map]
    refine ⟨_, pss_cons (ps_setComp (i := 1) rfl (fv := ["wishes"]) (js := [0]) ⟨rfl, rfl, by decide +kernel, by decide +kernel, rfl, ⟨⟨rfl, rfl, Or.inl rfl, rfl⟩, trivial⟩, ⟨rfl, trivial⟩, rfl, by decide +kernel⟩ (pi_range1 rfl T.z_range (pa_cons (pe_callB call_len_seq (by rfl) T.z_len PySem.boot_len (pa_cons (pv 0) pa_nil)) pa_nil)) (fun _ _ _ _ => .inr ⟨_, rfl, (pt_cmpR op_lt (pe_ix (ix_tupK (K := K)) (pe_ix (ix_listK (K := K)) (pv 1) (pv 0) (fun _ _ => rfl)) pe_int (fun _ _ => rfl)) (pe_ix (ix_tupK (K := K)) (pe_ix (ix_listK (K := K)) (pv 1) (pv 0) (fun _ _ => rfl)) pe_int (fun _ _ => rfl)) (nomark _))⟩) (fun _ _ _ _ => (pv 0)) sc_changes.nd rfl (Or.inl rfl) rfl)
      (pss_cons (ps_setComp (i := 2) rfl (fv := ["wishes"]) (js := [0]) ⟨rfl, rfl, by decide +kernel, by decide +kernel, rfl, ⟨⟨rfl, rfl, Or.inl rfl, rfl⟩, trivial⟩, ⟨rfl, trivial⟩, rfl, by decide +kernel⟩ (pi_list (pv 1)) (fun _ _ _ _ => .inl ⟨rfl, rfl⟩) (fun _ _ _ _ => (pe_tup (pa_cons (pe_ix (ix_tupK (K := K)) (pe_ix (ix_listK (K := K)) (pv 1) (pv 0) (fun _ _ => rfl)) pe_int (fun _ _ => rfl)) (pa_cons (pe_gint g_BEGIN) (pa_cons (pv 0) pa_nil))))) sc_changes.nd rfl (Or.inl rfl) rfl)
      (pss_cons (ps_setComp (i := 3) rfl (fv := ["wishes"]) (js := [0]) ⟨rfl, rfl, by decide +kernel, by decide +kernel, rfl, ⟨⟨rfl, rfl, Or.inl rfl, rfl⟩, trivial⟩, ⟨rfl, trivial⟩, rfl, by decide +kernel⟩ (pi_list (pv 1)) (fun _ _ _ _ => .inl ⟨rfl, rfl⟩) (fun _ _ _ _ => (pe_tup (pa_cons (pe_ix (ix_tupK (K := K)) (pe_ix (ix_listK (K := K)) (pv 1) (pv 0) (fun _ _ => rfl)) pe_int (fun _ _ => rfl)) (pa_cons (pe_gint g_END) (pa_cons (pv 0) pa_nil))))) sc_changes.nd rfl (Or.inl rfl) rfl)
      (pss_one (ps_ret (pe_callB call_sortedT (by rfl) T.z_sorted boot_sorted (pa_cons (pe_op op_cat (pv 2) (pv 3)) pa_nil)))))), ?_⟩
    -- places
    refine ⟨_, rfl, a, rs, rfl, .inl (SqL.of la), _, rfl, by omega, by omega, fun p1 hp1 => ?_⟩
    rw [Int.toNat_natCast]
    refine comp_gen (n := rs.length) (by omega) (fun i ys H' => H' = upd H p1 (.lst ys) ∧ ys = (List.range i).map fun (j : Nat) => V.int (j : Int)) (fun i x => x = .int (0 + (i : Int))) ⟨rfl, rfl⟩ (fun ys H' _ => Nat.le_refl _) (fun i ys H' hi _ => ⟨hi, fun x H'' hy => hy⟩) (fun i ys H' h => by rw [h.2, List.length_map, List.length_range]; exact Nat.le_refl _) ?_ ?_
    · rintro i ys H' x hi ⟨rfl, rfl⟩ rfl N0 N1 hN0 hN1
      obtain ⟨aw, haw, hwt⟩ := wish_at ta (k := i) (by omega)
      have n1 := Same.new (o := .lst ((List.range i).map fun (j : Nat) => V.int (j : Int))) hp1
      have hpos := pos _ (List.mem_of_getElem? (getD_range (List.mem_range.mpr (by omega : i < ws.length))))
      rw [Int.zero_add]
      refine ⟨_, rfl, _, rfl, _, _, _, _, rfl, rfl, SqL.of (n1 _ _ la), atI_nat haw, _, _, _, _, rfl, rfl, SqT.of (n1 _ _ hwt), rfl, _, rfl, _, rfl, _, _, _, _, rfl, rfl, SqL.of (n1 _ _ la), atI_nat haw, _, _, _, _, rfl, rfl, SqT.of (n1 _ _ hwt), rfl, _, _, rfl, rfl, _, rfl, ?_⟩
      rw [decide_eq_true hpos]
      refine iteT ⟨_, rfl, hN1 _ _ upd_same ⟨by rw [upd_upd], ?_⟩⟩
      rw [List.range_succ, List.map_append]; rfl
    rintro ys H' ⟨rfl, rfl⟩
    refine set_go ?_
    dsimp only
    have s1 : Same H (upd H p1 (.lst ((List.range rs.length).map fun (j : Nat) => V.int (j : Int)))) := Same.new hp1
    have l1 : upd H p1 (.lst ((List.range rs.length).map fun (j : Nat) => V.int (j : Int))) p1 = some (.lst ((List.range rs.length).map fun (j : Nat) => V.int (j : Int))) := upd_same
    generalize upd H p1 (.lst ((List.range rs.length).map fun (j : Nat) => V.int (j : Int))) = H1 at s1 l1
    have pl : ((List.range rs.length).map fun (j : Nat) => V.int (j : Int)).length = rs.length := by rw [List.length_map, List.length_range]
    have at1 : ∀ {i : Nat} {x : V}, ((List.range rs.length).map fun (j : Nat) => V.int (j : Int))[i]? = some x → i < rs.length ∧ x = .int (i : Int) := fun {i x} e => by
      have hi : i < rs.length := by rw [← pl]; exact (List.getElem?_eq_some_iff.mp e).1
      rw [List.getElem?_map, List.getElem?_range hi] at e
      exact ⟨hi, (Option.some.inj e).symm⟩
    -- begins
    refine ⟨_, rfl, p1, rfl, ⟨_, SqL.of l1⟩, fun p2 hp2 => ?_⟩
    refine comp_gen (n := rs.length) (by omega) (fun i ys H' => Same H1 H' ∧ H' p2 = some (.lst ys) ∧ TupsAt H' ys (((List.range i).map (begOf ws)).map chgVs)) (fun i x => i < rs.length ∧ x = .int (i : Int)) ⟨Same.new hp2, upd_same, .nil⟩ (fun ys H' h => ⟨_, SqL.of (h.1 _ _ l1), by rw [pl]; exact Nat.le_refl _⟩) (fun i ys H' hi h => ⟨⟨_, _, SqL.of (h.1 _ _ l1), List.getElem?_eq_getElem (by rw [pl]; exact hi)⟩, fun x H'' hy => ⟨hy.1, at1 (hy.2 _ (SqL.of (h.1 _ _ l1)))⟩⟩) (fun i ys H' h => by rw [h.2.2.len, List.length_map, List.length_map, List.length_range]; exact Nat.le_refl _) ?_ ?_
    · rintro i ys H' x hi ⟨sm, lp, tp⟩ ⟨_, rfl⟩ N0 N1 hN0 hN1
      have s1' := s1.trans sm
      obtain ⟨aw, haw, hwt⟩ := wish_at (ta.same s1') (k := i) (by omega)
      unfold tTrue
      dsimp only
      refine iteT ⟨_, rfl, _, rfl, _, _, _, _, rfl, rfl, SqL.of (s1' _ _ la), atI_nat haw, _, _, _, _, rfl, rfl, SqT.of hwt, rfl, _, rfl, len3, fun pt hpt => ?_⟩
      have np : pt ≠ p2 := fun e => by rw [e, lp] at hpt; cases hpt
      have n2 : Same H' (upd H' pt (.tup (chgVs (begOf ws i)))) := Same.new hpt
      refine hN1 _ _ (n2 _ _ lp) ⟨(sm.trans n2).put hp2, upd_same, ?_⟩
      rw [List.range_succ, List.map_append, List.map_append]
      exact (TupsAt.over (n2 _ _ lp) (tp.same n2)).append (.cons ⟨pt, rfl, by rw [upd_ne np]; exact upd_same⟩ .nil)
    rintro ys2 H2 ⟨s2, l2, t2⟩
    refine set_go ?_
    dsimp only
    -- ends
    refine ⟨_, rfl, p1, rfl, ⟨_, SqL.of (s2 _ _ l1)⟩, fun p3 hp3 => ?_⟩
    refine comp_gen (n := rs.length) (by omega) (fun i ys H' => Same H2 H' ∧ H' p3 = some (.lst ys) ∧ TupsAt H' ys (((List.range i).map (endOf ws)).map chgVs)) (fun i x => i < rs.length ∧ x = .int (i : Int)) ⟨Same.new hp3, upd_same, .nil⟩ (fun ys H' h => ⟨_, SqL.of (h.1 _ _ (s2 _ _ l1)), by rw [pl]; exact Nat.le_refl _⟩) (fun i ys H' hi h => ⟨⟨_, _, SqL.of (h.1 _ _ (s2 _ _ l1)), List.getElem?_eq_getElem (by rw [pl]; exact hi)⟩, fun x H'' hy => ⟨hy.1, at1 (hy.2 _ (SqL.of (h.1 _ _ (s2 _ _ l1))))⟩⟩) (fun i ys H' h => by rw [h.2.2.len, List.length_map, List.length_map, List.length_range]; exact Nat.le_refl _) ?_ ?_
    · rintro i ys H' x hi ⟨sm, lp, tp⟩ ⟨_, rfl⟩ N0 N1 hN0 hN1
      have s1' := (s1.trans s2).trans sm
      obtain ⟨aw, haw, hwt⟩ := wish_at (ta.same s1') (k := i) (by omega)
      unfold tTrue
      dsimp only
      refine iteT ⟨_, rfl, _, rfl, _, _, _, _, rfl, rfl, SqL.of (s1' _ _ la), atI_nat haw, _, _, _, _, rfl, rfl, SqT.of hwt, rfl, _, rfl, len3, fun pt hpt => ?_⟩
      have np : pt ≠ p3 := fun e => by rw [e, lp] at hpt; cases hpt
      have n2 : Same H' (upd H' pt (.tup (chgVs (endOf ws i)))) := Same.new hpt
      refine hN1 _ _ (n2 _ _ lp) ⟨(sm.trans n2).put hp3, upd_same, ?_⟩
      rw [List.range_succ, List.map_append, List.map_append]
      exact (TupsAt.over (n2 _ _ lp) (tp.same n2)).append (.cons ⟨pt, rfl, by rw [upd_ne np]; exact upd_same⟩ .nil)
    rintro ys3 H3 ⟨s3, l3, t3⟩
    refine set_go ?_
    dsimp only
    -- sorted(begins + ends)
    have z2 : ys2.length = rs.length := by rw [t2.len, List.length_map, List.length_map, List.length_range]
    have z3 : ys3.length = rs.length := by rw [t3.len, List.length_map, List.length_map, List.length_range]
    refine ⟨_, rfl, _, rfl, p2, p3, ys2, ys3, rfl, rfl, s3 _ _ l2, l3, Nat.le_of_lt (small_of (by omega)), fun p4 hp4 => ?_⟩
    have n4 : Same H3 (upd H3 p4 (.lst (ys2 ++ ys3))) := Same.new hp4
    have tt : TupsAt (upd H3 p4 (.lst (ys2 ++ ys3))) (ys2 ++ ys3) ((((List.range ws.length).map (begOf ws) ++ (List.range ws.length).map (endOf ws)).map chg3).map fun ns => ns.map V.int) := by
      rw [List.map_map, List.map_append, ← rl]
      exact ((t2.same s3).same n4).append (t3.same n4)
    refine ⟨p4, ys2 ++ ys3, _, rfl, upd_same, tt, fun ns hn => ?_, by rw [List.length_append]; omega, fun l ys mss hl pm tl so => ?_⟩
    · obtain ⟨c, _, rfl⟩ := List.mem_map.mp hn
      exact fun e => by cases e
    obtain ⟨L, rfl, sw⟩ := swp_of pos pm so
    have s4 := ((s1.trans s2).trans s3).trans n4
    have n5 := Same.new (o := .lst ys) hl
    refine k l ys L _ (s4.free hl) (s4.trans n5) upd_same ?_ sw
    rw [List.map_map] at tl
    exact tl.same n5
def spShared : Sp := fun vs H Q _ => ∃ (a : Addr) (rs : List V) (ws : List (Int × Int)), vs = [.ref a] ∧ H a = some (.lst rs) ∧ TupsAt H rs (ws.map pairVs) ∧ (∀ x ∈ ws, x.1 < x.2) ∧ ws.length ≤ 1000 ∧
  ∀ (p : Addr) (H' : Hp) (s : Sh) (L : List Chg), H p = none → Same H H' → H' p = some (.lst (s.rooms.map V.int)) → Swp ws L → ShOk ws L L.length s → Q (.ref p) H'
theorem ixN_nat {n i : Nat} (h : i < n) : ixN n (i : Int) = some i := by
  unfold ixN
  rw [if_pos (Int.natCast_nonneg _), if_pos (by omega)]
  simp
theorem tups_keep {H H' : Hp} (e : ∀ b vs, H b = some (.tup vs) → H' b = some (.tup vs)) {rs : List V} {vss : List (List V)} (h : TupsAt H rs vss) : TupsAt H' rs vss := Paired.mapP h fun _ _ ⟨a, h1, h2⟩ => ⟨a, h1, e _ _ h2⟩
abbrev s_shared_out : Stmt := top 3
theorem sc_shared_out : FnScope ["wishes", "rooms", "idle", "known", "change", "place"] ["wishes"] (defScope s_shared_out) := ⟨rfl, rfl, rfl, by decide +kernel, rfl, by decide +kernel, by decide +kernel⟩
theorem ok_shared_out {f : Addr} {fd : FuncData} (F : Fun K "shared_out" "shared_out" s_shared_out f fd) (T : Txt mg) (g_END : ∃ u, mg "END" = some (.int 0 u)) (G_changes : Fn P w K mg base 1 "changes" ["wishes"] spChanges) : FnOk P w K mg base CX0 9 f fd ["wishes"] spShared := by
  refine F.ok sc_shared_out (fun vs H Q E h => ?_) (fun cdv A outer s H vs Q E hr h => ?_)
  · obtain ⟨_, _, _, rfl, _⟩ := h
    rfl
  · obtain ⟨a, rs, ws, rfl, la, ta, pos, len, k⟩ := h
    have rl : rs.length = ws.length := by rw [ta.len, List.length_map]
    have hsl : (1000000 : Nat) ≤ sizeLine := by decide
    refine ⟨_, pss_cons (ps_set (i := 1) sc_shared_out.nd rfl (Or.inl rfl) (pe_op op_rep (pe_lst (pa_cons pe_int pa_nil)) (pe_callB call_len_seq (by rfl) T.z_len PySem.boot_len (pa_cons (pv 0) pa_nil))))
      (pss_cons (ps_set (i := 2) sc_shared_out.nd rfl (Or.inl rfl) (pe_lst pa_nil))
      (pss_cons (ps_set (i := 3) sc_shared_out.nd rfl (Or.inl rfl) pe_int)
      (pss_cons (ps_for PassesOwn.never rfl (pi_list (pe_fn G_changes hr (pa_cons (pv 0) pa_nil))) (pg_name (i := 4) sc_shared_out.nd rfl (Or.inl rfl))
          (pss_cons (ps_set (i := 5) sc_shared_out.nd rfl (Or.inl rfl) (pe_ix ix_tup (pv 4) pe_int (fun _ _ => rfl)))
          (pss_one (ps_if (pt_cmpR op_eq (pe_ix ix_tup (pv 4) pe_int (fun _ _ => rfl)) (pe_gint g_END) (nomark _))
            (pss_one (ps_expr (pe_bm PySem.F.plainAttrs_list PySem.slot_list_append rfl mt_append (pv 2) (pa_cons (pe_ix ix_list (pv 1) (pv 5) (fun _ _ => rfl)) pa_nil))))
            (pss_one (ps_if (pt_truth (pv 2) (fun _ => rfl))
              (pss_one (ps_asg (pe_bm0 PySem.F.plainAttrs_list PySem.F.slot_list_pop rfl mt_pop (pv 2)) (pg_sub (pv 1) (pv 5) set_list)))
              (pss_cons (ps_asg (pv 3) (pg_sub (pv 1) (pv 5) set_list))
              (pss_one (ps_aug (i := 3) sc_shared_out.nd rfl (Or.inl rfl) pe_int ip_add)))))))))
      (pss_one (ps_ret (pv 1)))))), ?_⟩
    -- rooms
    refine ⟨len1, fun p0 hp0 => ⟨_, rfl, a, rs, rfl, .inl (SqL.of ((Same.new hp0) _ _ la)), p0, _, _, rfl, rfl, upd_same, by omega, by omega, by rw [Int.toNat_natCast, List.length_singleton]; omega, fun p1 hp1 => set_go ?_⟩⟩
    dsimp only
    have e0 : (List.replicate ((rs.length : Int)).toNat [V.int 0]).flatten = (List.replicate ws.length (0 : Int)).map V.int := by
      rw [Int.toNat_natCast, rl]
      generalize ws.length = n
      induction n with
      | zero => rfl
      | succ n ih => rw [List.replicate_succ, List.flatten_cons, ih]; rfl
    rw [e0]
    have hp1H : H p1 = none := (Same.new hp0).free hp1
    have n1 := (Same.new (o := .lst [.int 0]) hp0).trans (Same.new (o := .lst ((List.replicate ws.length (0 : Int)).map V.int)) hp1)
    have l1 : upd (upd H p0 (.lst [.int 0])) p1 (.lst ((List.replicate ws.length (0 : Int)).map V.int)) p1 = _ := upd_same
    generalize upd (upd H p0 (.lst [.int 0])) p1 (.lst ((List.replicate ws.length (0 : Int)).map V.int)) = H1 at n1 l1
    -- idle, known
    refine ⟨Nat.zero_le _, fun p2 hp2 => set_go ?_⟩
    dsimp only
    have n2 := Same.new (o := .lst []) hp2
    have hp2H : H p2 = none := n1.free hp2
    have ne : p1 ≠ p2 := fun e => by rw [← e, l1] at hp2; cases hp2
    have l1' := n2 _ _ l1
    have l2' : upd H1 p2 (.lst []) p2 = some (.lst []) := upd_same
    have n3 := n1.trans n2
    generalize upd H1 p2 (.lst []) = H2 at n3 l1' l2'
    refine set_go ?_
    dsimp only
    refine ⟨_, rfl, a, rs, ws, rfl, n3 _ _ la, ta.same n3, pos, len, fun p ys L H3 hp s1 lp tp sw => ?_⟩
    have yl : ys.length = L.length := by rw [tp.len, List.length_map]
    have Ll : L.length = ws.length + ws.length := by rw [sw.perm.length_eq, List.length_append, List.length_map, List.length_map, List.length_range]
    have ne1 : p ≠ p1 := fun e => by rw [e, l1'] at hp; cases hp
    have ne2 : p ≠ p2 := fun e => by rw [e, l2'] at hp; cases hp
    refine ⟨_, rfl, ⟨_, SqL.of lp⟩, for_list (K := K) (a := p) (xs := ys) (fun i σ H' => ∃ (t : Sh) (x y : Option V), σ = [some (.ref a), some (.ref p1), some (.ref p2), some (.int t.known), x, y] ∧ ShOk ws L i t ∧ Same H H' ∧ H' p = some (.lst ys) ∧ TupsAt H' ys (L.map chgVs) ∧ H' p1 = some (.lst (t.rooms.map V.int)) ∧ H' p2 = some (.lst (t.idle.map V.int)) ∧ t.idle.length ≤ i)
      ⟨⟨List.replicate ws.length 0, [], 0⟩, none, none, rfl, ShOk.start _ (List.length_replicate), n3.trans s1, lp, tp, s1 _ _ l1', s1 _ _ l2', Nat.le_refl _⟩ (fun i σ H' _ h => by obtain ⟨_, _, _, _, _, _, z, _⟩ := h; exact SqL.of z) ?_ ?_⟩
    · rintro i v σ H' hv ⟨t, x, y, rfl, ok, sH, lp', tp', e1, e2, il⟩
      obtain ⟨ac, vs, rfl, hct, hc⟩ := tp'.get hv
      rw [List.getElem?_map] at hc
      cases ec : L[i]? with
      | none => rw [ec] at hc; cases hc
      | some c =>
        rw [ec] at hc
        cases hc
        have hi : i < L.length := (List.getElem?_eq_some_iff.mp ec).1
        have hcp := (sw.mem (List.mem_of_getElem? ec)).1
        have nx := ok.step sw ec
        have hrl : t.rooms.length = ws.length := ok.len
        refine set_go ?_
        dsimp only
        refine ⟨_, rfl, _, _, _, _, rfl, rfl, SqT.of hct, rfl, set_go ?_⟩
        dsimp only
        refine ⟨_, rfl, _, _, _, _, rfl, rfl, SqT.of hct, rfl, rfl, _, rfl, ?_⟩
        show (if decide (V.int (kindN c) = V.int 0) = true then _ else _)
        have tupsP : ∀ (r : Addr) (o : HO), r = p1 ∨ r = p2 → TupsAt (upd H' r o) ys (L.map chgVs) := fun r o hr => tups_keep (h := tp') fun b z e => by
          rcases hr with rfl | rfl
          · rw [upd_ne]; exact e
            intro z; rw [z, e1] at e; cases e
          · rw [upd_ne]; exact e
            intro z; rw [z, e2] at e; cases e
        cases hb : c.b with
        | false =>
          rw [show decide (V.int (kindN c) = V.int 0) = true by unfold kindN; rw [hb]; decide]
          have st : t.step c = ⟨t.rooms, t.idle ++ [t.rooms.getD c.p 0], t.known⟩ := by unfold Sh.step; rw [hb]; rfl
          rw [st] at nx
          refine iteT ⟨_, rfl, .inl ⟨rfl, _, SqL.of e2⟩, _, rfl, _, rfl, _, _, _, _, rfl, rfl, SqL.of e1, atI_ints (ns := t.rooms) (by omega), p2, _, _, rfl, rfl, e2, by rw [List.length_map]; omega, ?_⟩
          refine ⟨⟨t.rooms, t.idle ++ [t.rooms.getD c.p 0], t.known⟩, _, _, rfl, nx, sH.put hp2H, by rw [upd_ne ne2]; exact lp', tupsP _ _ (.inr rfl), by rw [upd_ne ne]; exact e1, ?_, by rw [List.length_append, List.length_singleton]; omega⟩
          rw [upd_same, List.map_append]; rfl
        | true =>
          rw [show decide (V.int (kindN c) = V.int 0) = false by unfold kindN; rw [hb]; decide]
          refine iteF ⟨_, rfl, _, .inl ⟨_, SqL.of e2, rfl⟩, ?_⟩
          cases hl : t.idle.getLast? with
          | none =>
            have hn := List.getLast?_eq_none_iff.mp hl
            have st : t.step c = ⟨t.rooms.set c.p t.known, t.idle, t.known + 1⟩ := by unfold Sh.step; rw [hb, hl]; rfl
            rw [st] at nx
            rw [show (!(t.idle.map V.int).isEmpty) = false by rw [hn]; rfl]
            refine iteF ⟨_, rfl, _, rfl, _, rfl, p1, _, _, _, rfl, rfl, e1, ixN_nat (by rw [List.length_map]; omega), ?_⟩
            rw [← List.map_set]
            refine ⟨_, rfl, _, _, rfl, rfl, ?_⟩
            exact ⟨⟨t.rooms.set c.p t.known, t.idle, t.known + 1⟩, _, _, rfl, nx, sH.put hp1H, by rw [upd_ne ne1]; exact lp', tupsP _ _ (.inl rfl), upd_same, by rw [upd_ne ne.symm]; exact e2, (show t.idle.length ≤ i + 1 by omega)⟩
          | some r =>
            have st : t.step c = ⟨t.rooms.set c.p r, t.idle.dropLast, t.known⟩ := by unfold Sh.step; rw [hb, hl]; rfl
            rw [st] at nx
            have hne : t.idle ≠ [] := fun e => by rw [e] at hl; cases hl
            rw [show (!(t.idle.map V.int).isEmpty) = true by cases hh : t.idle with | nil => exact absurd hh hne | cons _ _ => rfl]
            have gl : (t.idle.map V.int)[(t.idle.map V.int).length - 1]? = some (.int r) := by
              rw [← List.getLast?_eq_getElem?, List.getLast?_map, hl]; rfl
            refine iteT ⟨_, rfl, .inl ⟨rfl, _, SqL.of e2⟩, p2, _, _, rfl, rfl, e2, gl, _, rfl, _, rfl, p1, _, _, _, rfl, rfl, by rw [upd_ne ne]; exact e1, ixN_nat (by rw [List.length_map]; omega), ?_⟩
            rw [← List.map_set, ← List.map_dropLast]
            refine ⟨⟨t.rooms.set c.p r, t.idle.dropLast, t.known⟩, _, _, rfl, nx, (sH.put hp2H).put hp1H, by rw [upd_ne ne1, upd_ne ne2]; exact lp', ?_, upd_same, by rw [upd_ne ne.symm, upd_same], by rw [List.length_dropLast]; omega⟩
            refine tups_keep (h := tupsP p2 (.lst (t.idle.dropLast.map V.int)) (.inr rfl)) fun b z e => ?_
            rw [upd_ne]; exact e
            intro z; rw [z, upd_ne ne, e1] at e; cases e
    · rintro σ H' ⟨t, x, y, rfl, ok, sH, lp', tp', e1, e2, il⟩
      rw [yl] at ok
      exact ⟨_, rfl, k p1 H' t L hp1H sH e1 sw ok⟩
def spCrowd : Sp := fun vs H Q _ => ∃ (a : Addr) (rs : List V) (ws : List (Int × Int)), vs = [.ref a] ∧ H a = some (.lst rs) ∧ TupsAt H rs (ws.map pairVs) ∧ (∀ x ∈ ws, x.1 < x.2) ∧ ws.length ≤ 1000 ∧
  (ws = [] → ∀ H', Same H H' → Q .non H') ∧ (ws ≠ [] → ∀ (p q : Addr) (h : Int) (H' : Hp), Same H H' → H' p = some (.tup [.int h, .ref q]) → H' q = some (.lst ((places ws h).map fun (k : Nat) => V.int (k : Int))) → (∀ h', cntN ws ws.length h' ≤ cntN ws ws.length h) → Q (.ref p) H')
def spBusiest : Sp := fun vs H Q _ => ∃ (a : Addr) (rs : List V) (ws : List (Int × Int)), vs = [.ref a] ∧ H a = some (.lst rs) ∧ TupsAt H rs (ws.map pairVs) ∧ (∀ x ∈ ws, x.1 < x.2) ∧ ws.length ≤ 1000 ∧ ws ≠ [] ∧
  ∀ (h : Int) (H' : Hp), Same H H' → (∀ h', cntN ws ws.length h' ≤ cntN ws ws.length h) → Q (.int h) H'
abbrev s_busiest : Stmt := top 5
theorem sc_busiest : FnScope ["wishes", "hour", "most", "count", "change"] ["wishes"] (defScope s_busiest) := ⟨rfl, rfl, rfl, by decide +kernel, rfl, by decide +kernel, by decide +kernel⟩
theorem ok_busiest {f : Addr} {fd : FuncData} (F : Fun K "busiest" "busiest" s_busiest f fd) (T : Txt mg) (g_END : ∃ u, mg "END" = some (.int 0 u)) (G_changes : Fn P w K mg base 1 "changes" ["wishes"] spChanges) : FnOk P w K mg base CX0 2 f fd ["wishes"] spBusiest := by
  refine F.ok sc_busiest (fun vs H Q E h => ?_) (fun cdv A outer s H vs Q E hr h => ?_)
  · obtain ⟨_, _, _, rfl, _⟩ := h
    rfl
  · obtain ⟨a, rs, ws, rfl, la, ta, pos, len, ne, k⟩ := h
    have rl : rs.length = ws.length := by rw [ta.len, List.length_map]
    have wl : 0 < ws.length := by
      cases ws with
      | nil => exact absurd rfl ne
      | cons _ _ => exact Nat.succ_pos _
    refine ⟨_, pss_cons (ps_set (i := 1) sc_busiest.nd rfl (Or.inl rfl) (pe_ix ix_tup (pe_ix ix_list (pv 0) pe_int (fun _ _ => rfl)) pe_int (fun _ _ => rfl)))
      (pss_cons (ps_set (i := 2) sc_busiest.nd rfl (Or.inl rfl) pe_int)
      (pss_cons (ps_set (i := 3) sc_busiest.nd rfl (Or.inl rfl) pe_int)
      (pss_cons (ps_for PassesOwn.never rfl (pi_list (pe_fn G_changes hr (pa_cons (pv 0) pa_nil))) (pg_name (i := 4) sc_busiest.nd rfl (Or.inl rfl))
          (pss_cons (ps_if (pt_cmpR op_eq (pe_ix ix_tup (pv 4) pe_int (fun _ _ => rfl)) (pe_gint g_END) (nomark _))
            (pss_one (ps_aug (i := 3) sc_busiest.nd rfl (Or.inl rfl) pe_int ip_sub))
            (pss_one (ps_aug (i := 3) sc_busiest.nd rfl (Or.inl rfl) pe_int ip_add)))
          (pss_one (ps_if (pt_cmpR op_gt (pv 3) (pv 2) (nomark _))
            (pss_cons (ps_set (i := 2) sc_busiest.nd rfl (Or.inl rfl) (pv 3))
            (pss_one (ps_set (i := 1) sc_busiest.nd rfl (Or.inl rfl) (pe_ix ix_tup (pv 4) pe_int (fun _ _ => rfl)))))
            (pss_nil)))))
      (pss_one (ps_ret (pv 1)))))), ?_⟩
    obtain ⟨aw, haw, hwt⟩ := wish_at ta wl
    refine ⟨_, rfl, _, _, _, _, rfl, rfl, SqL.of la, (atI_nat haw : atI rs ((0 : Nat) : Int) = _), _, _, _, _, rfl, rfl, SqT.of hwt, rfl, set_go ?_⟩
    dsimp only
    refine seq_at (fun σ H' => H = H' ∧ σ = [some (.ref a), some (.int (ws.getD 0 (0, 0)).1), some (.int 0), none, none]) (fun M hM => hM _ _ ⟨rfl, rfl⟩) ?_
    rintro σ H0 ⟨rfl, rfl⟩
    refine seq_at (fun σ H' => H = H' ∧ σ = [some (.ref a), some (.int (ws.getD 0 (0, 0)).1), some (.int 0), some (.int 0), none]) (fun M hM => hM _ _ ⟨rfl, rfl⟩) ?_
    rintro σ H0 ⟨rfl, rfl⟩
    refine ⟨_, rfl, a, rs, ws, rfl, la, ta, pos, len, fun p ys L H1 hp s1 lp tp sw => ?_⟩
    have yl : ys.length = L.length := by rw [tp.len, List.length_map]
    refine ⟨_, rfl, ⟨_, SqL.of lp⟩, for_list (K := K) (a := p) (xs := ys) (fun i σ H' => H1 = H' ∧ ∃ (hour most : Int) (x : Option V), σ = [some (.ref a), some (.int hour), some (.int most), some (.int (cnt (L.take i))), x] ∧ (∀ j, j ≤ i → cnt (L.take j) ≤ most) ∧ most ≤ (cntN ws ws.length hour : Nat))
      ⟨rfl, (ws.getD 0 (0, 0)).1, 0, none, rfl, fun j hj => by rw [Nat.le_zero.mp hj, List.take_zero]; exact Int.le_refl _, Int.natCast_nonneg _⟩ (fun i σ H' _ h => by rw [← h.1]; exact SqL.of lp) ?_ ?_⟩
    · rintro i v σ H' hv ⟨rfl, hour, most, x, rfl, h1, h2⟩
      obtain ⟨ac, vs, rfl, hct, hc⟩ := tp.get hv
      rw [List.getElem?_map] at hc
      cases ec : L[i]? with
      | none => rw [ec] at hc; cases hc
      | some c =>
        rw [ec] at hc
        cases hc
        have tk : L.take (i + 1) = L.take i ++ [c] := by rw [List.take_add_one, ec]; rfl
        have cn : cnt (L.take (i + 1)) = cnt (L.take i) + if c.b then 1 else -1 := by rw [tk, cnt_snoc]
        refine set_go ?_
        dsimp only
        refine seq_at (fun σ H' => H1 = H' ∧ σ = [some (.ref a), some (.int hour), some (.int most), some (.int (cnt (L.take (i + 1)))), some (.ref ac)]) (fun M hM => ?_) ?_
        · refine ⟨_, rfl, _, _, _, _, rfl, rfl, SqT.of hct, rfl, rfl, _, rfl, ?_⟩
          show (if decide (V.int (kindN c) = V.int 0) = true then _ else _)
          cases hb : c.b with
          | true =>
            rw [show decide (V.int (kindN c) = V.int 0) = false by unfold kindN; rw [hb]; decide]
            rw [hb] at cn
            exact iteF ⟨_, rfl, _, _, rfl, rfl, hM _ _ ⟨rfl, by rw [cn]; rfl⟩⟩
          | false =>
            rw [show decide (V.int (kindN c) = V.int 0) = true by unfold kindN; rw [hb]; decide]
            rw [hb] at cn
            exact iteT ⟨_, rfl, _, _, rfl, rfl, hM _ _ ⟨rfl, by rw [cn]; rfl⟩⟩
        rintro σ H2 ⟨rfl, rfl⟩
        refine ⟨_, rfl, _, rfl, _, _, rfl, rfl, _, rfl, ?_⟩
        have mono : ∀ m' : Int, most ≤ m' → cnt (L.take (i + 1)) ≤ m' → ∀ j, j ≤ i + 1 → cnt (L.take j) ≤ m' := fun m' g1 g2 j hj => by
          by_cases z : j ≤ i
          · have := h1 j z; omega
          · rw [show j = i + 1 by omega]; exact g2
        cases d : decide (most < cnt (L.take (i + 1))) with
        | false =>
          have d' := of_decide_eq_false d
          exact iteF ⟨rfl, hour, most, _, rfl, mono most (Int.le_refl _) (by omega), h2⟩
        | true =>
          have d' := of_decide_eq_true d
          have hb : c.b = true := by
            cases hb : c.b with
            | true => rfl
            | false =>
              rw [hb] at cn
              have := h1 i (Nat.le_refl _)
              have cn : cnt (L.take (i + 1)) = cnt (L.take i) + -1 := cn
              omega
          exact iteT ⟨_, rfl, _, rfl, _, _, _, _, rfl, rfl, SqT.of hct, rfl, rfl, c.h, _, _, rfl, mono _ (by omega) (Int.le_refl _), sw.le_hour ec hb⟩
    · rintro σ H' ⟨rfl, hour, most, x, rfl, h1, h2⟩
      refine ⟨_, rfl, k hour _ s1 fun h' => ?_⟩
      obtain ⟨j, j1, j2⟩ := sw.hour_cut h'
      have := h1 j (by omega)
      omega
def spIsFor (K : PySem.W.Frag) : Sp := fun vs H Q _ => ∃ (p : Addr) (x : Int × Int) (h : Int), vs = [.ref p, .int h] ∧ SqT K H p (pairVs x) ∧ Q (.bl (inW x h)) H
abbrev s_is_for : Stmt := top 6
theorem sc_is_for : FnScope ["wish", "hour"] ["wish", "hour"] (defScope s_is_for) := ⟨rfl, rfl, rfl, by decide +kernel, rfl, by decide +kernel, by decide +kernel⟩
theorem ok_is_for {f : Addr} {fd : FuncData} (F : Fun K "is_for" "is_for" s_is_for f fd) : FnOk P w K mg base CX0 1 f fd ["wish", "hour"] (spIsFor K) := by
  refine F.ok sc_is_for (fun vs H Q E h => ?_) (fun cdv A outer s H vs Q E hr h => ?_)
  · obtain ⟨_, _, _, rfl, _⟩ := h
    rfl
  · obtain ⟨p, x, h, rfl, hT, k⟩ := h
    refine ⟨_, pss_one (ps_ret (pe_and (pe_cmpR op_le (pe_ix ix_tup (pv 0) pe_int (fun _ _ => rfl)) (pv 1) (nomark _)) (pe_one (pe_cmpR op_lt (pv 1) (pe_ix ix_tup (pv 0) pe_int (fun _ _ => rfl)) (nomark _))))), ?_⟩
    refine ⟨_, rfl, _, _, _, _, rfl, rfl, hT, rfl, _, rfl, _, _, rfl, rfl, _, rfl, ?_⟩
    unfold inW at k
    cases c : decide (x.1 ≤ h) with
    | false => rw [c] at k; exact iteF k
    | true =>
      rw [c] at k
      exact iteT ⟨_, rfl, _, rfl, _, _, _, _, rfl, rfl, hT, rfl, _, _, rfl, rfl, k⟩
abbrev s_crowd : Stmt := top 4
theorem sc_crowd : FnScope ["wishes", "hour"] ["wishes"] (defScope s_crowd) := ⟨rfl, rfl, rfl, by decide +kernel, rfl, by decide +kernel, by decide +kernel⟩
theorem ok_crowd {f : Addr} {fd : FuncData} (F : Fun K "crowd" "crowd" s_crowd f fd) (T : Txt mg) (G_is_for : Fn P w K mg base 1 "is_for" ["wish", "hour"] (spIsFor K)) (G_busiest : Fn P w K mg base 2 "busiest" ["wishes"] spBusiest) : FnOk P w K mg base CX0 9 f fd ["wishes"] spCrowd := by
  refine F.ok sc_crowd (fun vs H Q E h => ?_) (fun cdv A outer s H vs Q E hr h => ?_)
  · obtain ⟨_, _, _, rfl, _⟩ := h
    rfl
  · obtain ⟨a, rs, ws, rfl, la, ta, pos, len, k1, k2⟩ := h
    have rl : rs.length = ws.length := by rw [ta.len, List.length_map]
    refine ⟨_, pss_cons (ps_if (pt_not (pt_truth (pv 0) (fun _ => rfl)))
          (pss_one (ps_ret pe_non))
          (pss_nil))
      (pss_cons (ps_set (i := 1) sc_crowd.nd rfl (Or.inr rfl) (pe_fn G_busiest hr (pa_cons (pv 0) pa_nil)))
      (pss_one (ps_ret (pe_tup (pa_cons (pv 1) (pa_cons (pe_comp rfl (fv := ["wishes", "hour"]) (js := [0, 1]) ⟨rfl, rfl, by decide +kernel, by decide +kernel, rfl, ⟨⟨rfl, rfl, Or.inl rfl, rfl⟩, ⟨rfl, rfl, Or.inl rfl, rfl⟩, trivial⟩, ⟨rfl, rfl, trivial⟩, rfl, by decide +kernel⟩ (pi_range1 rfl T.z_range (pa_cons (pe_callB call_len_seq (by rfl) T.z_len PySem.boot_len (pa_cons (pv 0) pa_nil)) pa_nil)) (fun _ _ _ _ => .inr ⟨_, rfl, (pt_val (pe_fn G_is_for hr (pa_cons (pe_ix (ix_listK (K := K)) (pv 1) (pv 0) (fun _ _ => rfl)) (pa_cons (pv 2) pa_nil))))⟩) (fun _ _ _ _ => (pv 0))) pa_nil)))))), ?_⟩
    refine ⟨_, rfl, _, .inl ⟨rs, SqL.of la, rfl⟩, ?_⟩
    by_cases e : ws = []
    · have : rs = [] := by
        subst e
        exact List.eq_nil_of_length_eq_zero rl
      subst this
      exact iteT (k1 e _ (Same.refl _))
    · have : rs.isEmpty = false := by
        cases rs with
        | nil => exact absurd (List.eq_nil_of_length_eq_zero rl.symm) e
        | cons _ _ => rfl
      rw [this]
      refine iteF ⟨_, rfl, a, rs, ws, rfl, la, ta, pos, len, e, fun hour H1 s1 hmax => set_go ?_⟩
      dsimp only
      refine ⟨_, rfl, _, rfl, a, rs, rfl, .inl (SqL.of (s1 _ _ la)), _, rfl, by omega, by omega, fun p1 hp1 => ?_⟩
      rw [Int.toNat_natCast]
      refine comp_gen (n := rs.length) (by omega) (fun i ys H' => H' = upd H1 p1 (.lst ys) ∧ ys = (placesN ws hour i).map fun (j : Nat) => V.int (j : Int)) (fun i x => x = .int (0 + (i : Int))) ⟨rfl, rfl⟩ (fun ys H' _ => Nat.le_refl _) (fun i ys H' hi _ => ⟨hi, fun x H'' hy => hy⟩) (fun i ys H' h => by rw [h.2, List.length_map]; exact placesN_len _ _ _) ?_ ?_
      · rintro i ys H' x hi ⟨rfl, rfl⟩ rfl N0 N1 hN0 hN1
        have n1 := Same.new (o := .lst ((placesN ws hour i).map fun (j : Nat) => V.int (j : Int))) hp1
        obtain ⟨aw, haw, hwt⟩ := wish_at ((ta.same s1).same n1) (k := i) (by omega)
        have aw' : atW ws hour i = inW (ws.getD i (0, 0)) hour := by
          unfold atW
          rw [getD_range (List.mem_range.mpr (by omega : i < ws.length))]
        rw [Int.zero_add]
        refine ⟨_, rfl, _, rfl, _, _, _, _, rfl, rfl, SqL.of (n1 _ _ (s1 _ _ la)), atI_nat haw, _, rfl, aw, ws.getD i (0, 0), hour, rfl, SqT.of hwt, _, rfl, ?_⟩
        rw [← aw']
        cases c : atW ws hour i with
        | false => exact iteF (hN0 _ ⟨rfl, by rw [placesN_succ, c]; simp⟩)
        | true =>
          refine iteT ⟨_, rfl, hN1 _ _ upd_same ⟨by rw [upd_upd], ?_⟩⟩
          rw [placesN_succ, c, List.map_append]; rfl
      rintro ys H' ⟨rfl, rfl⟩
      refine ⟨len2, fun p hp => ?_⟩
      have n1 := Same.new (o := .lst ((placesN ws hour rs.length).map fun (j : Nat) => V.int (j : Int))) hp1
      have n2 := Same.new (o := .tup [.int hour, .ref p1]) hp
      refine k2 e p p1 hour _ ((s1.trans n1).trans n2) upd_same ?_ hmax
      rw [n2 _ _ upd_same, rl]; rfl
def spForHour (K : PySem.W.Frag) : Sp := fun vs H Q _ => ∃ (p q b : Addr) (rs : List V) (ws : List (Int × Int)) (h : Int), vs = [.ref p, .ref b] ∧ H p = some (.tup [.int h, .ref q]) ∧ H q = some (.lst ((places ws h).map fun (k : Nat) => V.int (k : Int))) ∧ SqL K H b rs ∧ TupsAt H rs (ws.map pairVs) ∧ Q (.bl true) H
abbrev s__law_for_hour : Stmt := top 12
theorem sc__law_for_hour : FnScope ["_law_found", "_law_wishes", "_law_last", "_law_place"] ["_law_found", "_law_wishes"] (defScope s__law_for_hour) := ⟨rfl, rfl, rfl, by decide +kernel, rfl, by decide +kernel, by decide +kernel⟩
theorem ok__law_for_hour {f : Addr} {fd : FuncData} (F : Fun K "_law_for_hour" "_law_for_hour" s__law_for_hour f fd) (T : Txt mg) (G__law_whole : Fn P w K mg base 1 "_law_whole" ["_law_found"] spWhole) : FnOk P w K mg base CX0 2 f fd ["_law_found", "_law_wishes"] (spForHour K) := by
  refine F.ok sc__law_for_hour (fun vs H Q E h => ?_) (fun cdv A outer s H vs Q E hr h => ?_)
  · obtain ⟨_, _, _, _, _, _, rfl, _⟩ := h
    rfl
  · obtain ⟨p, q, b, rs, ws, h, rfl, ep, eq, lb, tb, k⟩ := h
    have rl : rs.length = ws.length := by rw [tb.len, List.length_map]
    refine ⟨_, pss_cons (ps_if (pw_or (pt_not (pt_val (pe_callB call_isin (by rfl) T.z_isinstance boot_isinstance (pa_cons (pv 0) (pa_cons (pe_gty T.z_tuple bt_tuple) pa_nil))))) (pw_or1 (pt_cmpR op_ne (pe_callB call_len_seq (by rfl) T.z_len PySem.boot_len (pa_cons (pv 0) pa_nil)) pe_int (nomark _)))).pt
          (pss_one (ps_ret pe_bl))
          (pss_nil))
      (pss_cons (ps_if (pw_or (pt_not (pt_val (pe_fn G__law_whole hr (pa_cons (pe_ix ix_tup (pv 0) pe_int (fun _ _ => rfl)) pa_nil)))) (pw_or1 (pt_not (pt_val (pe_callB call_isin (by rfl) T.z_isinstance boot_isinstance (pa_cons (pe_ix ix_tup (pv 0) pe_int (fun _ _ => rfl)) (pa_cons (pe_gty T.z_list bt_list) pa_nil))))))).pt
          (pss_one (ps_ret pe_bl))
          (pss_nil))
      (pss_cons (ps_set (i := 2) sc__law_for_hour.nd rfl (Or.inl rfl) (pe_un un_neg pe_int))
      (pss_cons (ps_for PassesOwn.never rfl (pi_list (pe_ix ix_tup (pv 0) pe_int (fun _ _ => rfl))) (pg_name (i := 3) sc__law_for_hour.nd rfl (Or.inl rfl))
          (pss_cons (ps_if (pw_or (pt_not (pt_val (pe_fn G__law_whole hr (pa_cons (pv 3) pa_nil)))) (pw_or (pt_cmpR op_le (pv 3) (pv 2) (nomark _)) (pw_or1 (pt_cmpR op_ge (pv 3) (pe_callB call_len_seq (by rfl) T.z_len PySem.boot_len (pa_cons (pv 1) pa_nil)) (nomark _))))).pt
            (pss_one (ps_ret pe_bl))
            (pss_nil))
          (pss_cons (ps_if (pw_or (pt_cmpR op_lt (pe_ix ix_tup (pv 0) pe_int (fun _ _ => rfl)) (pe_ix ix_tup (pe_ix ix_list (pv 1) (pv 3) (fun _ _ => rfl)) pe_int (fun _ _ => rfl)) (nomark _)) (pw_or1 (pt_cmpR op_ge (pe_ix ix_tup (pv 0) pe_int (fun _ _ => rfl)) (pe_ix ix_tup (pe_ix ix_list (pv 1) (pv 3) (fun _ _ => rfl)) pe_int (fun _ _ => rfl)) (nomark _)))).pt
            (pss_one (ps_ret pe_bl))
            (pss_nil))
          (pss_one (ps_set (i := 2) sc__law_for_hour.nd rfl (Or.inl rfl) (pv 3))))))
      (pss_one (ps_ret pe_bl))))), ?_⟩
    refine ⟨_, rfl, _, _, _, _, rfl, TyOf.tup ep, kit_self, _, rfl, iteF ⟨_, rfl, _, _, rfl, .inr (SqT.of ep), rfl, _, rfl, iteNS rfl ?_⟩⟩
    refine ⟨_, rfl, _, _, _, _, rfl, rfl, SqT.of ep, rfl, h, rfl, _, rfl, iteF ⟨_, rfl, _, _, _, _, rfl, rfl, SqT.of ep, rfl, _, _, _, _, rfl, TyOf.lst eq, kit_self, _, rfl, iteF ?_⟩⟩
    refine ⟨1, rfl, set_go ?_⟩
    dsimp only
    refine ⟨_, rfl, _, _, _, _, rfl, rfl, SqT.of ep, rfl, _, rfl, ⟨_, SqL.of eq⟩, for_list (K := K) (a := q) (xs := (places ws h).map fun (k : Nat) => V.int (k : Int)) (fun i σ H' => H = H' ∧ ∃ (l : Int) (x : Option V), σ = [some (.ref p), some (.ref b), some (.int l), x] ∧ ∀ (j : Nat) (z : Nat), i ≤ j → (places ws h)[j]? = some z → l < (z : Int))
      ⟨rfl, -1, none, rfl, fun j z _ _ => by omega⟩ (fun i σ H' _ h => by rw [← h.1]; exact SqL.of eq) ?_ ?_⟩
    · rintro i v σ H' hv ⟨rfl, l, x, rfl, hl⟩
      rw [List.getElem?_map] at hv
      cases ez : (places ws h)[i]? with
      | none => rw [ez] at hv; cases hv
      | some z =>
        rw [ez] at hv
        cases hv
        have lz := hl i z (Nat.le_refl _) ez
        have hm := List.mem_of_getElem? ez
        obtain ⟨m1, m2⟩ := List.mem_filter.mp hm
        have hz := List.mem_range.mp m1
        obtain ⟨aw, haw, hwt⟩ := wish_at tb (k := z) (by omega)
        have hw : inW (ws.getD z (0, 0)) h = true := by
          unfold atW at m2
          rw [getD_range m1] at m2
          exact m2
        unfold inW at hw
        rw [Bool.and_eq_true] at hw
        have w1 := of_decide_eq_true hw.1
        have w2 := of_decide_eq_true hw.2
        refine set_go ?_
        dsimp only
        refine ⟨_, rfl, (z : Int), rfl, _, rfl, iteF ⟨_, rfl, _, rfl, _, _, rfl, rfl, _, rfl, ?_⟩⟩
        rw [decide_eq_false (show ¬ (z : Int) ≤ l by omega)]
        refine iteF ⟨_, rfl, _, rfl, _, _, rfl, .inl lb, _, _, rfl, rfl, _, rfl, ?_⟩
        rw [decide_eq_false (show ¬ ((rs.length : Nat) : Int) ≤ (z : Int) by omega)]
        refine iteF ?_
        refine ⟨_, rfl, _, _, _, _, rfl, rfl, SqT.of ep, rfl, _, rfl, _, rfl, _, _, _, _, rfl, rfl, lb, atI_nat haw, _, _, _, _, rfl, rfl, SqT.of hwt, rfl, _, _, rfl, rfl, _, rfl, ?_⟩
        rw [decide_eq_false (show ¬ h < (ws.getD z (0, 0)).1 by omega)]
        refine iteF ⟨_, rfl, _, _, _, _, rfl, rfl, SqT.of ep, rfl, _, rfl, _, rfl, _, _, _, _, rfl, rfl, lb, atI_nat haw, _, _, _, _, rfl, rfl, SqT.of hwt, rfl, _, _, rfl, rfl, _, rfl, ?_⟩
        rw [decide_eq_false (show ¬ (ws.getD z (0, 0)).2 ≤ h by omega)]
        refine iteF ⟨_, rfl, set_go ?_⟩
        dsimp only
        refine ⟨rfl, z, _, rfl, fun j y hj hy => ?_⟩
        have pw : (places ws h).Pairwise (· < ·) := List.Pairwise.filter _ List.pairwise_lt_range
        obtain ⟨g1, g2⟩ := List.getElem?_eq_some_iff.mp ez
        obtain ⟨g3, g4⟩ := List.getElem?_eq_some_iff.mp hy
        have := List.pairwise_iff_getElem.mp pw i j g1 g3 (by omega)
        omega
    · rintro σ H' ⟨rfl, l, x, rfl, hl⟩
      exact k
def spLaw (K : PySem.W.Frag) : Sp := fun vs H Q _ => ∃ (a : Addr) (ns : List Int), vs = [.ref a] ∧ SqL K H a (ns.map V.int) ∧ ns.length ≤ 63 ∧ ∀ H', Q (.bl true) H'
abbrev s_law : Stmt := top 14
theorem sc_law : FnScope ["_law_script", "_law_wishes", "_law_handed", "_law_rooms", "_law_most", "_law_k", "_law_j"] ["_law_script"] (defScope s_law) := ⟨rfl, rfl, rfl, by decide +kernel, rfl, by decide +kernel, by decide +kernel⟩
theorem ok_law {f : Addr} {fd : FuncData} (F : Fun K "law" "law" s_law f fd) (T : Txt mg) (G__law_at : Fn P w K mg base 1 "_law_at" ["_law_script", "_law_k"] (spAt K)) (G__law_wished : Fn P w K mg base 1 "_law_wished" ["_law_cells", "_law_wide"] (spWished K))
    (G__law_like : Fn P w K mg base 1 "_law_like" ["_law_found", "_law_due"] spLike) (G__law_whole : Fn P w K mg base 1 "_law_whole" ["_law_found"] spWhole) (G__law_for_hour : Fn P w K mg base 2 "_law_for_hour" ["_law_found", "_law_wishes"] (spForHour K)) (G_shared_out : Fn P w K mg base 9 "shared_out" ["wishes"] spShared) (G_crowd : Fn P w K mg base 9 "crowd" ["wishes"] spCrowd) : FnOk P w K mg base CX0 10 f fd ["_law_script"] (spLaw K) := by
  refine F.ok sc_law (fun vs H Q E h => ?_) (fun cdv A outer s H vs Q E hr h => ?_)
  · obtain ⟨_, _, rfl, _⟩ := h
    rfl
  · obtain ⟨a0, ns, rfl, hS, hlen, k⟩ := h
    have hu := hu_of hr
    refine ⟨_, pss_cons (ps_set (i := 0) sc_law.nd rfl (Or.inl rfl) (pe_slice sl_list (pv 0) po_none (po_some pe_int)))
      (pss_cons (ps_set (i := 1) sc_law.nd rfl (Or.inl rfl) (pe_fn G__law_wished hr (pa_cons (pe_slice sl_list (pv 0) (po_some pe_int) po_none) (pa_cons (pe_op op_add pe_int (pe_op op_mod (pe_fn G__law_at hr (pa_cons (pv 0) (pa_cons pe_int pa_nil))) pe_int)) pa_nil))))
      (pss_cons (ps_if (pt_cmpR op_eq (pe_op op_mod (pe_fn G__law_at hr (pa_cons (pv 0) (pa_cons pe_int pa_nil))) pe_int) pe_int (nomark _))
          (pss_one (ps_set (i := 1) sc_law.nd rfl (Or.inl rfl) (pe_lst pa_nil)))
          (pss_nil))
      (pss_cons (ps_set (i := 2) sc_law.nd rfl (Or.inl rfl) (pe_callTy call_list_of (by rfl) T.z_list bt_list (pa_cons (pv 1) pa_nil)))
      (pss_cons (ps_set (i := 3) sc_law.nd rfl (Or.inl rfl) (pe_fn G_shared_out hr (pa_cons (pv 2) pa_nil)))
      (pss_cons (ps_set (i := 4) sc_law.nd rfl (Or.inl rfl) (pe_fn G_crowd hr (pa_cons (pe_callTy call_list_of (by rfl) T.z_list bt_list (pa_cons (pv 1) pa_nil)) pa_nil)))
      (pss_cons (ps_if (pt_not (pt_val (pe_fn G__law_like hr (pa_cons (pv 2) (pa_cons (pv 1) pa_nil)))))
          (pss_one (ps_ret pe_bl))
          (pss_nil))
      (pss_cons (ps_if (pw_or (pt_not (pt_val (pe_callB call_isin (by rfl) T.z_isinstance boot_isinstance (pa_cons (pv 3) (pa_cons (pe_gty T.z_list bt_list) pa_nil))))) (pw_or1 (pt_cmpR op_ne (pe_callB call_len_seq (by rfl) T.z_len PySem.boot_len (pa_cons (pv 3) pa_nil)) (pe_callB call_len_seq (by rfl) T.z_len PySem.boot_len (pa_cons (pv 1) pa_nil)) (nomark _)))).pt
          (pss_one (ps_ret pe_bl))
          (pss_nil))
      (pss_cons (ps_if (pt_cmpR (op_eqE (Nat.lt_of_succ_lt hu)) (pv 1) (pe_lst pa_nil) (nomark _))
          (pss_one (ps_ret (pe_cmpR op_isN (pv 4) pe_non (nomark _))))
          (pss_nil))
      (pss_cons (ps_if (pt_not (pt_val (pe_fn G__law_for_hour hr (pa_cons (pv 4) (pa_cons (pv 1) pa_nil)))))
          (pss_one (ps_ret pe_bl))
          (pss_nil))
      (pss_cons (ps_for PassesOwn.never rfl (pi_range1 rfl T.z_range (pa_cons (pe_callB call_len_seq (by rfl) T.z_len PySem.boot_len (pa_cons (pv 3) pa_nil)) pa_nil)) (pg_name (i := 5) sc_law.nd rfl (Or.inl rfl))
          (pss_cons (ps_if (pw_or (pt_not (pt_val (pe_fn G__law_whole hr (pa_cons (pe_ix ix_list (pv 3) (pv 5) (fun _ _ => rfl)) pa_nil)))) (pw_or (pt_cmpR op_lt (pe_ix ix_list (pv 3) (pv 5) (fun _ _ => rfl)) pe_int (nomark _)) (pw_or1 (pt_cmpR op_ge (pe_ix ix_list (pv 3) (pv 5) (fun _ _ => rfl)) (pe_callB call_len_seq (by rfl) T.z_len PySem.boot_len (pa_cons (pe_ix ix_tup (pv 4) pe_int (fun _ _ => rfl)) pa_nil)) (nomark _))))).pt
            (pss_one (ps_ret pe_bl))
            (pss_nil))
          (pss_one (ps_for PassesOwn.never rfl (pi_range1 rfl T.z_range (pa_cons (pv 5) pa_nil)) (pg_name (i := 6) sc_law.nd rfl (Or.inl rfl))
            (pss_one (ps_if (pt_cmpR op_eq (pe_ix ix_list (pv 3) (pv 6) (fun _ _ => rfl)) (pe_ix ix_list (pv 3) (pv 5) (fun _ _ => rfl)) (nomark _))
              (pss_one (ps_if (pw_and (pt_cmpR op_lt (pe_ix ix_tup (pe_ix ix_list (pv 1) (pv 6) (fun _ _ => rfl)) pe_int (fun _ _ => rfl)) (pe_ix ix_tup (pe_ix ix_list (pv 1) (pv 5) (fun _ _ => rfl)) pe_int (fun _ _ => rfl)) (nomark _)) (pw_and1 (pt_cmpR op_lt (pe_ix ix_tup (pe_ix ix_list (pv 1) (pv 5) (fun _ _ => rfl)) pe_int (fun _ _ => rfl)) (pe_ix ix_tup (pe_ix ix_list (pv 1) (pv 6) (fun _ _ => rfl)) pe_int (fun _ _ => rfl)) (nomark _)))).pt
                (pss_one (ps_ret pe_bl))
                (pss_nil)))
              (pss_nil)))))))
      (pss_one (ps_ret (pe_cmpR (op_eqI hu) (pe_callB (call_sortedS rfl) (by rfl) T.z_sorted boot_sorted (pa_cons (pe_callTy (call_setL rfl) (by rfl) T.z_set bt_set (pa_cons (pv 3) pa_nil)) pa_nil)) (pe_comp rfl (fv := []) (js := []) ⟨rfl, rfl, by decide +kernel, by decide +kernel, rfl, trivial, trivial, rfl, by decide +kernel⟩ (pi_range1 rfl T.z_range (pa_cons (pe_callB call_len_seq (by rfl) T.z_len PySem.boot_len (pa_cons (pe_ix ix_tup (pv 4) pe_int (fun _ _ => rfl)) pa_nil)) pa_nil)) (fun _ _ _ _ => .inl ⟨rfl, rfl⟩) (fun _ _ _ _ => (pv 0))) (nomark _)))))))))))))), ?_⟩
    -- script = script[:1000]
    refine ⟨_, rfl, _, rfl, a0, _, rfl, hS, fun p0 hp0 => ?_⟩
    rw [cut_1000 (by rw [List.length_map]; omega)]
    refine set_go ?_
    dsimp only
    have l0 : SqL K (upd H p0 (.lst (ns.map V.int))) p0 (ns.map V.int) := SqL.of upd_same
    generalize upd H p0 (.lst (ns.map V.int)) = H0 at l0
    -- wishes
    refine ⟨_, rfl, _, rfl, p0, _, rfl, l0, fun p1 hp1 => ?_⟩
    obtain ⟨ms, e1, hms⟩ := cut_some ns (some 1) none
    rw [e1]
    have n1 : Same H0 (upd H0 p1 (.lst (ms.map V.int))) := Same.new hp1
    refine ⟨_, rfl, p0, ns, 0, rfl, n1.seq l0, _, _, rfl, rfl, (by show (0 : Int) < 60; decide), _, _, rfl, rfl, p1, ms, _, rfl, SqL.of upd_same, by omega, by omega, by omega, fun pw rs ws far H1 hpw s1 lw tw hws hwl => ?_⟩
    have l1 := (n1.trans s1).seq l0
    clear e1 n1 s1
    refine set_go ?_
    dsimp only
    refine seq_at (fun σ H' => ∃ (pw : Addr) (rs : List V) (ws : List (Int × Int)), σ = [some (.ref p0), some (.ref pw), none, none, none, none, none] ∧ H' pw = some (.lst rs) ∧ TupsAt H' rs (ws.map pairVs) ∧ (∀ x ∈ ws, x.1 < x.2 ∧ x.2 ≤ x.1 + 40) ∧ ws.length ≤ 63) (fun M hM => ?_) ?_
    · refine ⟨_, rfl, p0, ns, 6, rfl, l1, _, _, rfl, rfl, (by show (0 : Int) < 12; decide), rfl, _, rfl, ite2 (fun _ => ?_) (fun _ => ?_)⟩
      · refine ⟨Nat.zero_le _, fun pe hpe => set_go ?_⟩
        exact hM _ _ ⟨pe, [], [], rfl, upd_same, .nil, fun x hx => (by cases hx), by show 0 ≤ 63; decide⟩
      · exact hM _ _ ⟨pw, rs, ws, rfl, lw, tw, fun x hx => ⟨(hws x hx).1, (hws x hx).2.1⟩, by omega⟩
    clear lw tw hws hwl hpw l1
    rintro σ H2 ⟨pw, rs, ws, rfl, lw, tw, hws, hwl⟩
    have rl : rs.length = ws.length := by rw [tw.len, List.length_map]
    -- handed
    refine ⟨_, rfl, pw, rs, rfl, .inl (SqL.of lw), fun ph hph => set_go ?_⟩
    dsimp only
    have n3 := Same.new (o := .lst rs) hph
    have lh3 : upd H2 ph (.lst rs) ph = some (.lst rs) := upd_same
    have lw3 := n3 _ _ lw
    have tw3 := tw.same n3
    generalize upd H2 ph (.lst rs) = H3 at lh3 lw3 tw3
    clear lw tw n3 hph
    -- rooms
    refine ⟨_, rfl, ph, rs, ws, rfl, lh3, tw3, fun x hx => (hws x hx).1, by omega, fun pr H4 t L hpr s4 er sw so => set_go ?_⟩
    dsimp only
    obtain ⟨f1, f2, f3, f4, f5, f6⟩ := so.fin sw
    have lh4 := s4 _ _ lh3
    have lw4 := s4 _ _ lw3
    have tw4 := tw3.same s4
    have trl : (t.rooms.map V.int).length = ws.length := by rw [List.length_map]; exact f1
    clear s4 hpr lh3 lw3 tw3 so
    -- most
    refine ⟨_, rfl, pw, rs, rfl, .inl (SqL.of lw4), fun pc hpc => ?_⟩
    have n5 := Same.new (o := .lst rs) hpc
    refine ⟨pc, rs, ws, rfl, upd_same, tw4.same n5, fun x hx => (hws x hx).1, by omega, fun he H5 s5 => ?_, fun hne pf q h0 H5 s5 ef eq top => ?_⟩
    · -- no wishes
      refine set_go ?_
      dsimp only
      have sw5 := n5.trans s5
      have tw5 := tw4.same sw5
      have z : rs = [] := List.length_eq_zero_iff.mp (by rw [rl, he]; rfl)
      subst he
      subst z
      refine ⟨_, rfl, _, rfl, ph, pw, [], [], [], rfl, sw5 _ _ lh4, sw5 _ _ lw4, .nil, .nil, fun vs hv => (by cases hv), Nat.zero_le _, fun H6 s6 => ⟨_, rfl, iteF ?_⟩⟩
      have s7 := sw5.trans s6
      refine ⟨_, rfl, _, _, _, _, rfl, TyOf.lst (s7 _ _ er), kit_self, _, rfl, iteF ⟨_, rfl, _, _, rfl, .inl (SqL.of (s7 _ _ er)), _, rfl, _, _, rfl, .inl (SqL.of (s7 _ _ lw4)), rfl, _, rfl, ?_⟩⟩
      rw [trl]
      refine iteNS rfl ?_
      refine ⟨_, rfl, Nat.zero_le _, fun pe hpe => ⟨pw, pe, [], rfl, rfl, SqL.of ((Same.new hpe) _ _ (s7 _ _ lw4)), SqL.of upd_same, _, rfl, ?_⟩⟩
      refine iteT ⟨_, rfl, rfl, ?_⟩
      exact k _
    refine set_go ?_
    dsimp only
    have sw5 := n5.trans s5
    have lh5 := sw5 _ _ lh4
    have lw5 := sw5 _ _ lw4
    have tw5 := tw4.same sw5
    have er5 := sw5 _ _ er
    clear n5 s5 hpc lh4 lw4 tw4 er sw5
    have hpos : 0 < ws.length := List.length_pos_iff.mpr hne
    refine ⟨_, rfl, _, rfl, ph, pw, rs, rs, ws.map pairVs, rfl, lh5, lw5, tw5, tw5, fun vs hv => ?_, by omega, fun H6 s6 => ⟨_, rfl, iteF ?_⟩⟩
    · obtain ⟨x, _, rfl⟩ := List.mem_map.mp hv
      exact ⟨rfl, by show 2 ≤ 9; decide⟩
    have lw6 := s6 _ _ lw5
    have tw6 := tw5.same s6
    have er6 := s6 _ _ er5
    have ef6 := s6 _ _ ef
    have eq6 := s6 _ _ eq
    clear s6 lh5 lw5 tw5 er5 ef eq
    refine ⟨_, rfl, _, _, _, _, rfl, TyOf.lst er6, kit_self, _, rfl, iteF ⟨_, rfl, _, _, rfl, .inl (SqL.of er6), _, rfl, _, _, rfl, .inl (SqL.of lw6), rfl, _, rfl, ?_⟩⟩
    rw [trl, rl]
    refine iteNS rfl ?_
    -- not empty
    refine ⟨_, rfl, Nat.zero_le _, fun pe hpe => ⟨pw, pe, rs, rfl, rfl, SqL.of ((Same.new hpe) _ _ lw6), SqL.of upd_same, _, rfl, ?_⟩⟩
    have n7 := Same.new (o := .lst []) hpe
    have lw7 := n7 _ _ lw6
    have tw7 := tw6.same n7
    have er7 := n7 _ _ er6
    have ef7 := n7 _ _ ef6
    have eq7 := n7 _ _ eq6
    generalize upd H6 pe (.lst []) = H7 at lw7 tw7 er7 ef7 eq7 ⊢
    clear n7 lw6 tw6 er6 ef6 eq6 hpe
    rw [show (if false = true then !rs.isEmpty else rs.isEmpty) = false by cases hrs : rs with | nil => rw [hrs] at rl; rw [← rl] at hpos; cases hpos | cons _ _ => rfl]
    refine iteF ?_
    -- for_hour
    refine ⟨_, rfl, _, rfl, pf, q, pw, rs, ws, h0, rfl, ef7, eq7, SqL.of lw7, tw7, _, rfl, iteF ?_⟩
    -- the most
    have km : t.known = (((places ws h0).length : Nat) : Int) := by
      have g1 := f5 h0
      obtain ⟨x, hx⟩ : ∃ x, ws[0]? = some x := ⟨_, List.getElem?_eq_getElem hpos⟩
      have c0 := crowd_pos hx (hws x (List.mem_of_getElem? hx)).1
      have c1 := top x.1
      have g3 : cntN ws ws.length h0 = (places ws h0).length := rfl
      rcases f6 with z | ⟨h', z⟩
      · omega
      · have := top h'; omega
    have pl : (places ws h0).length ≤ 63 := Nat.le_trans (placesN_len ws h0 ws.length) hwl
    -- each room
    refine ⟨_, rfl, pr, _, rfl, .inl (SqL.of er7), _, rfl, by omega, by omega, ?_⟩
    rw [Int.toNat_natCast]
    refine for_range (lo := 0) (fun i σ H' => ∃ (x5 x6 : Option V), σ = [some (.ref p0), some (.ref pw), some (.ref ph), some (.ref pr), some (.ref pf), x5, x6] ∧ H7 = H') ⟨_, _, rfl, rfl⟩ ?_ ?_
    · rintro i σ H' hi ⟨x5, x6, rfl, rfl⟩
      refine set_go ?_
      dsimp only
      rw [Int.zero_add]
      have hi' : i < ws.length := by omega
      have ri := atI_ints (ns := t.rooms) (k := i) (by omega)
      obtain ⟨b1, b2⟩ := f2 i hi'
      refine ⟨_, rfl, _, rfl, _, _, _, _, rfl, rfl, SqL.of er7, ri, _, rfl, _, rfl, iteF ⟨_, rfl, _, rfl, _, _, _, _, rfl, rfl, SqL.of er7, ri, _, _, rfl, rfl, _, rfl, ?_⟩⟩
      rw [decide_eq_false (show ¬ t.rooms.getD i 0 < 0 by omega)]
      refine iteF ⟨_, rfl, _, rfl, _, _, _, _, rfl, rfl, SqL.of er7, ri, _, rfl, _, _, _, _, rfl, rfl, SqT.of ef7, rfl, _, _, rfl, .inl (SqL.of eq7), _, _, rfl, rfl, _, rfl, ?_⟩
      rw [List.length_map, decide_eq_false (show ¬ (((places ws h0).length : Nat) : Int) ≤ t.rooms.getD i 0 by omega)]
      refine iteF ?_
      refine ⟨_, rfl, _, rfl, by omega, by omega, ?_⟩
      rw [Int.toNat_natCast]
      refine for_range (lo := 0) (n := i) (fun j σ H' => ∃ (x6 : Option V), σ = [some (.ref p0), some (.ref pw), some (.ref ph), some (.ref pr), some (.ref pf), some (.int (i : Int)), x6] ∧ H7 = H') ⟨_, rfl, rfl⟩ ?_ ?_
      · rintro j σ H' hj ⟨x6, rfl, rfl⟩
        refine set_go ?_
        dsimp only
        rw [Int.zero_add]
        have rj := atI_ints (ns := t.rooms) (k := j) (by omega)
        refine ⟨_, rfl, _, rfl, _, _, _, _, rfl, rfl, SqL.of er7, rj, _, rfl, _, rfl, _, _, _, _, rfl, rfl, SqL.of er7, ri, rfl, _, rfl, ite2 (fun c => ?_) (fun c => ⟨_, rfl, rfl⟩)⟩
        have hc : t.rooms.getD j 0 = t.rooms.getD i 0 := V.int.inj (of_decide_eq_true c)
        have nsh : ¬ Share ws j i := fun sh => f3 j i (by omega) hi' (by omega) sh hc
        obtain ⟨wi, hwi, hti⟩ := wish_at tw7 (k := i) hi'
        obtain ⟨wj, hwj, htj⟩ := wish_at tw7 (k := j) (by omega)
        have pi := (hws _ (List.mem_of_getElem? (getD_range (List.mem_range.mpr hi')))).1
        have pj := (hws _ (List.mem_of_getElem? (getD_range (List.mem_range.mpr (by omega : j < ws.length))))).1
        refine ⟨_, rfl, _, rfl, _, _, _, _, rfl, rfl, SqL.of lw7, atI_nat hwj, _, _, _, _, rfl, rfl, SqT.of htj, rfl, _, rfl, _, rfl, _, _, _, _, rfl, rfl, SqL.of lw7, atI_nat hwi, _, _, _, _, rfl, rfl, SqT.of hti, rfl, _, _, rfl, rfl, _, rfl, ?_⟩
        cases d : decide ((ws.getD j (0, 0)).1 < (ws.getD i (0, 0)).2) with
        | false => exact iteF ⟨_, rfl, rfl⟩
        | true =>
          have d' := of_decide_eq_true d
          refine iteT ⟨_, rfl, _, rfl, _, _, _, _, rfl, rfl, SqL.of lw7, atI_nat hwi, _, _, _, _, rfl, rfl, SqT.of hti, rfl, _, rfl, _, rfl, _, _, _, _, rfl, rfl, SqL.of lw7, atI_nat hwj, _, _, _, _, rfl, rfl, SqT.of htj, rfl, _, _, rfl, rfl, _, rfl, ?_⟩
          rw [decide_eq_false (show ¬ (ws.getD i (0, 0)).1 < (ws.getD j (0, 0)).2 from fun z => nsh ?_)]
          · exact iteF ⟨_, rfl, rfl⟩
          · by_cases m : (ws.getD i (0, 0)).1 ≤ (ws.getD j (0, 0)).1
            · exact ⟨(ws.getD j (0, 0)).1, ⟨Int.le_refl _, pj⟩, m, d'⟩
            · exact ⟨(ws.getD i (0, 0)).1, ⟨by omega, z⟩, Int.le_refl _, pi⟩
      · rintro σ H' ⟨x6, rfl, rfl⟩
        exact ⟨_, _, rfl, rfl⟩
    rintro σ H' ⟨x5, x6, rfl, rfl⟩
    -- the set of rooms
    refine ⟨_, rfl, pr, t.rooms, rfl, SqL.of er7, by omega, fun ps ms hps hms => ⟨ps, ms, rfl, upd_same, fun pz zs hpz hzs inc => ?_⟩⟩
    have n8 := (Same.new (o := SetO P w ps ms) hps)
    have n9 := n8.trans (Same.new (o := .lst (zs.map V.int)) hpz)
    have lz : upd (upd H7 ps (SetO P w ps ms)) pz (.lst (zs.map V.int)) pz = some (.lst (zs.map V.int)) := upd_same
    refine ⟨_, rfl, _, _, _, _, rfl, rfl, SqT.of (n9 _ _ ef7), rfl, q, _, rfl, .inl (SqL.of (n9 _ _ eq7)), _, rfl, by omega, by rw [List.length_map]; omega, fun p2 hp2 => ?_⟩
    rw [List.length_map, Int.toNat_natCast]
    refine comp_gen (n := (places ws h0).length) (by omega) (fun i ys H' => H' = upd (upd (upd H7 ps (SetO P w ps ms)) pz (.lst (zs.map V.int))) p2 (.lst ys) ∧ ys = (List.range i).map fun (j : Nat) => V.int (j : Int)) (fun i x => x = .int (0 + (i : Int))) ⟨rfl, rfl⟩ (fun ys H' _ => Nat.le_refl _) (fun i ys H' hi _ => ⟨hi, fun x H'' hy => hy⟩) (fun i ys H' h => by rw [h.2, List.length_map, List.length_range]; exact Nat.le_refl _) ?_ ?_
    · rintro i ys H' x hi ⟨rfl, rfl⟩ rfl N0 N1 hN0 hN1
      rw [Int.zero_add]
      unfold tTrue
      dsimp only
      refine iteT ⟨_, rfl, hN1 _ _ upd_same ⟨by rw [upd_upd], ?_⟩⟩
      rw [List.range_succ, List.map_append]; rfl
    rintro ys H' ⟨rfl, rfl⟩
    have e9 : (List.range (places ws h0).length).map (fun (j : Nat) => V.int (j : Int)) = ((List.range (places ws h0).length).map fun (j : Nat) => (j : Int)).map V.int := by rw [List.map_map]; rfl
    rw [e9]
    refine ⟨pz, p2, zs, _, rfl, rfl, SqL.of ((Same.new hp2) _ _ lz), SqL.of upd_same, ?_⟩
    rw [decide_eq_true (inc_eq inc fun r => ?_)]
    · exact k _
    · rw [hzs, hms, List.mem_iff_getElem?]
      constructor
      · rintro ⟨p, hp⟩
        have hpl : p < ws.length := by rw [← f1]; exact (List.getElem?_eq_some_iff.mp hp).1
        have := f2 p hpl
        rw [List.getD_eq_getElem?_getD, hp] at this
        have this : 0 ≤ r ∧ r < t.known := this
        omega
      · rintro ⟨g1, g2⟩
        obtain ⟨p, hp, e⟩ := f4 r g1 (by omega)
        refine ⟨p, ?_⟩
        rw [List.getD_eq_getElem?_getD] at e
        rw [List.getElem?_eq_getElem (by omega)] at e ⊢
        rw [← e]; rfl
end
end KX

namespace KX
open PySem PySem.Spec PyProof.Rows L2 RW
theorem all_mk {l : PySem.W.OpenLaw} {w : World} {K : PySem.W.Frag} {h : Heap} {mg : Str → Option Value} {fa : Addr} {t_END : Tok} {t_BEGIN : Tok} (X : K.In h) (G : h.Ns mainGlobals mg) (hfa : mg "law" = some (.ref fa))
    (f_is_for : FunAt K "is_for" s_is_for) (f_changes : FunAt K "changes" s_changes) (f_busiest : FunAt K "busiest" s_busiest) (f_crowd : FunAt K "crowd" s_crowd) (f_shared_out : FunAt K "shared_out" s_shared_out) (f__law_at : FunAt K "_law_at" s__law_at) (f__law_whole : FunAt K "_law_whole" s__law_whole) (f__law_wished : FunAt K "_law_wished" s__law_wished) (f__law_like : FunAt K "_law_like" s__law_like) (f__law_for_hour : FunAt K "_law_for_hour" s__law_for_hour) (f_law : FunAt K "law" s_law) (z_len : PySem.W.nsIn K mainGlobals "len" = some none) (z_range : PySem.W.nsIn K mainGlobals "range" = some none) (z_isinstance : PySem.W.nsIn K mainGlobals "isinstance" = some none) (z_bool : PySem.W.nsIn K mainGlobals "bool" = some none) (z_int : PySem.W.nsIn K mainGlobals "int" = some none) (z_str : PySem.W.nsIn K mainGlobals "str" = some none) (z_list : PySem.W.nsIn K mainGlobals "list" = some none) (z_tuple : PySem.W.nsIn K mainGlobals "tuple" = some none) (z_max : PySem.W.nsIn K mainGlobals "max" = some none) (z_min : PySem.W.nsIn K mainGlobals "min" = some none) (z_sorted : PySem.W.nsIn K mainGlobals "sorted" = some none) (z_set : PySem.W.nsIn K mainGlobals "set" = some none) (i_END : PySem.W.nsIn K mainGlobals "END" = some (some (.int 0 t_END))) (i_BEGIN : PySem.W.nsIn K mainGlobals "BEGIN" = some (some (.int 1 t_BEGIN))) :
    ∃ fd : FuncData, (∀ (s : Shared) (v : Value), BindsTo s fd ⟨[v], []⟩ [("_law_script", v)]) ∧ ∀ base : Heap, K.In base → base.Ns mainGlobals mg → FnOk l.prog w K mg base CX0 10 fa fd ["_law_script"] (spLaw K) := by
  have T : Txt mg := ⟨PySem.W.mg_none_of X G z_len, PySem.W.mg_none_of X G z_range, PySem.W.mg_none_of X G z_isinstance, PySem.W.mg_none_of X G z_bool, PySem.W.mg_none_of X G z_int, PySem.W.mg_none_of X G z_str, PySem.W.mg_none_of X G z_list, PySem.W.mg_none_of X G z_tuple, PySem.W.mg_none_of X G z_max, PySem.W.mg_none_of X G z_min, PySem.W.mg_none_of X G z_sorted, PySem.W.mg_none_of X G z_set⟩
  have gEND : ∃ u, mg "END" = some (.int 0 u) := ⟨t_END, PySem.W.mg_of X G i_END⟩
  have gBEGIN : ∃ u, mg "BEGIN" = some (.int 1 u) := ⟨t_BEGIN, PySem.W.mg_of X G i_BEGIN⟩
  obtain ⟨fd, hb, F⟩ := f_law.law (y := "_law_script") X G hfa fun _ _ _ _ _ _ _ => rfl
  refine ⟨fd, hb, fun base _ _ => ?_⟩
  have g_is_for := f_is_for.fn (P := l.prog) (w := w) (base := base) (ps := ["wish", "hour"]) X G (fun f fd F => ok_is_for F ) (fun _ _ _ _ _ _ us hl => match us, hl with | [_, _], _ => rfl)
  have g_changes := f_changes.fn (P := l.prog) (w := w) (base := base) (ps := ["wishes"]) X G (fun f fd F => ok_changes F T gEND gBEGIN) (fun _ _ _ _ _ _ us hl => match us, hl with | [_], _ => rfl)
  have g_busiest := f_busiest.fn (P := l.prog) (w := w) (base := base) (ps := ["wishes"]) X G (fun f fd F => ok_busiest F T gEND g_changes) (fun _ _ _ _ _ _ us hl => match us, hl with | [_], _ => rfl)
  have g_crowd := f_crowd.fn (P := l.prog) (w := w) (base := base) (ps := ["wishes"]) X G (fun f fd F => ok_crowd F T g_is_for g_busiest) (fun _ _ _ _ _ _ us hl => match us, hl with | [_], _ => rfl)
  have g_shared_out := f_shared_out.fn (P := l.prog) (w := w) (base := base) (ps := ["wishes"]) X G (fun f fd F => ok_shared_out F T gEND g_changes) (fun _ _ _ _ _ _ us hl => match us, hl with | [_], _ => rfl)
  have g__law_at := f__law_at.fn (P := l.prog) (w := w) (base := base) (ps := ["_law_script", "_law_k"]) X G (fun f fd F => ok__law_at F T) (fun _ _ _ _ _ _ us hl => match us, hl with | [_, _], _ => rfl)
  have g__law_whole := f__law_whole.fn (P := l.prog) (w := w) (base := base) (ps := ["_law_found"]) X G (fun f fd F => ok__law_whole F T) (fun _ _ _ _ _ _ us hl => match us, hl with | [_], _ => rfl)
  have g__law_wished := f__law_wished.fn (P := l.prog) (w := w) (base := base) (ps := ["_law_cells", "_law_wide"]) X G (fun f fd F => ok__law_wished F T) (fun _ _ _ _ _ _ us hl => match us, hl with | [_, _], _ => rfl)
  have g__law_like := f__law_like.fn (P := l.prog) (w := w) (base := base) (ps := ["_law_found", "_law_due"]) X G (fun f fd F => ok__law_like F T) (fun _ _ _ _ _ _ us hl => match us, hl with | [_, _], _ => rfl)
  have g__law_for_hour := f__law_for_hour.fn (P := l.prog) (w := w) (base := base) (ps := ["_law_found", "_law_wishes"]) X G (fun f fd F => ok__law_for_hour F T g__law_whole) (fun _ _ _ _ _ _ us hl => match us, hl with | [_, _], _ => rfl)
  exact ok_law F T g__law_at g__law_wished g__law_like g__law_whole g__law_for_hour g_shared_out g_crowd
theorem walk {l : PySem.W.OpenLaw} {q : Program} {loose : List Str} {XP : (Str → Option Value) → Heap → Prop} {YP : World → Heap → Prop} {d : DefRec} {K : Params → PySem.W.Frag} (hn : l.most = some 63) (hdf : d.params.defaults = []) (hY : ∀ (w : World) (h : Heap), YP w h → (K w.params).In h)
    (F : ∀ (w : World) (mg : Str → Option Value) (fa : Addr) (h : Heap), (K w.params).In h → h.Ns mainGlobals mg → mg d.name = some (.ref fa) →
      ∃ fd : FuncData, (∀ (s : Shared) (u : Value), BindsTo s fd ⟨[u], []⟩ [("_law_script", u)]) ∧ ∀ base : Heap, (K w.params).In base → base.Ns mainGlobals mg → FnOk l.prog w (K w.params) mg base CX0 10 fa fd ["_law_script"] (spLaw (K w.params))) :
    PySem.W.WalkO q loose XP YP l.row.toRowW d [] (fun f vs => PySem.call f vs) :=
  L2.walk_of (n := 63) (k := 10) (x := "_law_script") (CX := fun _ => CX0) (sp := fun w => spLaw (K w.params)) hn (by decide) hdf ⟨rfl, by decide, by decide⟩ hY F (fun _ _ a ns hl _ hS => ⟨a, ns, rfl, hS, hl, fun _ => rfl⟩) fun _ _ _ _ _ z => z
end KX
open PySem PySem.W PyProof.Rows
set_option maxRecDepth 100000 in
set_option maxHeartbeats 0 in
theorem PySem.Challenge.cw_roomweek_k07_whole_fewest_rooms_holds : PySem.Challenge.rw_roomweek_k07_whole_fewest_rooms.Holds := by
  w_on; o_law; k_head; (case hw => w_witness2)
  k_fill
  refine KX.walk (l := PySem.Challenge.rw_roomweek_k07_whole_fewest_rooms) rfl rfl (fun w h Y => PySem.W.kIn_of Y) ?F
  case F =>
    intro w mg fa h KI G hmg
    refine' KX.all_mk KI G hmg (L2.fun_at ?a_is_for ?l_is_for ?c_is_for ?k_is_for) (L2.fun_at ?a_changes ?l_changes ?c_changes ?k_changes) (L2.fun_at ?a_busiest ?l_busiest ?c_busiest ?k_busiest) (L2.fun_at ?a_crowd ?l_crowd ?c_crowd ?k_crowd) (L2.fun_at ?a_shared_out ?l_shared_out ?c_shared_out ?k_shared_out) (L2.fun_at ?a__law_at ?l__law_at ?c__law_at ?k__law_at) (L2.fun_at ?a__law_whole ?l__law_whole ?c__law_whole ?k__law_whole) (L2.fun_at ?a__law_wished ?l__law_wished ?c__law_wished ?k__law_wished) (L2.fun_at ?a__law_like ?l__law_like ?c__law_like ?k__law_like) (L2.fun_at ?a__law_for_hour ?l__law_for_hour ?c__law_for_hour ?k__law_for_hour) (L2.fun_at ?a_law ?l_law ?c_law ?k_law) ?z_len ?z_range ?z_isinstance ?z_bool ?z_int ?z_str ?z_list ?z_tuple ?z_max ?z_min ?z_sorted ?z_set ?i_END ?i_BEGIN
    (case a_is_for => k_is); (case l_is_for => k_is); (case c_is_for => k_is); (case k_is_for => k_is)
    (case a_changes => k_is); (case l_changes => k_is); (case c_changes => k_is); (case k_changes => k_is)
    (case a_busiest => k_is); (case l_busiest => k_is); (case c_busiest => k_is); (case k_busiest => k_is)
    (case a_crowd => k_is); (case l_crowd => k_is); (case c_crowd => k_is); (case k_crowd => k_is)
    (case a_shared_out => k_is); (case l_shared_out => k_is); (case c_shared_out => k_is); (case k_shared_out => k_is)
    (case a__law_at => k_is); (case l__law_at => k_is); (case c__law_at => k_is); (case k__law_at => k_is)
    (case a__law_whole => k_is); (case l__law_whole => k_is); (case c__law_whole => k_is); (case k__law_whole => k_is)
    (case a__law_wished => k_is); (case l__law_wished => k_is); (case c__law_wished => k_is); (case k__law_wished => k_is)
    (case a__law_like => k_is); (case l__law_like => k_is); (case c__law_like => k_is); (case k__law_like => k_is)
    (case a__law_for_hour => k_is); (case l__law_for_hour => k_is); (case c__law_for_hour => k_is); (case k__law_for_hour => k_is)
    (case a_law => k_is); (case l_law => k_is); (case c_law => k_is); (case k_law => k_is)
    (case z_len => k_is); (case z_range => k_is); (case z_isinstance => k_is); (case z_bool => k_is)
    (case z_int => k_is); (case z_str => k_is); (case z_list => k_is); (case z_tuple => k_is)
    (case z_max => k_is); (case z_min => k_is); (case z_sorted => k_is); (case z_set => k_is)
    (case i_END => k_is); (case i_BEGIN => k_is)
