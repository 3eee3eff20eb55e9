import PyProof.Rows.All
import Wide.All
import OpenK.AllK
import Wide.FinOn
import Lean
import PyProof.EqAt
import PyProof.EqKinds
import PyProof.TupleCall
import PySem.Challenge.RW_roomweek_k06_whole_gaps
set_option Elab.async false
set_option linter.all false
set_option maxRecDepth 100000
set_option maxHeartbeats 4000000
namespace L2
open PySem PySem.Spec PyProof.Rows
abbrev Key := Sum Int Str
def keyIs : Key → Value → Bool
  | .inl k, v => Value.isInt k v
  | .inr x, v => Value.isStrOf x v
def keyH (w : World) : Key → Int
  | .inl k => hashInt k
  | .inr x => hashStr w x
theorem keyIs_shape : ∀ {k : Key} {v : Value}, keyIs k v = true → (∃ i t, k = Sum.inl i ∧ v = Value.int i t) ∨ (∃ x t, k = Sum.inr x ∧ v = Value.str x t)
  | .inl i, v, h => by
    obtain ⟨t, e⟩ := Value.isInt_shape (k := i) (v := v) h
    exact .inl ⟨i, t, rfl, e⟩
  | .inr x, v, h => by
    obtain ⟨t, e⟩ := Value.isStrOf_shape (x := x) (v := v) h
    exact .inr ⟨x, t, rfl, e⟩
theorem keyIs_int (i : Int) (t : Tok) : keyIs (.inl i) (.int i t) = true := by simp [keyIs, Value.isInt]
theorem keyIs_str (x : Str) (t : Tok) : keyIs (.inr x) (.str x t) = true := by simp [keyIs, Value.isStrOf]
theorem key_ll (a b : Int) : decide ((Sum.inl a : Key) = Sum.inl b) = (a == b) := by
  by_cases e : a = b
  · subst e; simp
  · have h : ¬ (Sum.inl a : Key) = Sum.inl b := fun q => e (Sum.inl.inj q)
    rw [decide_eq_false h]
    exact (beq_eq_false_iff_ne.mpr e).symm
theorem key_rr (a b : Str) : decide ((Sum.inr a : Key) = Sum.inr b) = decide (a = b) := by
  by_cases e : a = b
  · subst e; simp
  · have h : ¬ (Sum.inr a : Key) = Sum.inr b := fun q => e (Sum.inr.inj q)
    rw [decide_eq_false h, decide_eq_false e]
theorem key_lr (a : Int) (b : Str) : decide ((Sum.inl a : Key) = Sum.inr b) = false := decide_eq_false (fun q => nomatch q)
theorem key_rl (a : Str) (b : Int) : decide ((Sum.inr a : Key) = Sum.inl b) = false := decide_eq_false (fun q => nomatch q)
def mixKind (prog : Program) (w : World) : PySem.KeyKind prog w Key where
  is := keyIs
  hash := keyH w
  inj := fun v a b ha hb => by
    rcases keyIs_shape ha with ⟨i, t, rfl, rfl⟩ | ⟨x, t, rfl, rfl⟩
    · rcases keyIs_shape hb with ⟨j, u, rfl, e⟩ | ⟨y, u, rfl, e⟩
      · injection e with e1 _; rw [e1]
      · exact nomatch e
    · rcases keyIs_shape hb with ⟨j, u, rfl, e⟩ | ⟨y, u, rfl, e⟩
      · exact nomatch e
      · injection e with e1 _; rw [e1]
  byValue := fun k v h => by
    rcases keyIs_shape h with ⟨i, t, rfl, rfl⟩ | ⟨x, t, rfl, rfl⟩ <;> rfl
  pyHash := fun hv h => by
    rcases keyIs_shape hv with ⟨i, t, rfl, rfl⟩ | ⟨x, t, rfl, rfl⟩
    · exact wpAny_pyHash_int h
    · exact wpAny_pyHash_str h
  eqBool := fun hu hv h => by
    rcases keyIs_shape hu with ⟨i, t, rfl, rfl⟩ | ⟨x, t, rfl, rfl⟩
    · rcases keyIs_shape hv with ⟨j, u, rfl, rfl⟩ | ⟨y, u, rfl, rfl⟩
      · rw [key_ll] at h; exact wpAny_eqBool_int h
      · rw [key_lr] at h; exact SeqAt.EqAt.int_str i t y u _ _ _ _ h
    · rcases keyIs_shape hv with ⟨j, u, rfl, rfl⟩ | ⟨y, u, rfl, rfl⟩
      · rw [key_rl] at h; exact SeqAt.EqAt.str_int x t j u _ _ _ _ h
      · rw [key_rr] at h; exact wpAny_eqBool_str h
  «strs» := fun k x t v h => by
    rcases keyIs_shape h with ⟨i, u, rfl, e⟩ | ⟨y, u, rfl, e⟩
    · exact nomatch e
    · injection e with e1 _
      subst e1
      cases v <;> rfl
theorem mixKind_int (prog : Program) (w : World) (i : Int) (t : Tok) : (mixKind prog w).is (.inl i) (.int i t) = true := keyIs_int i t
theorem mixKind_str (prog : Program) (w : World) (x : Str) (t : Tok) : (mixKind prog w).is (.inr x) (.str x t) = true := keyIs_str x t
end L2
namespace L2
open PySem PySem.Spec PyProof.Rows
inductive V where
  | non | bl (b : Bool) | int (i : Int) | str (x : Str) | byt (b : Array UInt8) | flt (b : UInt64) | ref (a : Addr) | ty (n : String)
  deriving DecidableEq
def RelV : V → Value → Prop
  | .non, u => u = Value.none
  | .bl b, u => u = Value.bool b
  | .int i, u => ∃ t, u = Value.int i t
  | .str x, u => ∃ t, u = Value.str x t
  | .byt b, u => ∃ t, u = Value.bytes b t
  | .flt b, u => ∃ t, u = Value.float b t
  | .ref a, u => u = Value.ref a
  | .ty n, u => u = Value.type n
abbrev Vals : List V → List Value → Prop := Paired RelV
theorem Vals.length {xs : List V} {us : List Value} (r : Vals xs us) : xs.length = us.length := Paired.length r
theorem Vals.get : ∀ {xs : List V} {us : List Value} {i : Nat} {x : V}, Vals xs us → xs[i]? = some x → ∃ u, us[i]? = some u ∧ RelV x u
  | _, _, _, _, .nil, e => by simp at e
  | _, _, 0, _, .cons r _, e => by simp at e; subst e; exact ⟨_, rfl, r⟩
  | _, _, i + 1, x, .cons _ t, e => by
    obtain ⟨u, h1, h2⟩ := Vals.get (i := i) (x := x) t (by simpa using e)
    exact ⟨u, by simpa using h1, h2⟩
theorem Vals.set {x : V} {u : Value} (r : RelV x u) : ∀ {xs : List V} {us : List Value} (i : Nat), Vals xs us → Vals (xs.set i x) (us.set i u)
  | _, _, _, .nil => .nil
  | _, _, 0, .cons _ t => .cons r t
  | _, _, i + 1, .cons q t => .cons q (Vals.set r i t)
theorem Vals.append : ∀ {xs ys : List V} {us ws : List Value}, Vals xs us → Vals ys ws → Vals (xs ++ ys) (us ++ ws)
  | _, _, _, _, .nil, s => s
  | _, _, _, _, .cons r t, s => .cons r (Vals.append t s)
theorem Vals.take : ∀ {xs : List V} {us : List Value} (n : Nat), Vals xs us → Vals (xs.take n) (us.take n)
  | _, _, 0, _ => .nil
  | _, _, _ + 1, .nil => .nil
  | _, _, n + 1, .cons r t => .cons r (Vals.take n t)
theorem Vals.drop : ∀ {xs : List V} {us : List Value} (n : Nat), Vals xs us → Vals (xs.drop n) (us.drop n)
  | _, _, 0, r => r
  | _, _, _ + 1, .nil => .nil
  | _, _, n + 1, .cons _ t => Vals.drop n t
def RelO : Option V → Option Value → Prop
  | some v, some u => RelV v u
  | none, none => True
  | _, _ => False
def KV {κ : Type} : List (κ × V) → List (κ × Value) → Prop := Paired fun (p : κ × V) (q : κ × Value) => p.1 = q.1 ∧ RelV p.2 q.2
def kV : Key → V
  | .inl i => .int i
  | .inr x => .str x
inductive HO where
  /-- a list -/
  | lst (xs : List V)
  /-- a tuple (never changes) -/
  | tup (xs : List V)
  /-- a dict whose keys are ints and texts; one whose keys are tuples of ints and texts (the empty one is both) -/
  | dK (kvs : List (Key × V)) | dT (kvs : List (List Key × V))
  /-- a set of ints: its members, its size -/
  | set (S : Int → Bool) (n : Nat)
  /-- an instance of the class at C, its dict at dx, its attributes -/
  | ins (C dx : Addr) (fs : List (Str × V))
  /-- the dict of the instance at x -/
  | own (x : Addr)
  /-- the dict of an exception -/
  | xd (fs : List (Str × V))
  /-- a bound method, f of x -/
  | met (f x : Addr)
  /-- a range object lo, lo + 1, .. below hi -/
  | rng (lo hi : Int)
  /-- a thing that is known to the object (the script; a dict while a loop walks it): read, never written while it is so -/
  | frz (o : Obj) (u : HO)
  /-- a code object's table -/
  | tbl (ps : Array Value)
  /-- any other thing, by what is true of its one object (a def of one's own: SetO a S n := HO.ext fun h => ..) -/
  | ext (φ : Heap → Prop)
abbrev Hp := Addr → Option HO
def upd (H : Hp) (a : Addr) (o : HO) : Hp := fun b => if b = a then some o else H b
theorem upd_same {H : Hp} {a : Addr} {o : HO} : upd H a o a = some o := by unfold upd; rw [if_pos rfl]
theorem upd_ne {H : Hp} {a b : Addr} {o : HO} (h : b ≠ a) : upd H a o b = H b := by unfold upd; rw [if_neg h]
theorem upd_upd {H : Hp} {a : Addr} {o u : HO} : upd (upd H a o) a u = upd H a u := by
  funext b; unfold upd; split <;> rfl
theorem ne_of {H : Hp} {a b : Addr} {o u : HO} (h : H a = some o) (h' : H b = some u) (d : o ≠ u) : a ≠ b := by
  intro e; subst e; rw [h] at h'; exact d (Option.some.inj h')
theorem ne_of_none {H : Hp} {a b : Addr} {o : HO} (h : H a = some o) (h' : H b = none) : a ≠ b := by
  intro e; subst e; rw [h] at h'; cases h'
section
variable (P : Program) (w : World)
def ObjOk (H : Hp) (h : Heap) (a : Addr) : HO → Prop
  | .lst xs => xs.length ≤ sizeLine ∧ ∃ (its : List Value) (n : Nat), Vals xs its ∧ h.get? a = some { cls := .type "list", data := .seq its.toArray n }
  | .tup xs => xs.length ≤ sizeLine ∧ ∃ its : List Value, Vals xs its ∧ IsTup h a its.toArray
  | .dK kvs => kvs.length ≤ sizeLine ∧ (a == sysModules) = false ∧ ∃ vs, KV kvs vs ∧ h.DictOf (mixKind P w) a vs
  | .dT kvs => kvs.length ≤ sizeLine ∧ (a == sysModules) = false ∧ ∃ xs : List (List Key × Addr × Value),
      Paired (fun (p : List Key × V) (q : List Key × Addr × Value) => p.1 = q.1 ∧ H q.2.1 = some (.tup (p.1.map kV)) ∧ RelV p.2 q.2.2) kvs xs ∧
      ∃ o es ep, h.get? a = some o ∧ o.ExactDict ∧ o.data = .dict es ep ∧ es.toList = xs.map (entryOfKey (tupleKind (mixKind P w))) ∧ (xs.map (·.1)).Nodup
  | .set S n => h.SetOf (intKind P w) a S n
  | .ins C dx fs => H dx = some (.own a) ∧ fs.length ≤ 1000 ∧ dx ≠ a ∧ h.get? a = some (PySem.W.instObj C dx) ∧
      ∃ mA, h.Ns1 dx mA ∧ (∀ f, RelO (fs.lookup f) (mA f)) ∧ PySem.Within mA (fs.map (·.1))
  | .own _ => ∃ o, h.get? a = some o
  | .xd fs => ∃ mA, h.Ns1 a mA ∧ ∀ f, RelO (fs.lookup f) (mA f)
  | .rng lo hi => ∃ t u v, h.get? a = some { cls := .type "range", data := .fields #[.int lo t, .int hi u, .int 1 v] }
  | .frz o u => h.get? a = some o ∧ ObjOk H h a u
  | .tbl ps => h.get? a = some { cls := .none, data := .fields ps }
  | .met f x => h.get? a = some (PySem.W.methodObj (.ref f) (.ref x))
  | .ext φ => φ h ∧ (∃ o, h.get? a = some o) ∧ ∀ h1 h2 : Heap, φ h1 → (∀ o, h1.get? a = some o → h2.get? a = some o) → φ h2
def HOk (H : Hp) (h : Heap) : Prop := ∀ a o, H a = some o → ObjOk P w H h a o
end
section
variable {P : Program} {w : World} {H H' : Hp} {h h' : Heap} {a : Addr} {o : HO}
theorem ObjOk.lt (x : ObjOk P w H h a o) : a < h.objs.size := by
  cases o with
  | lst xs => obtain ⟨_, _, _, _, e⟩ := x; exact Heap.lt_size e
  | tup xs => obtain ⟨_, _, _, p⟩ := x; exact p.lt
  | dK kvs => obtain ⟨_, _, _, _, o, _, _, e, _⟩ := x; exact Heap.lt_size e
  | dT kvs => obtain ⟨_, _, _, _, o, _, _, e, _⟩ := x; exact Heap.lt_size e
  | set S n => obtain ⟨o, _, _, _, e, _⟩ := x; exact Heap.lt_size e
  | ins C dx fs => obtain ⟨_, _, _, e, _⟩ := x; exact Heap.lt_size e
  | own y => obtain ⟨_, e⟩ := x; exact Heap.lt_size e
  | xd fs => obtain ⟨_, ⟨_, _, _, e, _⟩, _⟩ := x; exact Heap.lt_size e
  | rng lo hi => obtain ⟨_, _, _, e⟩ := x; exact Heap.lt_size e
  | frz ob u => obtain ⟨e, _⟩ := x; exact Heap.lt_size e
  | tbl ps => exact Heap.lt_size (show h.get? a = some _ from x)
  | met f y => exact Heap.lt_size (show h.get? a = some _ from x)
  | ext φ => obtain ⟨_, ⟨_, e⟩, _⟩ := x; exact Heap.lt_size e
theorem Paired.mapP {α β : Type} {F G : α → β → Prop} : ∀ {l₁ : List α} {l₂ : List β}, Paired F l₁ l₂ → (∀ a b, F a b → G a b) → Paired G l₁ l₂
  | _, _, .nil, _ => .nil
  | _, _, .cons r t, f => .cons (f _ _ r) (Paired.mapP t f)
theorem ObjOk.stay (x : ObjOk P w H h a o) (k : ∀ b u, (b = a ∨ H b = some (.own a)) → h.get? b = some u → h'.get? b = some u)
    (ho : ∀ b, H b = some (.own a) → H' b = some (.own a)) (ht : ∀ b xs, H b = some (.tup xs) → H' b = some (.tup xs)) : ObjOk P w H' h' a o := by
  induction o with
  | lst xs => obtain ⟨z, its, n, r, e⟩ := x; exact ⟨z, its, n, r, k _ _ (.inl rfl) e⟩
  | tup xs => obtain ⟨z, its, r, ob, e, c⟩ := x; exact ⟨z, its, r, ob, k _ _ (.inl rfl) e, c⟩
  | dK kvs => obtain ⟨z, y, vs, r, ob, es, ep, e, c⟩ := x; exact ⟨z, y, vs, r, ob, es, ep, k _ _ (.inl rfl) e, c⟩
  | dT kvs =>
    obtain ⟨z, y, xs, r, ob, es, ep, e, c⟩ := x
    exact ⟨z, y, xs, Paired.mapP r fun p q z => ⟨z.1, ht _ _ z.2.1, z.2.2⟩, ob, es, ep, k _ _ (.inl rfl) e, c⟩
  | set S n => obtain ⟨ob, es, ep, t, e, c⟩ := x; exact ⟨ob, es, ep, t, k _ _ (.inl rfl) e, c⟩
  | ins C dx fs =>
    obtain ⟨d, z, ne, e, mA, ⟨od, es, ep, e2, c⟩, r⟩ := x
    exact ⟨ho _ d, z, ne, k _ _ (.inl rfl) e, mA, ⟨od, es, ep, k _ _ (.inr d) e2, c⟩, r⟩
  | own y => obtain ⟨ob, e⟩ := x; exact ⟨ob, k _ _ (.inl rfl) e⟩
  | xd fs => obtain ⟨mA, ⟨od, es, ep, e, c⟩, r⟩ := x; exact ⟨mA, ⟨od, es, ep, k _ _ (.inl rfl) e, c⟩, r⟩
  | rng lo hi => obtain ⟨t, u, v, e⟩ := x; exact ⟨t, u, v, k _ _ (.inl rfl) e⟩
  | frz ob u ih => obtain ⟨e, q⟩ := x; exact ⟨k _ _ (.inl rfl) e, ih q⟩
  | tbl ps =>
    have e : h.get? a = some { cls := .none, data := .fields ps } := x
    show h'.get? a = some { cls := .none, data := .fields ps }
    exact k a _ (.inl rfl) e
  | met f y =>
    have e : h.get? a = some (PySem.W.methodObj (.ref f) (.ref y)) := x
    show h'.get? a = some (PySem.W.methodObj (.ref f) (.ref y))
    exact k a _ (.inl rfl) e
  | ext φ => obtain ⟨p, ⟨o, e⟩, st⟩ := x; exact ⟨st _ _ p fun o q => k _ _ (.inl rfl) q, ⟨o, k _ _ (.inl rfl) e⟩, st⟩
theorem HOk.lt (x : HOk P w H h) (e : H a = some o) : a < h.objs.size := (x a o e).lt
theorem HOk.fresh (x : HOk P w H h) (e : h.objs.size ≤ a) : H a = none := by
  cases q : H a with
  | none => rfl
  | some u => exact absurd (Nat.lt_of_lt_of_le (x.lt q) e) (Nat.lt_irrefl _)
theorem HOk.kept (x : HOk P w H h) (k : ∀ b u, h.get? b = some u → h'.get? b = some u) : HOk P w H h' := fun a o e =>
  (x a o e).stay (fun b u _ q => k b u q) (fun _ q => q) fun _ _ q => q
theorem HOk.laid (x : HOk P w H h) (k : ∀ b u, h.get? b = some u → h'.get? b = some u) (hp : h.objs.size ≤ a) (new : ObjOk P w (upd H a o) h' a o) : HOk P w (upd H a o) h' := fun b u e => by
  have hn := x.fresh hp
  by_cases hb : b = a
  · subst hb; rw [upd_same] at e; cases e; exact new
  · rw [upd_ne hb] at e
    exact (x b u e).stay (fun c v _ q => k c v q) (fun c q => by rw [upd_ne (ne_of_none q hn)]; exact q) fun c xs q => by rw [upd_ne (ne_of_none q hn)]; exact q
end
def Rd (H : Hp) (a : Addr) (u : HO) : Prop := H a = some u ∨ ∃ o, H a = some (.frz o u)
theorem Rd.of {H : Hp} {a : Addr} {u : HO} (h : H a = some u) : Rd H a u := .inl h
theorem Rd.ok {P : Program} {w : World} {H : Hp} {h : Heap} {a : Addr} {u : HO} (r : Rd H a u) (x : HOk P w H h) : ObjOk P w H h a u := by
  rcases r with r | ⟨o, r⟩
  · exact x a u r
  · obtain ⟨_, q⟩ := x a _ r
    exact q
def Mut : Option HO → Prop
  | some (.lst _) => True
  | some (.dK _) => True
  | some (.dT _) => True
  | some (.set _ _) => True
  | some (.ins _ _ _) => True
  | some (.ext _) => True
  | _ => False
section
variable {P : Program} {w : World} {H : Hp} {h h' : Heap} {x e : Addr} {o' : HO}
theorem HOk.write (ok : HOk P w H h) (mu : Mut (H x)) (he : e = x ∨ H e = some (.own x)) (k : ∀ b u, b ≠ e → h.get? b = some u → h'.get? b = some u) (heo : ∃ u, h'.get? e = some u)
    (new : ObjOk P w (upd H x o') h' x o') : HOk P w (upd H x o') h' := fun b u q => by
  have nown : ∀ c y, H c = some (.own y) → c ≠ x := fun c y r z => by subst z; rw [r] at mu; exact mu
  have ntup : ∀ c xs, H c = some (.tup xs) → c ≠ x := fun c xs r z => by subst z; rw [r] at mu; exact mu
  by_cases hb : b = x
  · subst hb; rw [upd_same] at q; cases q; exact new
  · rw [upd_ne hb] at q
    by_cases hbe : b = e
    · have q' : H b = some (.own x) := by
        rcases he with z | z
        · exact absurd (hbe.trans z) hb
        · rw [hbe]; exact z
      rw [q] at q'; cases q'
      obtain ⟨v, hv⟩ := heo
      exact ⟨v, by rw [hbe]; exact hv⟩
    · refine (ok b u q).stay (fun c v hc r => k c v ?_ r) (fun c r => by rw [upd_ne (nown c b r)]; exact r) fun c xs r => by rw [upd_ne (ntup c xs r)]; exact r
      rcases hc with rfl | hc
      · exact hbe
      · rintro rfl
        rcases he with z | z
        · exact nown c b hc z
        · rw [hc] at z; cases z; exact hb rfl
end
/-! ### kept unless tracked; of the frames at fs (the callers') the slots may change (an exception that passes writes there); of the records at ex (iterators) nothing is said -/
structure Un (fs ex : List Addr) (H H' : Hp) (h h' : Heap) : Prop where
  keep : ∀ b o, h.get? b = some o → H b = none → b ∉ fs → b ∉ ex → h'.get? b = some o
  slot : ∀ b o, h.get? b = some o → H b = none → b ∈ fs → b ∉ ex → ∃ sl, h'.get? b = some { o with slots := sl }
  free : ∀ b o, h.get? b = some o → H b = none → b ∉ ex → H' b = none
  there : ∀ b o, h.get? b = some o → b ∉ ex → ∃ o', h'.get? b = some o'
  tups : ∀ b xs, H b = some (.tup xs) → H' b = some (.tup xs)
  frzs : ∀ b o u, H b = some (.frz o u) → H' b = some (.frz o u)
  tbls : ∀ b ps, H b = some (.tbl ps) → ∃ more, H' b = some (.tbl (ps ++ more))
section
variable {fs fs' ex ex' : List Addr} {H H1 H2 : Hp} {h h1 h2 h' : Heap} {a x e : Addr} {o : HO}
theorem Un.any (u : Un fs ex H H1 h h1) {b : Addr} {ob : Obj} (q : h.get? b = some ob) (n : H b = none) (hx : b ∉ ex) : ∃ sl, h1.get? b = some { ob with slots := sl } := by
  by_cases hb : b ∈ fs
  · exact u.slot b ob q n hb hx
  · exact ⟨ob.slots, u.keep b ob q n hb hx⟩
theorem Un.trans (a : Un fs ex H H1 h h1) (b : Un fs ex H1 H2 h1 h2) : Un fs ex H H2 h h2 where
  keep := fun c ob q n hc hx => b.keep c ob (a.keep c ob q n hc hx) (a.free c ob q n hx) hc hx
  slot := fun c ob q n hc hx => by
    obtain ⟨sl, e1⟩ := a.slot c ob q n hc hx
    obtain ⟨sl', e2⟩ := b.slot c _ e1 (a.free c ob q n hx) hc hx
    exact ⟨sl', e2⟩
  free := fun c ob q n hx => by
    obtain ⟨o', e1⟩ := a.there c ob q hx
    exact b.free c o' e1 (a.free c ob q n hx) hx
  there := fun c ob q hx => by
    obtain ⟨o', e1⟩ := a.there c ob q hx
    exact b.there c o' e1 hx
  tups := fun c xs q => b.tups c xs (a.tups c xs q)
  frzs := fun c ob xs q => b.frzs c ob xs (a.frzs c ob xs q)
  tbls := fun c ps q => by
    obtain ⟨m1, e1⟩ := a.tbls c ps q
    obtain ⟨m2, e2⟩ := b.tbls c _ e1
    exact ⟨m1 ++ m2, by rw [e2, Array.append_assoc]⟩
theorem Un.kept (k : ∀ b u, h.get? b = some u → h'.get? b = some u) : Un fs ex H H h h' :=
  ⟨fun b ob q _ _ _ => k b ob q, fun b ob q _ _ _ => ⟨ob.slots, k b ob q⟩, fun _ _ _ n _ => n, fun b ob q _ => ⟨ob, k b ob q⟩, fun _ _ q => q, fun _ _ _ q => q, fun _ ps q => ⟨#[], by rw [q]; simp⟩⟩
theorem Un.refl : Un fs ex H H h h := Un.kept fun _ _ q => q
theorem Un.laid (k : ∀ b u, h.get? b = some u → h'.get? b = some u) (hp : h.objs.size ≤ a) (hn : H a = none) : Un fs ex H (upd H a o) h h' where
  keep := fun b u q _ _ _ => k b u q
  slot := fun b u q _ _ _ => ⟨u.slots, k b u q⟩
  free := fun b u q n _ => by rw [upd_ne (Nat.ne_of_lt (Nat.lt_of_lt_of_le (Heap.lt_size q) hp))]; exact n
  there := fun b u q _ => ⟨u, k b u q⟩
  tups := fun b xs q => by rw [upd_ne (ne_of_none q hn)]; exact q
  frzs := fun b u xs q => by rw [upd_ne (ne_of_none q hn)]; exact q
  tbls := fun b ps q => ⟨#[], by rw [upd_ne (ne_of_none q hn), q]; simp⟩
theorem Un.write (mu : Mut (H x)) (he : e = x ∨ H e = some (.own x)) (k : ∀ b u, b ≠ e → h.get? b = some u → h'.get? b = some u) (heo : ∃ u, h'.get? e = some u) : Un fs ex H (upd H x o) h h' := by
  have hx : ∀ b, H b = none → b ≠ x := fun b n z => by subst z; rw [n] at mu; exact mu
  have hb : ∀ b, H b = none → b ≠ e := fun b n z => by
    subst z
    rcases he with r | r
    · exact hx b n r
    · rw [n] at r; cases r
  have hm : ∀ b u, H b = some u → ¬ Mut (some u) → b ≠ x := fun b u q nm z => by subst z; rw [q] at mu; exact nm mu
  refine ⟨fun b u q n _ _ => k b u (hb b n) q, fun b u q n _ _ => ⟨u.slots, k b u (hb b n) q⟩, fun b u q n _ => by rw [upd_ne (hx b n)]; exact n, fun b u q _ => ?_,
    fun b xs q => by rw [upd_ne (hm b _ q fun z => z)]; exact q, fun b u xs q => by rw [upd_ne (hm b _ q fun z => z)]; exact q, fun b ps q => ⟨#[], by rw [upd_ne (hm b _ q fun z => z), q]; simp⟩⟩
  by_cases hbe : b = e
  · subst hbe; exact heo
  · exact ⟨u, k b u hbe q⟩
theorem Un.mono (u : Un fs ex H H1 h h1) (hs : ∀ b ∈ fs, b ∈ fs') (hx : ∀ b ∈ ex, b ∈ ex') : Un fs' ex' H H1 h h1 :=
  ⟨fun b ob q n hb he => u.keep b ob q n (fun z => hb (hs b z)) fun z => he (hx b z), fun _ _ q n _ he => u.any q n fun z => he (hx _ z), fun b ob q n he => u.free b ob q n fun z => he (hx b z), fun b ob q he => u.there b ob q fun z => he (hx b z), u.tups, u.frzs, u.tbls⟩
end
/-! ### the heap without what is tracked -/
def trk (h : Heap) (H : Hp) : List Addr := (List.range h.objs.size).filter fun a => (H a).isSome
def hidT (h : Heap) (H : Hp) : Heap := PySem.W.hideAll h (trk h H)
theorem hidT_size (h : Heap) (H : Hp) : (hidT h H).objs.size = h.objs.size := PySem.W.hideAll_size _ _
theorem hidT_get {h : Heap} {H : Hp} {b : Addr} {o : Obj} (e : h.get? b = some o) (n : H b = none) : (hidT h H).get? b = some o :=
  PySem.W.hideAll_get _ e fun hm => by
    have q : (H b).isSome = true := (List.mem_filter.mp hm).2
    rw [n] at q; simp at q
theorem of_hidT {h : Heap} {H : Hp} {b : Addr} {o : Obj} (e : (hidT h H).get? b = some o) : h.get? b = some o ∧ H b = none := by
  have e' : h.get? b = some o := PySem.W.of_hideAll (trk h H) e
  refine ⟨e', ?_⟩
  cases q : H b with
  | none => rfl
  | some x =>
    have hm : b ∈ trk h H := List.mem_filter.mpr ⟨List.mem_range.mpr (Heap.lt_size e'), by simp [q]⟩
    have z : (hidT h H).get? b = none := PySem.W.hideAll_none (trk h H) hm
    rw [z] at e; cases e
/-! ### OpenK's ledger, filled with every new object but one -/
def allNews (g h : Heap) (L : Addr) : List (Addr × Obj) := (List.range h.objs.size).filterMap fun a => if a = L ∨ (g.get? a).isSome = true then none else (h.get? a).map fun o => (a, o)
def rest (g h : Heap) (L d : Addr) : List (Addr × Obj) := (allNews g h L).filter fun p => decide (p.1 ≠ d)
end L2
namespace L2
open PySem PySem.Spec PyProof.Rows
structure Mod (K : PySem.W.Frag) (mg : Str → Option Value) (base : Heap) : Prop where
  kin : K.In base
  glob : base.Ns mainGlobals mg
  blt : ∃ mb, base.Ns builtinsNs mb ∧ ∀ x : Str, x ≠ "__name__" → mb x = bootBuiltins x
  nolimit : base.NoLimit
structure Cx where
  prog : Program
  w : World
  K : PySem.W.Frag
  mg : Str → Option Value
  base : Heap
  A : Around
  N : List Str
  s₀ : Shared
  H₀ : Hp
  env : Env
  outer : List Env
  stack : List Env
  ex : List Addr
  fn : Str → Bool
  calm : Bool
  pn : List (Addr × Obj)
  xe : Value → Shared → Prop
def frs (l : List Env) : List Addr := l.filterMap (·.frame)
abbrev Cx.fs (X : Cx) : List Addr := frs X.outer
def Vis (sc : Scope) (x : Str) : Prop := sc.names.lookup x = some .local ∨ sc.names.lookup x = some .cell ∨ sc.names.lookup x = some .free
def Loc (sc : Scope) (x : Str) : Prop := sc.names.lookup x = some .local ∨ sc.names.lookup x = some .cell
def Look (env : Env) (h : Heap) (m : Str → Option Value) (x : Str) (u : Value) : Prop :=
  (env.kindOf x = some .local ∧ m x = some u) ∨ ((env.kindOf x = some .cell ∨ env.kindOf x = some .free) ∧ ∃ c, env.cells.lookup x = some c ∧ h.IsCell c (some u))
structure Cx.Ok (X : Cx) : Prop where
  mod : Mod X.K X.mg X.base
  kind : X.env.scope.kind = .function
  glob : X.env.globals = mainGlobals
  blt : X.env.builtins = builtinsNs
  above : X.s₀.heap.objs.size ≤ X.env.locals
  inj : ∀ x y c, X.env.cells.lookup x = some c → X.env.cells.lookup y = some c → x = y
  has : ∀ x, (X.env.kindOf x = some .cell ∨ X.env.kindOf x = some .free) → ∃ c, X.env.cells.lookup x = some c
  cab : ∀ x c, X.fn x = true → X.env.cells.lookup x = some c → X.s₀.heap.objs.size ≤ c
  hd : X.calm = true → X.A.handled = none
  frames : X.A.frames = some X.stack
  stk : X.stack = X.outer ∨ (X.stack = X.env :: X.outer ∧ X.env.frame = some X.env.locals)
  exf : ∀ b ∈ X.ex, b ≠ X.env.locals ∧ ∀ x c, X.env.cells.lookup x = some c → c ≠ b
  bs : ∀ b o, X.base.get? b = some o → X.s₀.heap.get? b = some o ∧ X.H₀ b = none
  bsz : X.base.objs.size ≤ X.s₀.heap.objs.size
  noex : ∀ b o, X.base.get? b = some o → b ∉ X.ex
  exfs : ∀ b ∈ X.ex, b ∉ X.fs
  funs : X.s₀.heap.FunFrames X.base X.outer
  frf : ∀ b ∈ X.fs, X.H₀ b = none
structure Inv (X : Cx) (pins : List (Addr × Obj)) (σ : List (Option V)) (H : Hp) (s : Shared) : Prop where
  ok : X.Ok
  os : s.os = X.s₀.os
  bare : AllBare s.gens
  base : Un X.fs X.ex X.H₀ H X.s₀.heap s.heap
  loc : ∃ m, s.heap.Ns X.env.locals m ∧ ∀ (i : Nat) (x : Str) (v : V), X.N[i]? = some x → σ[i]? = some (some v) → Vis X.env.scope x → ∃ u, RelV v u ∧ Look X.env s.heap m x u
  cell : ∀ x c, X.env.cells.lookup x = some c → ∃ v, s.heap.IsCell c v
  free : H X.env.locals = none
  freeC : ∀ x c, X.env.cells.lookup x = some c → H c = none
  pin : ∀ p ∈ X.pn ++ pins, s.heap.get? p.1 = some p.2 ∧ H p.1 = none ∧ p.1 ≠ X.env.locals ∧ p.1 ∉ X.fs ∧ ∀ v, p.2.data ≠ .cell v
  hok : HOk X.prog X.w H s.heap
  len : σ.length = X.N.length
section
variable {X : Cx} {pins : List (Addr × Obj)} {σ : List (Option V)} {H H' : Hp} {s : Shared} {h' : Heap}
theorem Cx.Ok.nofr (ok : X.Ok) {b : Addr} {o : Obj} (e : X.base.get? b = some o) : b ∉ X.fs := fun hb => by
  have := (ok.funs.mem hb).1
  rw [e] at this; cases this
theorem Inv.bs (I : Inv X pins σ H s) : ∀ b o, X.base.get? b = some o → s.heap.get? b = some o ∧ H b = none := fun b o e =>
  ⟨I.base.keep b o (I.ok.bs b o e).1 (I.ok.bs b o e).2 (I.ok.nofr e) (I.ok.noex b o e), I.base.free b o (I.ok.bs b o e).1 (I.ok.bs b o e).2 (I.ok.noex b o e)⟩
theorem Inv.bk (I : Inv X pins σ H s) : ∀ b o, X.base.get? b = some o → s.heap.get? b = some o := fun b o e => (I.bs b o e).1
theorem Inv.mod (I : Inv X pins σ H s) : Mod X.K X.mg X.base := I.ok.mod
theorem Inv.kIn (I : Inv X pins σ H s) : X.K.In s.heap := I.ok.mod.kin.keeps I.bk
theorem Inv.nolimit (I : Inv X pins σ H s) : s.heap.NoLimit := I.ok.mod.nolimit.keeps I.bk
theorem Inv.fr (I : Inv X pins σ H s) : ∃ m, Fr X.base X.env.locals s.heap m :=
  let ⟨m, hn, _⟩ := I.loc
  ⟨m, hn, I.bk, Nat.le_trans I.ok.bsz I.ok.above⟩
theorem Inv.lt (I : Inv X pins σ H s) : X.env.locals < s.heap.objs.size := let ⟨_, hn, _⟩ := I.loc; hn.lt
theorem Inv.sz (I : Inv X pins σ H s) : X.s₀.heap.objs.size ≤ s.heap.objs.size := Nat.le_trans I.ok.above (Nat.le_of_lt I.lt)
theorem Inv.nofs (I : Inv X pins σ H s) {a : Addr} (h : s.heap.objs.size ≤ a) : a ∉ X.fs := fun hb => by
  obtain ⟨_, o, ho, _⟩ := I.ok.funs.mem hb
  exact absurd (Nat.lt_of_lt_of_le (Heap.lt_size ho) (Nat.le_trans I.sz h)) (Nat.lt_irrefl _)
theorem Inv.cne (I : Inv X pins σ H s) : ∀ x c, X.env.cells.lookup x = some c → c ≠ X.env.locals := fun x c e z => by
  obtain ⟨v, o, ho, hd⟩ := I.cell x c e
  obtain ⟨m, ⟨o', es, ep, ho', hd', _⟩, _⟩ := I.loc
  rw [z, ho'] at ho; cases ho; rw [hd'] at hd; cases hd
theorem Inv.funs (I : Inv X pins σ H s) : s.heap.FunFrames X.base X.outer := by
  have all : ∀ (l : List Env), (∀ b ∈ frs l, b ∈ X.fs) → X.s₀.heap.FunFrames X.base l → s.heap.FunFrames X.base l := by
    intro l
    induction l with
    | nil => intro _ _; trivial
    | cons env r ih =>
      intro hs hl
      obtain ⟨hk, ⟨L, o, hf, hn, ho, hd⟩, hr⟩ := hl
      have hL : L ∈ X.fs := hs L (by unfold frs; rw [List.filterMap_cons, hf]; exact List.mem_cons_self)
      obtain ⟨sl, e⟩ := I.base.slot L o ho (I.ok.frf L hL) hL fun z => I.ok.exfs L z hL
      exact ⟨hk, ⟨L, _, hf, hn, e, hd⟩, ih (fun b hb => hs b (by unfold frs; rw [List.filterMap_cons, hf]; exact List.mem_cons_of_mem _ hb)) hr⟩
  exact all X.outer (fun _ hb => hb) I.ok.funs
theorem Inv.stack (I : Inv X pins σ H s) : s.heap.FunFrames X.base X.stack := by
  rcases I.ok.stk with e | ⟨e, hf⟩
  · rw [e]; exact I.funs
  · rw [e]
    obtain ⟨m, hn, _⟩ := I.loc
    refine .cons (by rw [I.ok.kind]; decide) hf hn ?_ I.funs
    exact Heap.get?_none_of_le (Nat.le_trans I.ok.bsz I.ok.above)
theorem Inv.stkSub (I : Inv X pins σ H s) : ∀ b ∈ frs X.stack, b ∈ X.env.locals :: X.fs := fun b hb => by
  rcases I.ok.stk with e | ⟨e, hf⟩
  · rw [e] at hb; exact List.mem_cons_of_mem _ hb
  · rw [e] at hb
    unfold frs at hb
    rw [List.filterMap_cons, hf] at hb
    exact hb
theorem Inv.stkFree (I : Inv X pins σ H s) : ∀ b ∈ frs X.stack, H b = none := fun b hb => by
  rcases List.mem_cons.mp (I.stkSub b hb) with e | hb
  · rw [e]; exact I.free
  · obtain ⟨_, o, ho, _⟩ := I.ok.funs.mem hb
    exact I.base.free b o ho (I.ok.frf b hb) fun z => I.ok.exfs b z hb
theorem Inv.step {g' : Array GenState} {t' : Nat} {d' : Drawn} {ch : List Addr} (I : Inv X pins σ H s)
    (hch : ∀ b ∈ ch, (b ∈ X.ex ∨ X.s₀.heap.objs.size ≤ b) ∧ b ≠ X.env.locals ∧ (∀ x c, X.env.cells.lookup x = some c → c ≠ b) ∧ ∀ p ∈ X.pn ++ pins, p.1 ≠ b)
    (keep : ∀ b o, b ≠ X.env.locals → b ∉ X.fs → b ∉ ch → s.heap.get? b = some o → H b = none → h'.get? b = some o)
    (slot : ∀ b o, b ≠ X.env.locals → b ∈ X.fs → b ∉ ch → s.heap.get? b = some o → H b = none → ∃ sl, h'.get? b = some { o with slots := sl }) (free : ∀ b o, b ∉ ch → s.heap.get? b = some o → H b = none → H' b = none)
    (there : ∀ b o, b ∉ ch → s.heap.get? b = some o → ∃ o', h'.get? b = some o')
    (tups : ∀ b xs, H b = some (.tup xs) → H' b = some (.tup xs)) (frzs : ∀ b o u, H b = some (.frz o u) → H' b = some (.frz o u)) (tbls : ∀ b ps, H b = some (.tbl ps) → ∃ more, H' b = some (.tbl (ps ++ more)))
    (ns : ∀ m, s.heap.Ns X.env.locals m → h'.Ns X.env.locals m) (hok : HOk X.prog X.w H' h') (hg : AllBare g') :
    Inv X pins σ H' { s with heap := h', gens := g', drawn := d', toks := t' } := by
  have neL : ∀ b o, X.s₀.heap.get? b = some o → b ≠ X.env.locals := fun b o e => Nat.ne_of_lt (Nat.lt_of_lt_of_le (Heap.lt_size e) I.ok.above)
  have neC : ∀ b o, X.s₀.heap.get? b = some o → b ∉ X.ex → b ∉ ch := fun b o e hx hb => by
    rcases (hch b hb).1 with z | z
    · exact hx z
    · exact absurd (Nat.lt_of_lt_of_le (Heap.lt_size e) z) (Nat.lt_irrefl _)
  have cellK : ∀ x c, X.env.cells.lookup x = some c → ∀ v, s.heap.IsCell c v → h'.IsCell c v := fun x c e v ⟨o, ho, hd⟩ => by
    have nch : c ∉ ch := fun z => (hch c z).2.2.1 x c e rfl
    by_cases hc : c ∈ X.fs
    · obtain ⟨sl, q⟩ := slot c o (I.cne x c e) hc nch ho (I.freeC x c e)
      exact ⟨_, q, hd⟩
    · exact ⟨o, keep c o (I.cne x c e) hc nch ho (I.freeC x c e), hd⟩
  refine ⟨I.ok, I.os, hg, ⟨fun b o e n hb hx => ?_, fun b o e n hb hx => ?_, fun b o e n hx => ?_, fun b o e hx => ?_, fun b xs e => tups b xs (I.base.tups b xs e), fun b o xs e => frzs b o xs (I.base.frzs b o xs e), fun b ps e => ?_⟩, ?_, fun x c e => ?_, ?_, fun x c e => ?_, fun p hp => ?_, hok, I.len⟩
  · exact keep b o (neL b o e) hb (neC b o e hx) (I.base.keep b o e n hb hx) (I.base.free b o e n hx)
  · obtain ⟨sl, e1⟩ := I.base.slot b o e n hb hx
    obtain ⟨sl', e2⟩ := slot b _ (neL b o e) hb (neC b o e hx) e1 (I.base.free b o e n hx)
    exact ⟨sl', e2⟩
  · obtain ⟨o', e1⟩ := I.base.there b o e hx
    exact free b o' (neC b o e hx) e1 (I.base.free b o e n hx)
  · obtain ⟨o', e1⟩ := I.base.there b o e hx
    exact there b o' (neC b o e hx) e1
  · obtain ⟨m1, e1⟩ := I.base.tbls b ps e
    obtain ⟨m2, e2⟩ := tbls b _ e1
    exact ⟨m1 ++ m2, by rw [e2, Array.append_assoc]⟩
  · obtain ⟨m, hn, hl⟩ := I.loc
    refine ⟨m, ns m hn, fun i x v e1 e2 e3 => ?_⟩
    obtain ⟨u, r, l⟩ := hl i x v e1 e2 e3
    refine ⟨u, r, ?_⟩
    rcases l with l | ⟨k, c, e, z⟩
    · exact .inl l
    · exact .inr ⟨k, c, e, cellK x c e _ z⟩
  · obtain ⟨v, z⟩ := I.cell x c e
    exact ⟨v, cellK x c e v z⟩
  · obtain ⟨m, ⟨o, _, _, ho, _⟩, _⟩ := I.loc
    exact free _ o (fun z => (hch _ z).2.1 rfl) ho I.free
  · obtain ⟨v, o, ho, hd⟩ := I.cell x c e
    exact free c o (fun z => (hch c z).2.2.1 x c e rfl) ho (I.freeC x c e)
  · obtain ⟨e, n, ne, nf, d⟩ := I.pin p hp
    have nch : p.1 ∉ ch := fun z => (hch p.1 z).2.2.2 p hp rfl
    exact ⟨keep p.1 p.2 ne nf nch e n, free p.1 p.2 nch e n, ne, nf, d⟩
theorem Inv.un {t' : Nat} (I : Inv X pins σ H s) (u : Un X.fs [] H H' s.heap h') (hok : HOk X.prog X.w H' h') : Inv X pins σ H' { s with heap := h', toks := t' } := by
  obtain ⟨m, ⟨o, es, ep, ho, r⟩, _⟩ := id I.loc
  obtain ⟨sl, hL⟩ := u.any ho I.free (by simp)
  exact I.step (g' := s.gens) (d' := s.drawn) (ch := []) (fun _ z => nomatch z) (fun b o _ hb _ e n => u.keep b o e n hb (by simp)) (fun b o _ hb _ e n => u.slot b o e n hb (by simp)) (fun b o _ e n => u.free b o e n (by simp)) (fun b o _ e => u.there b o e (by simp)) u.tups u.frzs u.tbls (fun m' hm => by
    obtain ⟨o', es', ep', ho', r'⟩ := hm
    rw [ho] at ho'; cases ho'
    exact ⟨_, es', ep', hL, r'⟩) hok I.bare
theorem Inv.call {g' : Array GenState} {t' : Nat} {d' : Drawn} {ch : List Addr} (I : Inv X pins σ H s) (u : Un (frs X.stack) ch H H' s.heap h') (hok : HOk X.prog X.w H' h') (hg : AllBare g')
    (hch : ∀ b ∈ ch, (b ∈ X.ex ∨ X.s₀.heap.objs.size ≤ b) ∧ b ≠ X.env.locals ∧ (∀ x c, X.env.cells.lookup x = some c → c ≠ b) ∧ ∀ p ∈ X.pn ++ pins, p.1 ≠ b) :
    Inv X pins σ H' { s with heap := h', gens := g', drawn := d', toks := t' } := by
  obtain ⟨m, ⟨o, es, ep, ho, r⟩, _⟩ := id I.loc
  obtain ⟨sl, hL⟩ := u.any ho I.free fun z => (hch _ z).2.1 rfl
  exact I.step (ch := ch) hch (fun b o hL hb hc e n => u.keep b o e n (fun z => (List.mem_cons.mp (I.stkSub b z)).elim hL hb) hc) (fun b o _ _ hc e n => u.any e n hc) (fun b o hc e n => u.free b o e n hc) (fun b o hc e => u.there b o e hc) u.tups u.frzs u.tbls (fun m' hm => by
    obtain ⟨o', es', ep', ho', r'⟩ := hm
    rw [ho] at ho'; cases ho'
    exact ⟨_, es', ep', hL, r'⟩) hok hg
theorem Inv.turned {t' : Nat} {it : Addr} (I : Inv X pins σ H s) (k : ∀ b o, b ≠ it → s.heap.get? b = some o → h'.get? b = some o) (hn : H it = none) (hL : it ≠ X.env.locals)
    (h1 : it ∈ X.ex ∨ X.s₀.heap.objs.size ≤ it) (h2 : ∀ x c, X.env.cells.lookup x = some c → c ≠ it) (h3 : ∀ p ∈ X.pn ++ pins, p.1 ≠ it) : Inv X pins σ H { s with heap := h', toks := t' } := by
  have nit : ∀ b u, H b = some u → b ≠ it := fun b u e z => by rw [z, hn] at e; cases e
  refine I.step (g' := s.gens) (d' := s.drawn) (ch := [it]) (fun b hb => ?_) (fun b o _ _ hc e _ => k b o (fun z => hc (by simp [z])) e) (fun b o _ _ hc e _ => ⟨o.slots, k b o (fun z => hc (by simp [z])) e⟩) (fun _ _ _ _ n => n)
    (fun b o hc e => ⟨o, k b o (fun z => hc (by simp [z])) e⟩) (fun _ _ e => e) (fun _ _ _ e => e) (fun b ps e => ⟨#[], by rw [e]; simp⟩) (fun m hm => ?_) (fun b u e => ?_) I.bare
  · have e : b = it := by simpa using hb
    subst e
    exact ⟨h1, hL, h2, h3⟩
  · obtain ⟨o, es, ep, ho, r⟩ := hm
    exact ⟨o, es, ep, k _ o (Ne.symm hL) ho, r⟩
  · refine (I.hok b u e).stay (fun c v hc q => k c v ?_ q) (fun _ q => q) fun _ _ q => q
    rcases hc with z | z
    · rw [z]; exact nit b u e
    · exact nit c _ z
theorem Inv.tok (I : Inv X pins σ H s) (t : Nat) : Inv X pins σ H { s with toks := t } := I.un (h' := s.heap) (t' := t) Un.refl I.hok
theorem Inv.kept {t' : Nat} (I : Inv X pins σ H s) (k : ∀ b u, s.heap.get? b = some u → h'.get? b = some u) : Inv X pins σ H { s with heap := h', toks := t' } := I.un (Un.kept k) (I.hok.kept k)
theorem Inv.laid {a : Addr} {o : HO} {t' : Nat} (I : Inv X pins σ H s) (k : ∀ b u, s.heap.get? b = some u → h'.get? b = some u) (hp : s.heap.objs.size ≤ a) (new : ObjOk X.prog X.w (upd H a o) h' a o) :
    Inv X pins σ (upd H a o) { s with heap := h', toks := t' } := I.un (Un.laid k hp (I.hok.fresh hp)) (I.hok.laid k hp new)
theorem Inv.write {x e : Addr} {o : HO} {t' : Nat} (I : Inv X pins σ H s) (mu : Mut (H x)) (he : e = x ∨ H e = some (.own x)) (k : ∀ b u, b ≠ e → s.heap.get? b = some u → h'.get? b = some u) (heo : ∃ u, h'.get? e = some u)
    (new : ObjOk X.prog X.w (upd H x o) h' x o) : Inv X pins σ (upd H x o) { s with heap := h', toks := t' } := I.un (Un.write mu he k heo) (I.hok.write mu he k heo new)
theorem Inv.pins_of {pins' : List (Addr × Obj)} (I : Inv X pins σ H s) (h : ∀ p ∈ pins', s.heap.get? p.1 = some p.2 ∧ H p.1 = none ∧ p.1 ≠ X.env.locals ∧ p.1 ∉ X.fs ∧ ∀ v, p.2.data ≠ .cell v) : Inv X pins' σ H s :=
  ⟨I.ok, I.os, I.bare, I.base, I.loc, I.cell, I.free, I.freeC, fun p hp => (List.mem_append.mp hp).elim (fun z => I.pin p (List.mem_append_left _ z)) (h p), I.hok, I.len⟩
theorem nodup_ix {N : List Str} (hN : N.Nodup) {i j : Nat} {x : Str} (a : N[i]? = some x) (b : N[j]? = some x) : i = j := by
  obtain ⟨h1, e1⟩ := List.getElem?_eq_some_iff.mp a
  obtain ⟨h2, e2⟩ := List.getElem?_eq_some_iff.mp b
  exact (List.getElem_inj hN).mp (e1.trans e2.symm)
theorem store_ok2 {M : Model} {A : Around} {E : Value → Shared → Prop} {i : Nat} {x : Str} {v : V} {u : Value} {Q : Unit → Shared → Prop} (I : Inv X pins σ H s) (hN : X.N.Nodup) (hi : X.N[i]? = some x) (hx : Loc X.env.scope x) (r : RelV v u)
    (h : ∀ s', Inv X pins (σ.set i (some v)) H s' → (∃ a, Heap.SameBut a s.heap s'.heap ∧ (a = X.env.locals ∨ X.env.cells.lookup x = some a)) → Q () s') (hf : X.fn x = true ∨ X.env.scope.names.lookup x = some .local := by first | exact .inl rfl | exact .inr rfl | assumption) : wpAny M A (storeName X.env x u) Q E s := by
  obtain ⟨m, hn, hl⟩ := id I.loc
  have hcls : (X.env.scope.kind == .class || (X.env.scope.kind == .module && X.env.locals != X.env.globals)) = false := by rw [I.ok.kind]; rfl
  have hiσ : i < σ.length := by rw [I.len]; exact (List.getElem?_eq_some_iff.mp hi).1
  have cne := I.cne
  have tracked : ∀ {a : Addr} {h' : Heap}, (∃ o, s.heap.get? a = some o ∧ H a = none) → Heap.SameBut a s.heap h' → HOk X.prog X.w H h' := fun {a h'} ha hs b ob e => by
    obtain ⟨_, _, hfree⟩ := ha
    refine (I.hok b ob e).stay (fun c w' hc q => (hs.2 c ?_).trans q) (fun _ q => q) fun _ _ q => q
    rintro rfl
    rcases hc with rfl | hc
    · rw [hfree] at e; cases e
    · rw [hfree] at hc; cases hc
  rcases hx with hk | hk
  · refine wpAny_storeName_local hk hn (fun h' hn' hs => ?_) hcls
    obtain ⟨oL, _, _, hoL, _⟩ := id hn
    refine h _ ⟨I.ok, I.os, I.bare, ⟨fun b o e n hb hx => ?_, fun b o e n hb hx => ?_, I.base.free, fun b o e hx => ?_, I.base.tups, I.base.frzs, I.base.tbls⟩, ⟨_, hn', fun j y v' e1 e2 e3 => ?_⟩, fun y c e => ?_, I.free, I.freeC, fun p hp => ?_, tracked ⟨oL, hoL, I.free⟩ hs, by simpa using I.len⟩ ⟨_, hs, .inl rfl⟩
    · exact (hs.2 b (Nat.ne_of_lt (Nat.lt_of_lt_of_le (Heap.lt_size e) I.ok.above))).trans (I.base.keep b o e n hb hx)
    · obtain ⟨sl, e1⟩ := I.base.slot b o e n hb hx
      exact ⟨sl, (hs.2 b (Nat.ne_of_lt (Nat.lt_of_lt_of_le (Heap.lt_size e) I.ok.above))).trans e1⟩
    · obtain ⟨o', e1⟩ := I.base.there b o e hx
      exact ⟨o', (hs.2 b (Nat.ne_of_lt (Nat.lt_of_lt_of_le (Heap.lt_size e) I.ok.above))).trans e1⟩
    · by_cases hj : j = i
      · subst hj
        rw [hi] at e1; cases e1
        rw [List.getElem?_set_self hiσ] at e2
        cases e2
        exact ⟨u, r, .inl ⟨hk, by simp⟩⟩
      · rw [List.getElem?_set_ne (Ne.symm hj)] at e2
        obtain ⟨u', r', q⟩ := hl j y v' e1 e2 e3
        refine ⟨u', r', ?_⟩
        rcases q with ⟨k, e⟩ | ⟨k, c, e, z⟩
        · refine .inl ⟨k, ?_⟩
          have : y ≠ x := fun e => hj (nodup_ix hN e1 (e ▸ hi))
          simp [this, e]
        · exact .inr ⟨k, c, e, z.sameBut hs (cne y c e)⟩
    · obtain ⟨w', z⟩ := I.cell y c e
      exact ⟨w', z.sameBut hs (cne y c e)⟩
    · obtain ⟨e, n, ne, nf, d⟩ := I.pin p hp
      exact ⟨(hs.2 p.1 ne).trans e, n, ne, nf, d⟩
  · have hfn : X.fn x = true := by
      rcases hf with z | z
      · exact z
      · rw [z] at hk; cases hk
    obtain ⟨c, hc⟩ := I.ok.has x (.inl hk)
    obtain ⟨w', z⟩ := I.cell x c hc
    refine wpAny_storeName_cell I.ok.kind hk hc z (fun h' hc' hs => ?_)
    obtain ⟨oc, hoc, hocd⟩ := id z
    refine h { s with heap := h' } ⟨I.ok, I.os, I.bare, ⟨fun b o e n hb hx => ?_, fun b o e n hb hx => ?_, I.base.free, fun b o e hx => ?_, I.base.tups, I.base.frzs, I.base.tbls⟩, ⟨m, hn.sameBut hs (Ne.symm (cne x c hc)), fun j y v' e1 e2 e3 => ?_⟩, fun y c' e => ?_, I.free, I.freeC, fun p hp => ?_, tracked ⟨oc, hoc, I.freeC x c hc⟩ hs, by simpa using I.len⟩ ⟨c, hs, .inr hc⟩
    · exact (hs.2 b (Nat.ne_of_lt (Nat.lt_of_lt_of_le (Heap.lt_size e) (I.ok.cab x c hfn hc)))).trans (I.base.keep b o e n hb hx)
    · obtain ⟨sl, e1⟩ := I.base.slot b o e n hb hx
      exact ⟨sl, (hs.2 b (Nat.ne_of_lt (Nat.lt_of_lt_of_le (Heap.lt_size e) (I.ok.cab x c hfn hc)))).trans e1⟩
    · obtain ⟨o', e1⟩ := I.base.there b o e hx
      exact ⟨o', (hs.2 b (Nat.ne_of_lt (Nat.lt_of_lt_of_le (Heap.lt_size e) (I.ok.cab x c hfn hc)))).trans e1⟩
    · by_cases hj : j = i
      · subst hj
        rw [hi] at e1; cases e1
        rw [List.getElem?_set_self hiσ] at e2
        cases e2
        exact ⟨u, r, .inr ⟨.inl hk, c, hc, hc'⟩⟩
      · rw [List.getElem?_set_ne (Ne.symm hj)] at e2
        obtain ⟨u', r', q⟩ := hl j y v' e1 e2 e3
        refine ⟨u', r', ?_⟩
        rcases q with q | ⟨k, c', e, z'⟩
        · exact .inl q
        · refine .inr ⟨k, c', e, z'.sameBut hs ?_⟩
          rintro rfl
          exact hj (nodup_ix hN e1 (I.ok.inj _ _ _ e hc ▸ hi))
    · by_cases hcc : c' = c
      · subst hcc; exact ⟨_, hc'⟩
      · obtain ⟨w2, z2⟩ := I.cell y c' e
        exact ⟨w2, z2.sameBut hs hcc⟩
    · obtain ⟨e, n, ne, nf, d⟩ := I.pin p hp
      refine ⟨(hs.2 p.1 ?_).trans e, n, ne, nf, d⟩
      intro q
      rw [q, hoc] at e
      have q' : oc = p.2 := Option.some.inj e
      exact d w' (by rw [← q']; exact hocd)
theorem store_ok {M : Model} {A : Around} {E : Value → Shared → Prop} {i : Nat} {x : Str} {v : V} {u : Value} {Q : Unit → Shared → Prop} (I : Inv X pins σ H s) (hN : X.N.Nodup) (hi : X.N[i]? = some x) (hx : Loc X.env.scope x) (r : RelV v u)
    (h : ∀ s', Inv X pins (σ.set i (some v)) H s' → Q () s') (hf : X.fn x = true ∨ X.env.scope.names.lookup x = some .local := by first | exact .inl rfl | exact .inr rfl | assumption) : wpAny M A (storeName X.env x u) Q E s :=
  store_ok2 I hN hi hx r (fun s' I' _ => h s' I') hf
theorem Inv.call' {s' : Shared} {ch : List Addr} (I : Inv X pins σ H s) (ho : s'.os = s.os) (u : Un (frs X.stack) ch H H' s.heap s'.heap) (hok : HOk X.prog X.w H' s'.heap) (hg : AllBare s'.gens)
    (hch : ∀ b ∈ ch, (b ∈ X.ex ∨ X.s₀.heap.objs.size ≤ b) ∧ b ≠ X.env.locals ∧ (∀ x c, X.env.cells.lookup x = some c → c ≠ b) ∧ ∀ p ∈ X.pn ++ pins, p.1 ≠ b) : Inv X pins σ H' s' := by
  obtain ⟨h', g', d', t', o'⟩ := s'
  have e : o' = s.os := ho
  subst e
  exact I.call (g' := g') (t' := t') (d' := d') u hok hg hch
end
/-! ### the judgements -/
abbrev XK := Value → Option Addr → Hp → Prop
abbrev St := List (Option V)
abbrev VK := V → Hp → Prop
abbrev TE := St → Hp → VK → Prop
abbrev TT := St → Hp → (Bool → Hp → Prop) → Prop
abbrev TA := St → Hp → (List V → Hp → Prop) → Prop
structure Ends where
  nx : St → Hp → Prop
  rt : VK
  bk : St → Hp → Prop := fun _ _ => False
  ct : St → Hp → Prop := fun _ _ => False
abbrev TS := Ends → St → Hp → Prop
def EP (X : Cx) (pins : List (Addr × Obj)) (σ : St) (Q : VK) (u : Value) (s' : Shared) : Prop := ∃ v H', Inv X pins σ H' s' ∧ RelV v u ∧ Q v H'
def TP (X : Cx) (pins : List (Addr × Obj)) (σ : St) (Q : Bool → Hp → Prop) (b : Bool) (s' : Shared) : Prop := ∃ H', Inv X pins σ H' s' ∧ Q b H'
def AP (X : Cx) (pins : List (Addr × Obj)) (σ : St) (Q : List V → Hp → Prop) (us : List Value) (s' : Shared) : Prop := ∃ vs H', Inv X pins σ H' s' ∧ Vals vs us ∧ Q vs H'
def SP (X : Cx) (pins : List (Addr × Obj)) (D : Ends) (f : Flow) (s' : Shared) : Prop :=
  match f with
  | .next => ∃ σ' H', Inv X pins σ' H' s' ∧ D.nx σ' H'
  | .brk => ∃ σ' H', Inv X pins σ' H' s' ∧ D.bk σ' H'
  | .cont => ∃ σ' H', Inv X pins σ' H' s' ∧ D.ct σ' H'
  | .ret u => ∃ v σ' H', Inv X pins σ' H' s' ∧ RelV v u ∧ D.rt v H'
def PE (X : Cx) (e : Expr) (t : TE) : Prop :=
  ∀ (pins : List (Addr × Obj)) (s : Shared) (σ : St) (H : Hp) (Q : VK), Inv X pins σ H s → t σ H Q → wpAny (model X.prog X.w) X.A (eval e X.env) (EP X pins σ Q) X.xe s
def PT (X : Cx) (e : Expr) (t : TT) : Prop :=
  ∀ (pins : List (Addr × Obj)) (s : Shared) (σ : St) (H : Hp) (Q : Bool → Hp → Prop), Inv X pins σ H s → t σ H Q → wpAny (model X.prog X.w) X.A (isTrue e X.env (eval e X.env)) (TP X pins σ Q) X.xe s
def PW (X : Cx) (e : Expr) (t : TT) : Prop :=
  ∀ (whole : Sem Value) (pins : List (Addr × Obj)) (s : Shared) (σ : St) (H : Hp) (Q : Bool → Hp → Prop), Inv X pins σ H s → t σ H Q → wpAny (model X.prog X.w) X.A (isTrue e X.env whole) (TP X pins σ Q) X.xe s
theorem PW.pt {X : Cx} {e : Expr} {t : TT} (h : PW X e t) : PT X e t := h _
def PA (X : Cx) (es : List Expr) (t : TA) : Prop :=
  ∀ (pos : Pos) (pins : List (Addr × Obj)) (s : Shared) (σ : St) (H : Hp) (Q : List V → Hp → Prop), Inv X pins σ H s → t σ H Q → wpAny (model X.prog X.w) X.A (spliced (backTo pos (starEach es X.env))) (AP X pins σ Q) X.xe s
def PS (X : Cx) (st : Stmt) (t : TS) : Prop :=
  ∀ (pins : List (Addr × Obj)) (s : Shared) (σ : St) (H : Hp) (D : Ends), Inv X pins σ H s → t D σ H → wpAny (model X.prog X.w) X.A (exec st X.env) (SP X pins D) X.xe s
def PSs (X : Cx) (st : List Stmt) (t : TS) : Prop :=
  ∀ (pins : List (Addr × Obj)) (s : Shared) (σ : St) (H : Hp) (D : Ends), Inv X pins σ H s → t D σ H → wpAny (model X.prog X.w) X.A (execs st X.env) (SP X pins D) X.xe s
theorem thn {α : Type} {t : Sem α} {Q Q' : α → Shared → Prop} {M : Model} {A : Around} {E : Value → Shared → Prop} {s : Shared} (h : wpAny M A t Q E s) (hQ : ∀ a s, Q a s → Q' a s) : wpAny M A t Q' E s := wpAny_mono h hQ fun _ _ x => x
end L2
namespace L2
open PySem PySem.Spec PyProof.Rows
section
variable {X : Cx}
theorem bin {a b : Expr} {ta tb : TE} (ha : PE X a ta) (hb : PE X b tb) {pins : List (Addr × Obj)} {s : Shared} {σ : St} {H : Hp} {R : V → V → Hp → Prop} (I : Inv X pins σ H s) (h : ta σ H fun x H1 => tb σ H1 fun y H2 => R x y H2)
    {α : Type} {Q : α → Shared → Prop} {f : Value → Value → Sem α}
    (hf : ∀ v u s2 x y H2, Inv X pins σ H2 s2 → RelV x v → RelV y u → R x y H2 → wpAny (model X.prog X.w) X.A (f v u) Q X.xe s2) :
    wpAny (model X.prog X.w) X.A (eval a X.env) (fun v s₁ => wpAny (model X.prog X.w) X.A (eval b X.env) (fun u s₂ => wpAny (model X.prog X.w) X.A (f v u) Q X.xe s₂) X.xe s₁) X.xe s := by
  refine thn (ha pins s σ H _ I h) fun v s1 ⟨x, H1, I1, r1, q1⟩ => ?_
  refine thn (hb pins s1 σ H1 _ I1 q1) fun u s2 ⟨y, H2, I2, r2, q2⟩ => ?_
  exact hf v u s2 x y H2 I2 r1 r2 q2
/-! ### names and constants -/
def tVar (i : Nat) : TE := fun σ H Q => ∃ v, σ[i]? = some (some v) ∧ Q v H
def tC (v : V) : TE := fun _ H Q => Q v H
theorem pe_var {i : Nat} {x : Str} {pos : Pos} (hN : X.N[i]? = some x) (hv : Vis X.env.scope x) (hd : (x == ("__debug__" : Str)) = false := by decide) (hcd : (x == ("__classdict__" : Str)) = false := by decide) : PE X (.Name x pos) (tVar i) := by
  intro pins s σ H Q I h
  obtain ⟨v, e, h⟩ := h
  obtain ⟨m, hn, hl⟩ := I.loc
  obtain ⟨u, r, l⟩ := hl i x v hN e hv
  have fin : EP X pins σ Q u s := ⟨v, H, I, r, h⟩
  rcases l with ⟨hk, hm⟩ | ⟨hk, c, hc, hcell⟩
  · exact wpAny_Name (wpAny_loadName_local I.ok.kind hk hn hm fin) hd
  · rcases hk with hk | hk
    · exact wpAny_Name (wpAny_loadName_cell I.ok.kind hk hc hcell fin) hd
    · exact wpAny_Name (wpAny_loadName_free I.ok.kind hk hc hcell fin hcd) hd
theorem pe_int {i j pos} : PE X (.Constant (.int i) j pos) (tC (.int i)) := fun _ _ _ H _ I h => wpAny_Constant_int ⟨.int i, H, I.tok _, ⟨_, rfl⟩, h⟩
theorem pe_bl {b j pos} : PE X (.Constant (.bool b) j pos) (tC (.bl b)) := fun _ _ _ H _ I h => Constant_bool ⟨.bl b, H, I, rfl, h⟩
theorem pe_str {x j pos} : PE X (.Constant (.str x) j pos) (tC (.str x)) := fun _ _ _ H _ I h => Calls.Constant_str ⟨.str x, H, I.tok _, ⟨_, rfl⟩, h⟩
def Gl (X : Cx) (x : Str) : Prop := X.env.kindOf x = some .globalImplicit
theorem ld_glob {E : Value → Shared → Prop} {pins : List (Addr × Obj)} {s : Shared} {σ : St} {H : Hp} {x : Str} {u : Value} {pos : Pos} {Q : Value → Shared → Prop} (I : Inv X pins σ H s) (hg : Gl X x) (hm : X.mg x = some u) (h : Q u s)
    (hd : (x == ("__debug__" : Str)) = false := by decide) : wpAny (model X.prog X.w) X.A (eval (.Name x pos) X.env) Q E s :=
  Calls.Name_function_global I.ok.kind hg (Calls.loadGlobal_global (by rw [I.ok.glob]; exact I.mod.glob.keeps I.bk) hm h) hd
theorem ld_blt {E : Value → Shared → Prop} {pins : List (Addr × Obj)} {s : Shared} {σ : St} {H : Hp} {x : Str} {u : Value} {pos : Pos} {Q : Value → Shared → Prop} (I : Inv X pins σ H s) (hg : Gl X x) (hm : X.mg x = none) (hv : bootBuiltins x = some u) (h : Q u s)
    (hn : x ≠ "__name__" := by decide) (hd : (x == ("__debug__" : Str)) = false := by decide) : wpAny (model X.prog X.w) X.A (eval (.Name x pos) X.env) Q E s := by
  obtain ⟨mb, h1, h2⟩ := I.mod.blt
  exact Calls.Name_function_global I.ok.kind hg (Calls.loadGlobal_builtin (by rw [I.ok.glob]; exact I.mod.glob.keeps I.bk) hm (by rw [I.ok.blt]; exact h1.keeps I.bk) ((h2 x hn).trans hv) h) hd
theorem pe_glob {x : Str} {v : V} {u : Value} {pos : Pos} (hg : Gl X x) (hm : X.mg x = some u) (r : RelV v u) (hd : (x == ("__debug__" : Str)) = false := by decide) : PE X (.Name x pos) (tC v) :=
  fun _ _ _ H _ I h => ld_glob I hg hm ⟨v, H, I, r, h⟩ hd
theorem pe_bltn {x : Str} {v : V} {u : Value} {pos : Pos} (hg : Gl X x) (hm : X.mg x = none) (hv : bootBuiltins x = some u) (r : RelV v u) (hn : x ≠ "__name__" := by decide) (hd : (x == ("__debug__" : Str)) = false := by decide) : PE X (.Name x pos) (tC v) :=
  fun _ _ _ H _ I h => ld_blt I hg hm hv ⟨v, H, I, r, h⟩ hn hd
/-! ### arithmetic -/
def t2I (ta tb : TE) (k : Int → Int → Hp → Prop) : St → Hp → Prop := fun σ H => ta σ H fun x H1 => tb σ H1 fun y H2 => ∃ i j, x = .int i ∧ y = .int j ∧ k i j H2
def tAdd (ta tb : TE) : TE := fun σ H Q => t2I ta tb (fun i j H2 => Q (.int (i + j)) H2) σ H
def tSub (ta tb : TE) : TE := fun σ H Q => t2I ta tb (fun i j H2 => Q (.int (i - j)) H2) σ H
def tMul (ta tb : TE) : TE := fun σ H Q => t2I ta tb (fun i j H2 => (-(2 ^ 64) < i ∧ i < 2 ^ 64) ∧ Q (.int (i * j)) H2) σ H
variable {a b : Expr} {ta tb : TE} {pos : Pos}
/-! ### comparisons -/
def PC (X : Cx) (op : CmpOp) (a b : Expr) (t : TE) : Prop :=
  ∀ (pins : List (Addr × Obj)) (s : Shared) (σ : St) (H : Hp) (Q : VK), Inv X pins σ H s → t σ H Q →
    wpAny (model X.prog X.w) X.A (eval a X.env) (fun v s₁ => wpAny (model X.prog X.w) X.A (eval b X.env) (fun u s₂ => wpAny (model X.prog X.w) X.A (compareOp op v u) (EP X pins σ Q) X.xe s₂) X.xe s₁) X.xe s
theorem nobehind (b : Expr) {op : CmpOp} (h : op ≠ .In) (h2 : op ≠ .NotIn) : behindInMarks op b = false := by
  have e1 : (op == CmpOp.In) = false := by cases op <;> first | rfl | exact absurd rfl h
  have e2 : (op == CmpOp.NotIn) = false := by cases op <;> first | rfl | exact absurd rfl h2
  cases b <;> simp [behindInMarks, e1, e2]
def tCmp (p : Int → Int → Bool) (ta tb : TE) : TE := fun σ H Q => t2I ta tb (fun i j H2 => Q (.bl (p i j)) H2) σ H
abbrev tLt : TE → TE → TE := tCmp fun i j => decide (i < j)
abbrev tLe : TE → TE → TE := tCmp fun i j => decide (i ≤ j)
abbrev tGt : TE → TE → TE := tCmp fun i j => decide (j < i)
abbrev tGe : TE → TE → TE := tCmp fun i j => decide (j ≤ i)
abbrev tEqI : TE → TE → TE := tCmp fun i j => decide (i = j)
abbrev tNeI : TE → TE → TE := tCmp fun i j => !decide (i = j)
def tIsN (ta : TE) : TE := fun σ H Q => ta σ H fun x H1 => Q (.bl (decide (x = .non))) H1
def tNotN (ta : TE) : TE := fun σ H Q => ta σ H fun x H1 => Q (.bl (!decide (x = .non))) H1
def tB (t : TE) : TT := fun σ H Q => t σ H fun x H1 => ∃ c, x = .bl c ∧ Q c H1
theorem pe_cmp {op : CmpOp} {t : TE} (h : PC X op a b t) (h1 : behindInMarks op b = false := by first | exact nobehind _ (by decide) (by decide) | rfl) : PE X (.Compare a [op] [b] pos) t := fun pins s σ H Q I hw => wpAny_Compare1 (h pins s σ H Q I hw) h1
theorem pt_cmp {op : CmpOp} {t : TE} (h : PC X op a b t) (h1 : behindInMarks op b = false := by first | exact nobehind _ (by decide) (by decide) | rfl) : PT X (.Compare a [op] [b] pos) (tB t) := by
  intro pins s σ H Q I hw
  refine wpAny_isTrue_Compare1 (thn (h pins s σ H _ I hw) fun v s1 h1 => thn h1 fun u s2 h2 => thn h2 fun c s3 ⟨x, H1, I1, r1, q1⟩ => ?_) h1
  obtain ⟨d, rfl, q⟩ := q1
  cases r1
  exact wpAny_truthy_bool ⟨H1, I1, q⟩
theorem pt_val {e : Expr} {t : TE} (h : PE X e t) (he : ∀ whole, isTrue e X.env whole = (do let v ← whole; standAt e.pos; holding [v] (truthy v)) := by intro _; rfl) : PT X e (tB t) := by
  intro pins s σ H Q I hw
  refine isTrue_plain (thn (h pins s σ H _ I hw) fun v s1 ⟨x, H1, I1, r1, q1⟩ => ?_) (he _)
  obtain ⟨d, rfl, q⟩ := q1
  cases r1
  exact wpAny_truthy_bool ⟨H1, I1, q⟩
/-! ### and, or, not -/
variable {tA tB' : TT} {rest : List Expr}
def tAnd (t u : TT) : TT := fun σ H Q => t σ H fun c H1 => if c = true then u σ H1 Q else Q false H1
def tOr (t u : TT) : TT := fun σ H Q => t σ H fun c H1 => if c = true then Q true H1 else u σ H1 Q
def tNot (t : TT) : TT := fun σ H Q => t σ H fun c H1 => Q (!c) H1
theorem pw_and1 (ha : PT X a tA) : PW X (.BoolOp .And [a] pos) tA := by
  intro wh pins s σ H Q I h
  refine isTrue_and (thn (ha pins s σ H Q I h) fun c s1 e => ?_)
  cases c with
  | true => exact isTrue_and_nil e
  | false => exact e
theorem pw_or1 (ha : PT X a tA) : PW X (.BoolOp .Or [a] pos) tA := by
  intro wh pins s σ H Q I h
  refine isTrue_or (thn (ha pins s σ H Q I h) fun c s1 e => ?_)
  cases c with
  | false => exact isTrue_or_nil e
  | true => exact e
theorem pw_and (ha : PT X a tA) (hb : PW X (.BoolOp .And (b :: rest) pos) tB') : PW X (.BoolOp .And (a :: b :: rest) pos) (tAnd tA tB') := by
  intro wh pins s σ H Q I h
  refine isTrue_and (thn (ha pins s σ H _ I h) fun c s1 ⟨H1, I1, q1⟩ => ?_)
  cases c with
  | true => exact hb wh pins s1 σ H1 Q I1 q1
  | false => exact ⟨H1, I1, q1⟩
theorem pw_or (ha : PT X a tA) (hb : PW X (.BoolOp .Or (b :: rest) pos) tB') : PW X (.BoolOp .Or (a :: b :: rest) pos) (tOr tA tB') := by
  intro wh pins s σ H Q I h
  refine isTrue_or (thn (ha pins s σ H _ I h) fun c s1 ⟨H1, I1, q1⟩ => ?_)
  cases c with
  | true => exact ⟨H1, I1, q1⟩
  | false => exact hb wh pins s1 σ H1 Q I1 q1
theorem pt_not (ha : PT X a tA) : PT X (.UnaryOp .Not a pos) (tNot tA) := by
  intro pins s σ H Q I h
  exact isTrue_not (ha pins s σ H (fun c H1 => Q (!c) H1) I h)
def tAndV (ta tb : TE) : TE := fun σ H Q => ta σ H fun x H1 => ∃ c, x = .bl c ∧ if c = true then tb σ H1 Q else Q (.bl false) H1
def tOrV (ta tb : TE) : TE := fun σ H Q => ta σ H fun x H1 => ∃ c, x = .bl c ∧ if c = true then Q (.bl true) H1 else tb σ H1 Q
def tNotV (ta : TE) : TE := fun σ H Q => ta σ H fun x H1 => ∃ c, x = .bl c ∧ Q (.bl (!c)) H1
theorem pe_one {op} {t : TE} (h : PE X a t) : PE X (.BoolOp op [a] pos) t := fun pins s σ H Q I hw => BoolOp_one (h pins s σ H Q I hw)
theorem pe_and (ha : PE X a ta) (hb : PE X (.BoolOp .And (b :: rest) pos) tb) : PE X (.BoolOp .And (a :: b :: rest) pos) (tAndV ta tb) := by
  intro pins s σ H Q I h
  refine BoolOp_and (thn (ha pins s σ H _ I h) fun v s1 ⟨x, H1, I1, r1, q1⟩ => ?_)
  obtain ⟨c, rfl, q1⟩ := q1
  cases r1
  refine wpAny_truthy_bool ?_
  cases c with
  | true => exact hb pins s1 σ H1 Q I1 q1
  | false => exact ⟨.bl false, H1, I1, rfl, q1⟩
theorem pe_or (ha : PE X a ta) (hb : PE X (.BoolOp .Or (b :: rest) pos) tb) : PE X (.BoolOp .Or (a :: b :: rest) pos) (tOrV ta tb) := by
  intro pins s σ H Q I h
  refine BoolOp_or (thn (ha pins s σ H _ I h) fun v s1 ⟨x, H1, I1, r1, q1⟩ => ?_)
  obtain ⟨c, rfl, q1⟩ := q1
  cases r1
  refine wpAny_truthy_bool ?_
  cases c with
  | false => exact hb pins s1 σ H1 Q I1 q1
  | true => exact ⟨.bl true, H1, I1, rfl, q1⟩
theorem pe_not (ha : PE X a ta) : PE X (.UnaryOp .Not a pos) (tNotV ta) := by
  intro pins s σ H Q I h
  refine UnaryOp_ (thn (ha pins s σ H _ I h) fun v s1 ⟨x, H1, I1, r1, q1⟩ => ?_)
  obtain ⟨c, rfl, q1⟩ := q1
  cases r1
  exact not_of (wpAny_truthy_bool ⟨.bl (!c), H1, I1, rfl, q1⟩)
def tIf (t : TT) (ta tb : TE) : TE := fun σ H Q => t σ H fun c H1 => if c = true then ta σ H1 Q else tb σ H1 Q
end
end L2
namespace L2
open PySem PySem.Spec PyProof.Rows
/-! ### a list, a tuple that is read: tracked, frozen, or an object of the module -/
def SqL (K : PySem.W.Frag) (H : Hp) (a : Addr) (xs : List V) : Prop :=
  Rd H a (.lst xs) ∨
    ∃ (o : Obj) (its : Array Value) (n : Nat), K.lookup a = some o ∧ o.cls = .type "list" ∧ o.dict = none ∧ o.data = .seq its n ∧ its.size ≤ sizeLine ∧ Vals xs its.toList
def SqT (K : PySem.W.Frag) (H : Hp) (a : Addr) (xs : List V) : Prop :=
  Rd H a (.tup xs) ∨
    ∃ (o : Obj) (its : Array Value) (n : Nat), K.lookup a = some o ∧ o.cls = .type "tuple" ∧ o.data = .seq its n ∧ its.size ≤ sizeLine ∧ Vals xs its.toList
def absV : Value → Option V
  | .none => some .non
  | .bool b => some (.bl b)
  | .int i _ => some (.int i)
  | .str x _ => some (.str x)
  | .bytes b _ => some (.byt b)
  | .float b _ => some (.flt b)
  | .ref a => some (.ref a)
  | .type n => some (.ty n)
  | _ => none
theorem RelV.abs {x : V} {u : Value} (r : RelV x u) : absV u = some x := by
  cases x with
  | non => cases r; rfl
  | bl _ => cases r; rfl
  | int _ => obtain ⟨t, rfl⟩ := r; rfl
  | str _ => obtain ⟨t, rfl⟩ := r; rfl
  | byt _ => obtain ⟨t, rfl⟩ := r; rfl
  | flt _ => obtain ⟨t, rfl⟩ := r; rfl
  | ref _ => cases r; rfl
  | ty _ => cases r; rfl
theorem RelV.inj {x y : V} {u : Value} (r : RelV x u) (q : RelV y u) : x = y := Option.some.inj (r.abs.symm.trans q.abs)
theorem Vals.inj : ∀ {xs ys : List V} {us : List Value}, Vals xs us → Vals ys us → xs = ys
  | _, _, _, .nil, .nil => rfl
  | _, _, _, .cons r t, .cons r' t' => by rw [r.inj r', Vals.inj t t']
section
variable {X : Cx} {pins : List (Addr × Obj)} {σ : St} {H : Hp} {s : Shared} {a : Addr} {xs ys : List V}
theorem SqL.of {K : PySem.W.Frag} (h : H a = some (.lst xs)) : SqL K H a xs := .inl (.inl h)
theorem SqT.of {K : PySem.W.Frag} (h : H a = some (.tup xs)) : SqT K H a xs := .inl (.inl h)
theorem Inv.list (I : Inv X pins σ H s) (h : SqL X.K H a xs) : ∃ its : List Value, Vals xs its ∧ PlainL s.heap a its.toArray ∧ xs.length ≤ sizeLine := by
  rcases h with h | ⟨o, its, n, hk, hc, hd, hs, hz, r⟩
  · obtain ⟨z, its, n, r, e⟩ := h.ok I.hok
    exact ⟨its, r, ⟨_, n, e, rfl, rfl, rfl⟩, z⟩
  · refine ⟨its.toList, r, ⟨o, n, I.kIn a o hk, hc, hd, by simpa using hs⟩, ?_⟩
    have e := r.length
    simp only [Array.length_toList] at e
    omega
theorem Inv.tuple (I : Inv X pins σ H s) (h : SqT X.K H a xs) : ∃ its : List Value, Vals xs its ∧ IsTup s.heap a its.toArray ∧ xs.length ≤ sizeLine := by
  rcases h with h | ⟨o, its, n, hk, hc, hs, hz, r⟩
  · obtain ⟨z, its, r, p⟩ := h.ok I.hok
    exact ⟨its, r, p, z⟩
  · refine ⟨its.toList, r, ⟨o, I.kIn a o hk, hc, n, by simpa using hs⟩, ?_⟩
    have e := r.length
    simp only [Array.length_toList] at e
    omega
theorem Inv.list_inj (I : Inv X pins σ H s) (h : SqL X.K H a xs) (h' : SqL X.K H a ys) : xs = ys := by
  obtain ⟨its, r, ⟨o, n, e, _, _, d⟩, _⟩ := I.list h
  obtain ⟨its', r', ⟨o', n', e', _, _, d'⟩, _⟩ := I.list h'
  rw [e] at e'; cases e'
  rw [d] at d'
  injection d' with d1 _
  have : its = its' := by simpa using congrArg Array.toList d1
  subst this
  exact r.inj r'
end
/-! ### another wish about exceptions -/
abbrev Cx.wish (X : Cx) (E : Value → Shared → Prop) : Cx := { X with xe := E }
abbrev Cx.nox (X : Cx) : Cx := X.wish fun _ _ => False
theorem Cx.Ok.wish {X : Cx} (ok : X.Ok) (E : Value → Shared → Prop) : (X.wish E).Ok :=
  ⟨ok.mod, ok.kind, ok.glob, ok.blt, ok.above, ok.inj, ok.has, ok.cab, ok.hd, ok.frames, ok.stk, ok.exf, ok.bs, ok.bsz, ok.noex, ok.exfs, ok.funs, ok.frf⟩
theorem Cx.Ok.unwish {X : Cx} {E : Value → Shared → Prop} (ok : (X.wish E).Ok) : X.Ok :=
  ⟨ok.mod, ok.kind, ok.glob, ok.blt, ok.above, ok.inj, ok.has, ok.cab, ok.hd, ok.frames, ok.stk, ok.exf, ok.bs, ok.bsz, ok.noex, ok.exfs, ok.funs, ok.frf⟩
section
variable {X : Cx} {pins : List (Addr × Obj)} {σ : St} {H : Hp} {s : Shared} {E : Value → Shared → Prop}
theorem Inv.wish (I : Inv X pins σ H s) (E : Value → Shared → Prop) : Inv (X.wish E) pins σ H s := ⟨I.ok.wish E, I.os, I.bare, I.base, I.loc, I.cell, I.free, I.freeC, I.pin, I.hok, I.len⟩
theorem Inv.unwish (I : Inv (X.wish E) pins σ H s) : Inv X pins σ H s := ⟨I.ok.unwish, I.os, I.bare, I.base, I.loc, I.cell, I.free, I.freeC, I.pin, I.hok, I.len⟩
theorem SP.unwish {D : Ends} {f : Flow} {s' : Shared} (h : SP (X.wish E) pins D f s') : SP X pins D f s' := by
  cases f with
  | next => obtain ⟨σ', H', I, q⟩ := h; exact ⟨σ', H', I.unwish, q⟩
  | brk => obtain ⟨σ', H', I, q⟩ := h; exact ⟨σ', H', I.unwish, q⟩
  | cont => obtain ⟨σ', H', I, q⟩ := h; exact ⟨σ', H', I.unwish, q⟩
  | ret u => obtain ⟨v, σ', H', I, r, q⟩ := h; exact ⟨v, σ', H', I.unwish, r, q⟩
theorem PE.nox {e : Expr} {t : TE} (h : PE X.nox e t) : PE X e t := fun pins s σ H Q I hw =>
  wpAny_mono (h pins s σ H Q (I.wish _) hw) (fun _ _ ⟨v, H', I', r, q⟩ => ⟨v, H', I'.unwish, r, q⟩) fun _ _ z => False.elim z
theorem PT.nox {e : Expr} {t : TT} (h : PT X.nox e t) : PT X e t := fun pins s σ H Q I hw =>
  wpAny_mono (h pins s σ H Q (I.wish _) hw) (fun _ _ ⟨H', I', q⟩ => ⟨H', I'.unwish, q⟩) fun _ _ z => False.elim z
theorem PSs.nox {st : List Stmt} {t : TS} (h : PSs X.nox st t) : PSs X st t := fun pins s σ H D I hw =>
  wpAny_mono (h pins s σ H D (I.wish _) hw) (fun _ _ q => q.unwish) fun _ _ z => False.elim z
end
/-! ### blocks and small statements -/
section
variable {X : Cx} {st : Stmt} {rest : List Stmt} {t u : TS} {e : Expr} {te : TE} {pos : Pos}
def tNext : TS := fun D σ H => D.nx σ H
def tSeq (t u : TS) : TS := fun D σ H => t { D with nx := u D } σ H
theorem pss_nil : PSs X [] tNext := fun _ _ σ H _ I h => wpAny_execs_nil ⟨σ, H, I, h⟩
theorem pss_cons (h1 : PS X st t) (h2 : PSs X rest u) : PSs X (st :: rest) (tSeq t u) := by
  intro pins s σ H D I h
  refine wpAny_execs_cons (thn (h1 pins s σ H { D with nx := u D } I h) fun f s1 q => ?_)
  cases f with
  | next =>
    obtain ⟨σ', H', I', q⟩ := q
    exact h2 pins s1 σ' H' D I' q
  | ret v => exact q
  | brk => exact q
  | cont => exact q
theorem pss_one (h1 : PS X st t) : PSs X [st] t := by
  intro pins s σ H D I h
  refine wpAny_execs_cons (thn (h1 pins s σ H D I h) fun f s1 q => ?_)
  cases f with
  | next => exact wpAny_execs_nil q
  | ret v => exact q
  | brk => exact q
  | cont => exact q
def tBreak : TS := fun D σ H => D.bk σ H
def tCont : TS := fun D σ H => D.ct σ H
theorem Inv.quiet {pins : List (Addr × Obj)} {σ : St} {H : Hp} {s : Shared} (I : Inv X pins σ H s) : interactive X.env = false := by simp [interactive, I.ok.kind]
def tDrop (te : TE) : TS := fun D σ H => te σ H fun _ H1 => D.nx σ H1
theorem ps_expr (he : PE X e te) (hs : swapsWith e none pos.line X.env = pure false := by rfl) : PS X (.Expr e pos) (tDrop te) := by
  intro pins s σ H D I h
  exact wpAny_Expr_any (thn (he pins s σ H _ I h) fun v s1 ⟨x, H1, I1, r1, q1⟩ => ⟨σ, H1, I1, q1⟩) I.quiet hs
def tRet (te : TE) : TS := fun D σ H => te σ H D.rt
theorem ps_ret (he : PE X e te) : PS X (.Return (some e) pos) (tRet te) := by
  intro pins s σ H D I h
  exact wpAny_Return_some (thn (he pins s σ H _ I h) fun v s1 ⟨x, H1, I1, r1, q1⟩ => ⟨x, σ, H1, I1, r1, q1⟩)
def tRetN : TS := fun D _ H => D.rt .non H
theorem ps_retN : PS X (.Return none pos) tRetN := fun _ _ σ H _ I h => wpAny_Return_none ⟨.non, σ, H, I, rfl, h⟩
def tIfS (c : TT) (t u : TS) : TS := fun D σ H => c σ H fun b H1 => if b = true then t D σ H1 else u D σ H1
theorem ps_if {c : Expr} {a b : List Stmt} {tc : TT} (hc : PT X c tc) (ha : PSs X a t) (hb : PSs X b u) : PS X (.If c a b pos) (tIfS tc t u) := by
  intro pins s σ H D I h
  refine wpAny_If (thn (hc pins s σ H _ I h) fun d s1 ⟨H1, I1, q1⟩ => ?_)
  cases d with
  | true => exact ha pins s1 σ H1 D I1 q1
  | false => exact hb pins s1 σ H1 D I1 q1
def tNever : TS := fun _ _ _ => False
end
/-! ### targets -/
abbrev TG := V → St → Hp → (St → Hp → Prop) → Prop
abbrev TGs := List V → St → Hp → (St → Hp → Prop) → Prop
def PG (X : Cx) (target : Expr) (t : TG) : Prop :=
  ∀ (pins : List (Addr × Obj)) (s : Shared) (σ : St) (H : Hp) (v : V) (u : Value) (Q : St → Hp → Prop), Inv X pins σ H s → RelV v u → t v σ H Q →
    wpAny (model X.prog X.w) X.A (assign target X.env u) (fun _ s' => ∃ σ' H', Inv X pins σ' H' s' ∧ Q σ' H') X.xe s
def PGs (X : Cx) (ts : List Expr) (t : TGs) : Prop :=
  ∀ (pins : List (Addr × Obj)) (s : Shared) (σ : St) (H : Hp) (vs : List V) (us : List Value) (Q : St → Hp → Prop), Inv X pins σ H s → Vals vs us → t vs σ H Q →
    wpAny (model X.prog X.w) X.A (assignInOrder ((assignEach ts X.env).map (·.2)) us) (fun _ s' => ∃ σ' H', Inv X pins σ' H' s' ∧ Q σ' H') X.xe s
abbrev TSet := V → V → V → Hp → (Hp → Prop) → Prop
def PSet (X : Cx) (t : TSet) : Prop :=
  ∀ (pins : List (Addr × Obj)) (s : Shared) (σ : St) (H : Hp) (o i v : V) (ov iv u : Value) (Q : Hp → Prop), Inv X pins σ H s → RelV o ov → RelV i iv → RelV v u → t o i v H Q →
    wpAny (model X.prog X.w) X.A (setItem ov iv u) (fun _ s' => ∃ H', Inv X pins σ H' s' ∧ Q H') X.xe s
abbrev TIp := V → V → Hp → VK → Prop
def PIp (X : Cx) (op : Operator) (t : TIp) : Prop :=
  ∀ (pins : List (Addr × Obj)) (s : Shared) (σ : St) (H : Hp) (x y : V) (v u : Value) (Q : VK), Inv X pins σ H s → RelV x v → RelV y u → t x y H Q →
    wpAny (model X.prog X.w) X.A (inplaceOp op v u) (EP X pins σ Q) X.xe s
section
variable {X : Cx} {pos : Pos}
def gName (i : Nat) : TG := fun v σ H Q => Q (σ.set i (some v)) H
theorem pg_name {i : Nat} {x : Str} (hN : X.N.Nodup) (hi : X.N[i]? = some x) (hx : Loc X.env.scope x) (hf : X.fn x = true ∨ X.env.scope.names.lookup x = some .local := by first | exact .inl rfl | exact .inr rfl | assumption) : PG X (.Name x pos) (gName i) := by
  intro pins s σ H v u Q I r h
  exact wpAny_assign_Name (store_ok I hN hi hx r (fun s' I' => ⟨_, H, I', h⟩) hf)
def gNil : TGs := fun vs σ H Q => vs = [] ∧ Q σ H
def gCons (t : TG) (u : TGs) : TGs := fun vs σ H Q => ∃ v r, vs = v :: r ∧ t v σ H fun σ' H' => u r σ' H' Q
def gTup (K : PySem.W.Frag) (n : Nat) (t : TGs) : TG := fun v σ H Q => ∃ a xs, v = .ref a ∧ SqT K H a xs ∧ xs.length = n ∧ t xs σ H Q
def gSub (to ti : TE) (t : TSet) : TG := fun v σ H Q => to σ H fun o H1 => ti σ H1 fun i H2 => t o i v H2 fun H3 => Q σ H3
theorem pg_sub {o i : Expr} {to ti : TE} {t : TSet} (ho : PE X o to) (hi : PE X i ti) (hs : PSet X t)
    (ha : ∀ v, assign (.Subscript o i pos) X.env v = (do
      let ov ← holding [v] (eval o X.env)
      let iv ← holding [v, ov] (eval i X.env)
      standAt pos
      holding [v, ov, iv] (setItem ov iv v)
      release [v, ov, iv] []) := by intro _; rfl) : PG X (.Subscript o i pos) (gSub to ti t) := by
  intro pins s σ H v u Q I r h
  rw [ha]
  refine wpAny_bind (wpAny_holding (thn (ho pins s σ H _ I h) fun ov s1 ⟨x, H1, I1, r1, q1⟩ => ?_))
  refine wpAny_bind (wpAny_holding (thn (hi pins s1 σ H1 _ I1 q1) fun iv s2 ⟨y, H2, I2, r2, q2⟩ => ?_))
  refine wpAny_bind (wpAny_standAt (wpAny_bind (wpAny_holding (thn (hs pins s2 σ H2 x y v ov iv u _ I2 r1 r2 r q2) fun _ s3 ⟨H3, I3, q3⟩ => ?_))))
  exact wpAny_release ⟨σ, H3, I3, q3⟩
def tAsg (te : TE) (g : TG) : TS := fun D σ H => te σ H fun x H1 => g x σ H1 D.nx
theorem ps_asg {tg e : Expr} {te : TE} {g : TG} (he : PE X e te) (hg : PG X tg g) (hs : swapsWithSole [tg] e pos.line X.env = pure false := by rfl) (hw : swappedStores [tg] e X.env = pure none := by rfl)
    (h1 : (assignEach [tg] X.env).map (·.2) = [assign tg X.env] := by rfl) : PS X (.Assign [tg] e pos) (tAsg te g) := by
  intro pins s σ H D I h
  refine wpAny_Assign_stores (thn (he pins s σ H _ I h) fun v s1 ⟨x, H1, I1, r1, q1⟩ => ?_) hs hw
  rw [h1]
  exact thn (hg pins s1 σ H1 x v _ I1 r1 q1) fun _ s2 q => q
theorem ps_set {i : Nat} {x : Str} {e : Expr} {te : TE} {pos' : Pos} (hN : X.N.Nodup) (hi : X.N[i]? = some x) (hx : Loc X.env.scope x) (he : PE X e te) (hs : swapsWith e (some (.Name x pos')) pos.line X.env = pure false := by rfl) (hf : X.fn x = true ∨ X.env.scope.names.lookup x = some .local := by first | exact .inl rfl | exact .inr rfl | assumption) :
    PS X (.Assign [.Name x pos'] e pos) (tAsg te (gName i)) := by
  intro pins s σ H D I h
  refine wpAny_Assign_Name (thn (he pins s σ H _ I h) fun v s1 ⟨y, H1, I1, r1, q1⟩ => ?_) hs
  exact store_ok I1 hN hi hx r1 (fun s2 I2 => ⟨_, H1, I2, q1⟩) hf
def tPar (i j : Nat) (ta : TA) : TS := fun D σ H => ta σ H fun vs H1 => ∃ v w, vs = [v, w] ∧ D.nx ((σ.set i (some v)).set j (some w)) H1
def tAug (i : Nat) (te : TE) (ti : TIp) : TS := fun D σ H => ∃ x, σ[i]? = some (some x) ∧ te σ H fun y H1 => ti x y H1 fun z H2 => D.nx (σ.set i (some z)) H2
theorem ps_aug {i : Nat} {x : Str} {e : Expr} {te : TE} {op : Operator} {ti : TIp} {pos' : Pos} (hN : X.N.Nodup) (hi : X.N[i]? = some x) (hx : Loc X.env.scope x) (he : PE X e te) (ho : PIp X op ti) (hf : X.fn x = true ∨ X.env.scope.names.lookup x = some .local := by first | exact .inl rfl | exact .inr rfl | assumption) :
    PS X (.AugAssign (.Name x pos') op e pos) (tAug i te ti) := by
  intro pins s σ H D I h
  obtain ⟨v, e1, h⟩ := h
  obtain ⟨m, hn, hl⟩ := I.loc
  have vis : Vis X.env.scope x := by rcases hx with k | k; exact .inl k; exact .inr (.inl k)
  obtain ⟨u, r, l⟩ := hl i x v hi e1 vis
  refine wpAny_AugAssign_Name ?_
  have go : wpAny (model X.prog X.w) X.A (eval e X.env) (fun w s₂ => wpAny (model X.prog X.w) X.A (inplaceOp op u w) (fun r s₃ => wpAny (model X.prog X.w) X.A (storeName X.env x r) (fun _ => SP X pins D .next) X.xe s₃) X.xe s₂) X.xe s := by
    refine thn (he pins s σ H _ I h) fun w s1 ⟨y, H1, I1, r1, q1⟩ => ?_
    refine thn (ho pins s1 σ H1 v y u w _ I1 r r1 q1) fun z s2 ⟨zv, H2, I2, r2, q2⟩ => ?_
    exact store_ok I2 hN hi hx r2 (fun s3 I3 => ⟨_, H2, I3, q2⟩) hf
  rcases l with ⟨hk, hm⟩ | ⟨hk, c, hc, hcell⟩
  · exact wpAny_loadName_local I.ok.kind hk hn hm go
  · rcases hk with hk | hk
    · exact wpAny_loadName_cell I.ok.kind hk hc hcell go
    · rcases hx with k | k
      · have : X.env.scope.names.lookup x = some .free := hk
        rw [k] at this; cases this
      · have : X.env.scope.names.lookup x = some .free := hk
        rw [k] at this; cases this
def tAugS (to ti te : TE) (tget : V → V → Hp → VK → Prop) (tip : TIp) (tset : TSet) : TS := fun D σ H => to σ H fun o H1 => ti σ H1 fun i H2 => tget o i H2 fun x H3 => te σ H3 fun y H4 => tip x y H4 fun z H5 => tset o i z H5 fun H6 => D.nx σ H6
def PGet (X : Cx) (t : V → V → Hp → VK → Prop) : Prop :=
  ∀ (pins : List (Addr × Obj)) (s : Shared) (σ : St) (H : Hp) (o i : V) (ov iv : Value) (Q : VK), Inv X pins σ H s → RelV o ov → RelV i iv → t o i H Q →
    wpAny (model X.prog X.w) X.A (getItem ov iv) (EP X pins σ Q) X.xe s
def ipI (f : Int → Int → Int) : TIp := fun x y H Q => ∃ i j, x = .int i ∧ y = .int j ∧ Q (.int (f i j)) H
theorem ip_add : PIp X .Add (ipI fun i j => i + j) := by
  intro pins s σ H x y v u Q I r1 r2 h
  obtain ⟨i, j, e1, e2, q⟩ := h
  subst e1; subst e2
  obtain ⟨t, rfl⟩ := r1
  obtain ⟨t', rfl⟩ := r2
  exact iadd_int ⟨.int _, H, I.tok _, ⟨_, rfl⟩, q⟩
end
/-! ### while -/
section
variable {X : Cx} {pos : Pos}
def tWhile (c : TT) (tb : TS) : TS := fun D σ H => ∃ W : Nat → St → Hp → Prop, (∃ m, W m σ H) ∧ ∀ m σ H, W m σ H →
  c σ H fun b H1 => if b = true then ∃ N : St → Hp → Prop, (∀ σ' H', N σ' H' → ∃ m', m' < m ∧ W m' σ' H') ∧ tb { D with nx := N, ct := N, bk := D.nx } σ H1 else D.nx σ H1
theorem ps_while {c : Expr} {body : List Stmt} {tc : TT} {tb : TS} (hp : PassesOwn (model X.prog X.w) X.A X.env X.xe) (hc : PT X c tc) (hb : PSs X body tb) : PS X (.While c body [] pos) (tWhile tc tb) := by
  intro pins s σ H D I h
  obtain ⟨W, ⟨m0, w0⟩, turn⟩ := h
  refine wpAny_While (codeAny_whileLoop (fun n s' => ∃ σ' H', Inv X pins σ' H' s' ∧ W n σ' H') ?_ m0 ⟨σ, H, I, w0⟩)
  rintro n s1 ⟨σ1, H1, I1, w1⟩
  refine wpAny_passesOwn hp (thn (hc pins s1 σ1 H1 _ I1 (turn n σ1 H1 w1)) fun b s2 ⟨H2, I2, q2⟩ => ?_)
  cases b with
  | true =>
    obtain ⟨N, hN, q2⟩ := q2
    rw [if_pos rfl]
    refine wpAny_passesOwn hp (thn (hb pins s2 σ1 H2 _ I2 q2) fun f s3 q3 => ?_)
    cases f with
    | next =>
      obtain ⟨σ3, H3, I3, n3⟩ := q3
      obtain ⟨m', hm, w3⟩ := hN σ3 H3 n3
      exact ⟨m', hm, σ3, H3, I3, w3⟩
    | cont =>
      obtain ⟨σ3, H3, I3, n3⟩ := q3
      obtain ⟨m', hm, w3⟩ := hN σ3 H3 n3
      exact ⟨m', hm, σ3, H3, I3, w3⟩
    | brk => exact q3
    | ret v => exact q3
  | false =>
    rw [if_neg Bool.false_ne_true]
    exact wpAny_execs_nil ⟨σ1, H2, I2, q2⟩
end
/-! ### what a loop or a comprehension walks -/
structure It where
  go : Nat → Hp → Prop
  yld : Nat → Hp → V → Hp → Prop
  stop : Nat → Hp → Prop
def FpOk (X : Cx) (pins : List (Addr × Obj)) (H : Hp) (b : Addr) : Prop :=
  H b = none ∧ b ≠ X.env.locals ∧ b ∉ X.fs ∧ (b ∈ X.ex ∨ X.s₀.heap.objs.size ≤ b) ∧ (∀ x c, X.env.cells.lookup x = some c → c ≠ b) ∧ ∀ p ∈ X.pn ++ pins, p.1 ≠ b
theorem Inv.fpOk {X : Cx} {pins : List (Addr × Obj)} {σ : St} {H H' : Hp} {s : Shared} {b : Addr} (I : Inv X pins σ H s) (hb : s.heap.objs.size ≤ b) (hn : H' b = none) : FpOk X pins H' b := by
  refine ⟨hn, Nat.ne_of_gt (Nat.lt_of_lt_of_le I.lt hb), I.nofs hb, .inr (Nat.le_trans I.sz hb), fun x c e z => ?_, fun p hp z => ?_⟩
  · obtain ⟨v, q⟩ := I.cell x c e
    exact absurd (Nat.lt_of_lt_of_le q.lt (by rw [z]; exact hb)) (Nat.lt_irrefl _)
  · exact absurd (Nat.lt_of_lt_of_le (Heap.lt_size (I.pin p hp).1) (by rw [z]; exact hb)) (Nat.lt_irrefl _)
structure Turn (P : Program) (w : World) (K : PySem.W.Frag) (tg : Expr) (J : It) (fp : List Addr) (it : Addr) (tn : Nat → Heap → Prop) : Prop where
  mem : it ∈ fp
  obj : ∀ i h, tn i h → ∀ b ∈ fp, ∃ o, h.get? b = some o ∧ ∀ v, o.data ≠ .cell v
  keep : ∀ i h h', tn i h → (∀ b ∈ fp, ∀ o, h.get? b = some o → h'.get? b = some o) → tn i h'
  item : ∀ (X : Cx), X.prog = P → X.w = w → X.K = K → X.calm = true → ∀ (i : Nat) (pins : List (Addr × Obj)) (s : Shared) (σ : St) (H : Hp) (E : Value → Shared → Prop), Inv X pins σ H s → (∀ b ∈ fp, FpOk X pins H b) → tn i s.heap → J.go i H →
    wpAny (model P w) X.A (pyNext (.ref it)) (fun r s1 => ∃ u, r = some u ∧
      wpAny (model P w) X.A (letOwnedTupleGo tg (.ref it) u) (fun _ s2 => ∃ x H', Inv X pins σ H' s2 ∧ RelV x u ∧ J.yld i H x H' ∧ tn (i + 1) s2.heap ∧ ∀ b ∈ fp, H' b = none) E s1) E s
  done : ∀ (X : Cx), X.prog = P → X.w = w → X.K = K → X.calm = true → ∀ (i : Nat) (pins : List (Addr × Obj)) (s : Shared) (σ : St) (H : Hp) (E : Value → Shared → Prop), Inv X pins σ H s → (∀ b ∈ fp, FpOk X pins H b) → tn i s.heap → J.stop i H →
    wpAny (model P w) X.A (pyNext (.ref it)) (fun r s1 => r = none ∧ Inv X pins σ H s1) E s
  self : ∀ (A : Around) (i : Nat) (s : Shared) (Q : Value → Shared → Prop) (E : Value → Shared → Prop), tn i s.heap → Q (.ref it) s → wpAny (model P w) A (pyIter (.ref it)) Q E s
abbrev TI := St → Hp → (It → Hp → Prop) → Prop
def PIE (X : Cx) (pins : List (Addr × Obj)) (σ : St) (tg : Expr) (R : It → Hp → Prop) (itv : Value) (s2 : Shared) : Prop :=
  ∃ (it : Addr) (fp : List Addr) (tn : Nat → Heap → Prop) (J : It) (H' : Hp), itv = .ref it ∧ Inv X pins σ H' s2 ∧ Turn X.prog X.w X.K tg J fp it tn ∧ tn 0 s2.heap ∧ (∀ b ∈ fp, FpOk X pins H' b) ∧ R J H'
def PI (X : Cx) (tg iter : Expr) (wi : TI) : Prop :=
  ∀ (pins : List (Addr × Obj)) (s : Shared) (σ : St) (H : Hp) (R : It → Hp → Prop), Inv X pins σ H s → wi σ H R →
    wpAny (model X.prog X.w) X.A (eval iter X.env) (fun v s1 => wpAny (model X.prog X.w) X.A (pyIter v) (PIE X pins σ tg R) X.xe s1) X.xe s
theorem go_of {M : Model} {A : Around} {E : Value → Shared → Prop} {s : Shared} {tg : Expr} {it : Addr} {u : Value} {o : Obj} {n : String} {vs : Array Value} {Q : Unit → Shared → Prop} (ho : s.heap.get? it = some o) (hc : o.cls = .type n) (hd : o.data = .fields vs)
    (hn : ["enumerate", "zip", "dict_itemiterator", "dict_reverseitemiterator", "odict_iterator", "itertools.zip_longest", "itertools.pairwise"].contains n = false) (hQ : Q () s) : wpAny M A (letOwnedTupleGo tg (.ref it) u) Q E s := by
  unfold letOwnedTupleGo
  cases tg <;> first
    | exact wpAny_pure hQ
    | (cases u <;> first
        | exact wpAny_pure hQ
        | (refine wpAny_bind (wpAny_load ho ?_)
           rw [hc, hd]
           show wpAny M A (if (["enumerate", "zip", "dict_itemiterator", "dict_reverseitemiterator", "odict_iterator", "itertools.zip_longest", "itertools.pairwise"].contains n && vs[0]? == some (rawInt _)) = true then _ else _) Q E s
           rw [if_neg (by intro h; rw [hn, Bool.false_and] at h; cases h)]
           exact wpAny_pure hQ))
def Itl (K : PySem.W.Frag) (a : Addr) : It :=
  ⟨fun i H => ∃ xs x, SqL K H a xs ∧ xs[i]? = some x, fun i H x H' => H' = H ∧ ∀ xs, SqL K H a xs → xs[i]? = some x, fun i H => ∃ xs, SqL K H a xs ∧ xs.length ≤ i⟩
def Itt (K : PySem.W.Frag) (a : Addr) : It :=
  ⟨fun i H => ∃ xs x, SqT K H a xs ∧ xs[i]? = some x, fun i H x H' => H' = H ∧ ∀ xs, SqT K H a xs → xs[i]? = some x, fun i H => ∃ xs, SqT K H a xs ∧ xs.length ≤ i⟩
def Itr (lo : Int) (n : Nat) : It := ⟨fun i _ => i < n, fun i H x H' => H' = H ∧ x = .int (lo + i), fun i _ => n ≤ i⟩
theorem turn_list {P : Program} {w : World} {K : PySem.W.Frag} {tg : Expr} (a it : Addr) : Turn P w K tg (Itl K a) [it] it (fun i h => h.IsListIter it a i) where
  mem := by simp
  obj := fun i h st b hb => by
    have e : b = it := by simpa using hb
    subst e
    obtain ⟨o, e, c, d⟩ := st
    exact ⟨o, e, fun v z => by rw [d] at z; cases z⟩
  keep := fun i h h' st k => st.at fun o e => k it (by simp) o e
  item := by
    intro X hP hw hK hc i pins s σ H E I hf st hg
    subst hP hw hK
    obtain ⟨xs, x, hq, hx⟩ := hg
    obtain ⟨its, rv, p, hz⟩ := I.list hq
    obtain ⟨u, hu, ru⟩ := rv.get hx
    obtain ⟨f0, f1, f2, f3, f4, f5⟩ := hf it (by simp)
    refine wpAny_pyNext_list_item st p.isList (x := u) (by simpa using hu) fun h' st' sb => ?_
    have I1 : Inv X pins σ H { s with heap := h' } := I.turned (t' := s.toks) (fun b o hb e => (sb.2 b hb).trans e) f0 f1 f3 f4 f5
    obtain ⟨o, e, c, d⟩ := id st'
    exact ⟨u, rfl, go_of (s := { s with heap := h' }) e c d (by decide) ⟨x, H, I1, ru, ⟨rfl, fun ys hy => by rw [I.list_inj hy hq]; exact hx⟩, st', fun b hb => (hf b hb).1⟩⟩
  done := by
    intro X hP hw hK hc i pins s σ H E I hf st hg
    subst hP hw hK
    obtain ⟨xs, hq, hx⟩ := hg
    obtain ⟨its, rv, p, hz⟩ := I.list hq
    obtain ⟨f0, f1, f2, f3, f4, f5⟩ := hf it (by simp)
    have hl := rv.length
    exact wpAny_pyNext_list_end (I.ok.hd hc) st p.isList (by simp; omega) fun h' eb => ⟨rfl, I.turned (t' := s.toks) (fun b o hb e => eb b o hb e) f0 f1 f3 f4 f5⟩
  self := fun _ _ _ _ _ st h => wpAny_pyIter_listiter st h
theorem turn_range {P : Program} {w : World} {K : PySem.W.Frag} {tg : Expr} (it : Addr) (lo : Int) (n : Nat) : Turn P w K tg (Itr lo n) [it] it (fun i h => IsRangeIter h it (lo + (i : Nat) * 1) ((n : Int) - (i : Nat)) 1) where
  mem := by simp
  obj := fun i h st b hb => by
    have e : b = it := by simpa using hb
    subst e
    exact ⟨_, st, fun v z => by
      have z' : Data.fields _ = Data.cell v := z
      cases z'⟩
  keep := fun i h h' st k => k it (by simp) _ st
  item := by
    intro X hP hw hK hc i pins s σ H E I hf st hg
    subst hP hw hK
    obtain ⟨f0, f1, f2, f3, f4, f5⟩ := hf it (by simp)
    have W := Walks.range (prog := X.prog) (w := X.w) (I.ok.hd hc) it lo 1 n
    refine W.item i s _ _ hg st fun v h' tk hv st' kk => ?_
    obtain ⟨t, rfl⟩ := hv
    have I1 : Inv X pins σ H { s with heap := h', toks := tk } := I.turned (fun b o hb e => kk b o (by simpa using hb) e) f0 f1 f3 f4 f5
    refine ⟨_, rfl, go_of (s := { s with heap := h', toks := tk }) (n := "range_iterator") st' rfl rfl (by decide) ⟨.int (lo + i), H, I1, ⟨t, ?_⟩, ⟨rfl, rfl⟩, st', fun b hb => (hf b hb).1⟩⟩
    rw [Int.mul_one]
  done := by
    intro X hP hw hK hc i pins s σ H E I hf st hg
    subst hP hw hK
    obtain ⟨f0, f1, f2, f3, f4, f5⟩ := hf it (by simp)
    exact wpAny_pyNext_range_end (I.ok.hd hc) st (by have : n ≤ i := hg; omega) fun h' eb => ⟨rfl, I.turned (t' := s.toks) (fun b o hb e => eb b o hb e) f0 f1 f3 f4 f5⟩
  self := fun _ _ _ _ _ st h => wpAny_pyIter_rangeiter st h
end L2
namespace L2
open PySem PySem.Spec PyProof.Rows
section
variable {X : Cx} {tg : Expr}
def iList (K : PySem.W.Frag) (tl : TE) : TI := fun σ H R => tl σ H fun x H1 => ∃ a, x = .ref a ∧ (∃ xs, SqL K H1 a xs) ∧ R (Itl K a) H1
def iTup (K : PySem.W.Frag) (tl : TE) : TI := fun σ H R => tl σ H fun x H1 => ∃ a, x = .ref a ∧ (∃ xs, SqT K H1 a xs) ∧ R (Itt K a) H1
theorem pi_list {l : Expr} {tl : TE} (hl : PE X l tl) : PI X tg l (iList X.K tl) := by
  intro pins s σ H R I h
  refine thn (hl pins s σ H _ I h) fun v s1 ⟨x, H1, I1, r1, q1⟩ => ?_
  obtain ⟨a, e, ⟨xs, hq⟩, q⟩ := q1
  subst e
  cases r1
  obtain ⟨its, rv, p, hz⟩ := I1.list hq
  refine wpAny_pyIter_list p.isList ?_
  refine ⟨s1.heap.objs.size, [s1.heap.objs.size], _, _, H1, rfl, I1.kept (t' := s1.toks) fun b o e => Heap.get?_push_of_some _ e, turn_list a _, ⟨_, Heap.get?_push_size _ rfl, rfl, rfl⟩, fun b hb => ?_, q⟩
  have e : b = s1.heap.objs.size := by simpa using hb
  subst e
  exact I1.fpOk (Nat.le_refl _) (I1.hok.fresh (Nat.le_refl _))
theorem range_it {pins : List (Addr × Obj)} {σ : St} {H : Hp} {s : Shared} {R : It → Hp → Prop} {E : Value → Shared → Prop} {lo hi : Int} {t u v : Tok} {tk : Nat} (I : Inv X pins σ H s) (h1 : -(2 ^ 62) ≤ lo) (h2 : lo < 2 ^ 62) (h3 : -(2 ^ 62) ≤ hi) (h4 : hi < 2 ^ 62)
    (q : R (Itr lo (hi - lo).toNat) H) : wpAny (model X.prog X.w) X.A (pyIter (.ref s.heap.objs.size)) (PIE X pins σ tg R) E { s with heap := s.heap.push { cls := .type "range", data := .fields #[.int lo t, .int hi u, .int 1 v] }, toks := tk } := by
  refine wpAny_pyIter_range (IsRange.new ..) (small_one h1 h2 h3 h4) ?_
  have I1 : Inv X pins σ H { s with heap := s.heap.push { cls := .type "range", data := .fields #[.int lo t, .int hi u, .int 1 v] }, toks := tk } := I.kept fun b o e => Heap.get?_push_of_some _ e
  refine ⟨(s.heap.push { cls := .type "range", data := .fields #[.int lo t, .int hi u, .int 1 v] }).objs.size, [(s.heap.push { cls := .type "range", data := .fields #[.int lo t, .int hi u, .int 1 v] }).objs.size], _, _, H, rfl,
    I1.kept (t' := tk) fun b o e => Heap.get?_push_of_some _ e, turn_range _ lo (hi - lo).toNat, ?_, fun b hb => ?_, q⟩
  · have e1 : lo + ((0 : Nat) : Int) * 1 = lo := by simp
    have e2 : (((hi - lo).toNat : Nat) : Int) - ((0 : Nat) : Int) = Builtin.Range.rangeSize lo hi 1 := by rw [rangeSize_one]; split <;> omega
    show IsRangeIter _ _ (lo + ((0 : Nat) : Int) * 1) ((((hi - lo).toNat : Nat) : Int) - ((0 : Nat) : Int)) 1
    rw [e1, e2]
    exact Heap.get?_push_size _ rfl
  · have e : b = (s.heap.push { cls := .type "range", data := .fields #[.int lo t, .int hi u, .int 1 v] }).objs.size := by simpa using hb
    subst e
    exact I1.fpOk (Nat.le_refl _) (I1.hok.fresh (Nat.le_refl _))
def iRng1 (ta : TA) : TI := fun σ H R => ta σ H fun vs H1 => ∃ j : Int, vs = [.int j] ∧ -(2 ^ 62) ≤ j ∧ j < 2 ^ 62 ∧ R (Itr 0 j.toNat) H1
def iRng2 (ta : TA) : TI := fun σ H R => ta σ H fun vs H1 => ∃ i j : Int, vs = [.int i, .int j] ∧ (-(2 ^ 62) ≤ i ∧ i < 2 ^ 62 ∧ -(2 ^ 62) ≤ j ∧ j < 2 ^ 62) ∧ R (Itr i (j - i).toNat) H1
theorem pi_range1 {a : Expr} {ta : TA} {p pos : Pos} (hg : Gl X "range") (hm : X.mg "range" = none) (ha : PA X [a] ta) (hs : starEach [a] X.env = [(false, eval a X.env)] := by rfl) : PI X tg (.Call (.Name "range" p) [a] [] pos) (iRng1 ta) := by
  intro pins s σ H R I h
  refine Call_ (ld_blt I hg hm boot_range (PyProof.Rows.callWith_type1 (thn (ha pos pins s σ H _ I h) fun us s1 ⟨vs, H1, I1, r1, q1⟩ => ?_) hs rfl))
  obtain ⟨j, e, q1, q2, q⟩ := q1
  subst e
  cases r1 with
  | cons r rr =>
    cases rr
    obtain ⟨t, rfl⟩ := r
    exact call_range_1 (range_it I1 (by omega) (by omega) q1 q2 (by simpa using q))
theorem pi_range2 {a b : Expr} {ta : TA} {p pos : Pos} (hg : Gl X "range") (hm : X.mg "range" = none) (ha : PA X [a, b] ta) (hs : starEach [a, b] X.env = [(false, eval a X.env), (false, eval b X.env)] := by rfl) (hs2 : starEach [b] X.env = [(false, eval b X.env)] := by rfl) :
    PI X tg (.Call (.Name "range" p) [a, b] [] pos) (iRng2 ta) := by
  intro pins s σ H R I h
  refine Call_ (ld_blt I hg hm boot_range (PyProof.Rows.callWith_type1 (thn (ha pos pins s σ H _ I h) fun us s1 ⟨vs, H1, I1, r1, q1⟩ => ?_) (by rw [hs, hs2]) (by rw [hs2]; rfl)))
  obtain ⟨i, j, e, ⟨q1, q2, q3, q4⟩, q⟩ := q1
  subst e
  cases r1 with
  | cons r rr =>
    cases rr with
    | cons r' rr =>
      cases rr
      obtain ⟨t, rfl⟩ := r
      obtain ⟨t', rfl⟩ := r'
      exact call_range_2 (range_it I1 q1 q2 q3 q4 q)
/-! ### for -/
def tFor (wi : TI) (g : TG) (tb : TS) : TS := fun D σ H => wi σ H fun J H1 => ∃ W : Nat → Nat → St → Hp → Prop, (∃ m, W 0 m σ H1) ∧ ∀ i m σ H, W i m σ H →
  (J.stop i H ∧ D.nx σ H) ∨ (J.go i H ∧ ∃ N : St → Hp → Prop, (∀ σ' H', N σ' H' → ∃ m', m' < m ∧ W (i + 1) m' σ' H') ∧ ∀ x H', J.yld i H x H' → g x σ H' fun σ2 H2 => tb { D with nx := N, ct := N, bk := D.nx } σ2 H2)
def pinsAt (fp : List Addr) (h : Heap) : List (Addr × Obj) := fp.filterMap fun b => (h.get? b).map fun o => (b, o)
theorem mem_pinsAt {fp : List Addr} {h : Heap} {b : Addr} {o : Obj} (hb : b ∈ fp) (e : h.get? b = some o) : (b, o) ∈ pinsAt fp h := List.mem_filterMap.mpr ⟨b, hb, by rw [e]; rfl⟩
theorem of_pinsAt {fp : List Addr} {h : Heap} {p : Addr × Obj} (hp : p ∈ pinsAt fp h) : p.1 ∈ fp ∧ h.get? p.1 = some p.2 := by
  obtain ⟨b, hb, e⟩ := List.mem_filterMap.mp hp
  cases q : h.get? b with
  | none => rw [q] at e; cases e
  | some o =>
    rw [q] at e
    have e' : (b, o) = p := Option.some.inj e
    subst e'
    exact ⟨hb, q⟩
theorem Inv.pinned {pins : List (Addr × Obj)} {σ : St} {H : Hp} {s : Shared} {fp : List Addr} (I : Inv X pins σ H s) (hf : ∀ b ∈ fp, FpOk X pins H b) (ho : ∀ b ∈ fp, ∃ o, s.heap.get? b = some o ∧ ∀ v, o.data ≠ .cell v) : Inv X (pins ++ pinsAt fp s.heap) σ H s :=
  I.pins_of fun p hp => (List.mem_append.mp hp).elim (fun z => I.pin p (List.mem_append_right _ z)) fun z => by
    obtain ⟨hb, e⟩ := of_pinsAt z
    obtain ⟨f0, f1, f2, _⟩ := hf p.1 hb
    obtain ⟨o, e', d⟩ := ho p.1 hb
    rw [e] at e'; cases e'
    exact ⟨e, f0, f1, f2, d⟩
theorem Inv.unpinned {pins pl : List (Addr × Obj)} {σ : St} {H : Hp} {s : Shared} (I : Inv X (pins ++ pl) σ H s) : Inv X pins σ H s := I.pins_of fun p hp => I.pin p (List.mem_append_right _ (List.mem_append_left _ hp))
theorem ps_for {iter : Expr} {body : List Stmt} {wi : TI} {g : TG} {tb : TS} {pos : Pos} (hp : PassesOwn (model X.prog X.w) X.A X.env X.xe) (hc : X.calm = true) (hi : PI X tg iter wi) (hg : PG X tg g) (hb : PSs X body tb)
    (hs : ∀ x, foldedSetIterable iter X.env x = pure x := by intro _; rfl) : PS X (.For tg iter body [] pos) (tFor wi g tb) := by
  intro pins s σ H D I h
  refine wpAny_For (thn (hi pins s σ H _ I h) fun v s1 h1 => thn h1 fun itv s2 h2 => ?_) hs
  obtain ⟨it, fp, tn, J, H2, e, I2, T, st2, f2, W, ⟨m0, w0⟩, turn⟩ := h2
  subst e
  -- what stays true of the iterator's objects through the loop
  have stat : ∀ {H' : Hp}, (∀ b ∈ fp, H' b = none) → ∀ b ∈ fp, FpOk X pins H' b := fun hn b hb => ⟨hn b hb, (f2 b hb).2⟩
  refine codeAny_forLoop_any (fun n s' => ∃ i σ' H', Inv X pins σ' H' s' ∧ tn i s'.heap ∧ (∀ b ∈ fp, H' b = none) ∧ W i n σ' H') ?_ m0 ⟨0, σ, H2, I2, st2, fun b hb => (f2 b hb).1, w0⟩
  rintro n s3 ⟨i, σ3, H3, I3, st3, fr3, w3⟩
  rcases turn i n σ3 H3 w3 with ⟨stop, qn⟩ | ⟨go, N, hN, step⟩
  · refine wpAny_passesOwn hp (thn (T.done X rfl rfl rfl hc i pins s3 σ3 H3 X.xe I3 (stat fr3) st3 stop) fun r s4 ⟨hr, I4⟩ => ?_)
    subst hr
    exact wpAny_execs_nil ⟨σ3, H3, I4, qn⟩
  · refine wpAny_passesOwn hp (thn (T.item X rfl rfl rfl hc i pins s3 σ3 H3 X.xe I3 (stat fr3) st3 go) fun r s4 ⟨u, hr, h4⟩ => ?_)
    subst hr
    refine wpAny_passesOwn hp (thn h4 fun _ s5 ⟨x, H5, I5, r5, y5, st5, fr5⟩ => ?_)
    have I5' := I5.pinned (stat fr5) (T.obj _ _ st5)
    refine wpAny_passesOwn hp (thn (hg _ s5 σ3 H5 x u _ I5' r5 (step x H5 y5)) fun _ s6 ⟨σ6, H6, I6, q6⟩ => ?_)
    refine wpAny_passesOwn hp (thn (hb _ s6 σ6 H6 _ I6 q6) fun f s7 q7 => ?_)
    have again : ∀ {σ7 : St} {H7 : Hp}, Inv X (pins ++ pinsAt fp s5.heap) σ7 H7 s7 → N σ7 H7 → ∃ m, m < n ∧ ∃ i σ' H', Inv X pins σ' H' s7 ∧ tn i s7.heap ∧ (∀ b ∈ fp, H' b = none) ∧ W i m σ' H' := fun {σ7 H7} I7 n7 => by
      obtain ⟨m', hm, w7⟩ := hN σ7 H7 n7
      refine ⟨m', hm, i + 1, σ7, H7, I7.unpinned, T.keep _ _ _ st5 fun b hb o e => (I7.pin (b, o) (List.mem_append_right _ (List.mem_append_right _ (mem_pinsAt hb e)))).1, fun b hb => ?_, w7⟩
      obtain ⟨o, e, d⟩ := T.obj _ _ st5 b hb
      exact (I7.pin (b, o) (List.mem_append_right _ (List.mem_append_right _ (mem_pinsAt hb e)))).2.1
    cases f with
    | next => obtain ⟨σ7, H7, I7, n7⟩ := q7; exact again I7 n7
    | cont => obtain ⟨σ7, H7, I7, n7⟩ := q7; exact again I7 n7
    | brk => obtain ⟨σ7, H7, I7, q7⟩ := q7; exact ⟨σ7, H7, I7.unpinned, q7⟩
    | ret v => obtain ⟨x7, σ7, H7, I7, r7, q7⟩ := q7; exact ⟨x7, σ7, H7, I7.unpinned, r7, q7⟩
end
/-! ### the forms one uses -/
theorem for_list {K : PySem.W.Frag} {a : Addr} {xs : List V} {g : TG} {tb : TS} {D : Ends} {σ : St} {H : Hp} (Pv : Nat → St → Hp → Prop) (h0 : Pv 0 σ H) (hl : ∀ i σ H, i ≤ xs.length → Pv i σ H → SqL K H a xs)
    (hs : ∀ i x σ H, xs[i]? = some x → Pv i σ H → g x σ H fun σ2 H2 => tb { D with nx := Pv (i + 1), ct := Pv (i + 1), bk := D.nx } σ2 H2) (hd : ∀ σ H, Pv xs.length σ H → D.nx σ H) :
    ∃ W : Nat → Nat → St → Hp → Prop, (∃ m, W 0 m σ H) ∧ ∀ i m σ H, W i m σ H →
      ((Itl K a).stop i H ∧ D.nx σ H) ∨ ((Itl K a).go i H ∧ ∃ N : St → Hp → Prop, (∀ σ' H', N σ' H' → ∃ m', m' < m ∧ W (i + 1) m' σ' H') ∧ ∀ x H', (Itl K a).yld i H x H' → g x σ H' fun σ2 H2 => tb { D with nx := N, ct := N, bk := D.nx } σ2 H2) := by
  refine ⟨fun i m σ H => m = xs.length - i ∧ i ≤ xs.length ∧ Pv i σ H, ⟨xs.length, by simp, Nat.zero_le _, h0⟩, ?_⟩
  rintro i m σ H ⟨rfl, hi, p⟩
  have q := hl i σ H hi p
  by_cases hlt : i < xs.length
  · refine .inr ⟨⟨xs, xs[i], q, by simp [hlt]⟩, Pv (i + 1), fun σ' H' p' => ⟨xs.length - (i + 1), by omega, rfl, hlt, p'⟩, fun x H' y => ?_⟩
    obtain ⟨e, y⟩ := y
    subst e
    exact hs i x σ _ (y xs q) p
  · have e : i = xs.length := by omega
    subst e
    exact .inl ⟨⟨xs, q, Nat.le_refl _⟩, hd σ H p⟩
theorem for_range {lo : Int} {n : Nat} {g : TG} {tb : TS} {D : Ends} {σ : St} {H : Hp} (Pv : Nat → St → Hp → Prop) (h0 : Pv 0 σ H)
    (hs : ∀ i σ H, i < n → Pv i σ H → g (.int (lo + i)) σ H fun σ2 H2 => tb { D with nx := Pv (i + 1), ct := Pv (i + 1), bk := D.nx } σ2 H2) (hd : ∀ σ H, Pv n σ H → D.nx σ H) :
    ∃ W : Nat → Nat → St → Hp → Prop, (∃ m, W 0 m σ H) ∧ ∀ i m σ H, W i m σ H →
      ((Itr lo n).stop i H ∧ D.nx σ H) ∨ ((Itr lo n).go i H ∧ ∃ N : St → Hp → Prop, (∀ σ' H', N σ' H' → ∃ m', m' < m ∧ W (i + 1) m' σ' H') ∧ ∀ x H', (Itr lo n).yld i H x H' → g x σ H' fun σ2 H2 => tb { D with nx := N, ct := N, bk := D.nx } σ2 H2) := by
  refine ⟨fun i m σ H => m = n - i ∧ i ≤ n ∧ Pv i σ H, ⟨n, by simp, Nat.zero_le _, h0⟩, ?_⟩
  rintro i m σ H ⟨rfl, hi, p⟩
  by_cases hlt : i < n
  · refine .inr ⟨hlt, Pv (i + 1), fun σ' H' p' => ⟨n - (i + 1), by omega, rfl, hlt, p'⟩, fun x H' y => ?_⟩
    obtain ⟨e, y⟩ := y
    subst e y
    exact hs i σ _ hlt p
  · have e : i = n := by omega
    subst e
    exact .inl ⟨Nat.le_refl _, hd σ H p⟩
end L2
namespace L2
open PySem PySem.Spec PyProof.Rows
abbrev R2 := V → V → Hp → VK → Prop
def OpR (X : Cx) (f : Value → Value → Sem Value) (r : R2) : Prop :=
  ∀ (pins : List (Addr × Obj)) (s : Shared) (σ : St) (H : Hp) (x y : V) (v u : Value) (Q : VK), Inv X pins σ H s → RelV x v → RelV y u → r x y H Q →
    wpAny (model X.prog X.w) X.A (f v u) (EP X pins σ Q) X.xe s
def UnR (X : Cx) (f : Value → Sem Value) (r : V → Hp → VK → Prop) : Prop :=
  ∀ (pins : List (Addr × Obj)) (s : Shared) (σ : St) (H : Hp) (x : V) (v : Value) (Q : VK), Inv X pins σ H s → RelV x v → r x H Q →
    wpAny (model X.prog X.w) X.A (f v) (EP X pins σ Q) X.xe s
def CallR (X : Cx) (f : Value) (r : List V → Hp → VK → Prop) : Prop :=
  ∀ (pins : List (Addr × Obj)) (s : Shared) (σ : St) (H : Hp) (xs : List V) (us : List Value) (Q : VK), Inv X pins σ H s → Vals xs us → r xs H Q →
    wpAny (model X.prog X.w) X.A (call f us) (EP X pins σ Q) X.xe s
def TruR (X : Cx) (r : V → Hp → (Bool → Hp → Prop) → Prop) : Prop :=
  ∀ (pins : List (Addr × Obj)) (s : Shared) (σ : St) (H : Hp) (x : V) (v : Value) (Q : Bool → Hp → Prop), Inv X pins σ H s → RelV x v → r x H Q →
    wpAny (model X.prog X.w) X.A (truthy v) (TP X pins σ Q) X.xe s
def tOp (r : R2) (ta tb : TE) : TE := fun σ H Q => ta σ H fun x H1 => tb σ H1 fun y H2 => r x y H2 Q
def tUn (r : V → Hp → VK → Prop) (ta : TE) : TE := fun σ H Q => ta σ H fun x H1 => r x H1 Q
def rI (C : Int → Int → Prop) (g : Int → Int → V) : R2 := fun x y H Q => ∃ i j, x = .int i ∧ y = .int j ∧ C i j ∧ Q (g i j) H
def rI0 (g : Int → Int → V) : R2 := fun x y H Q => ∃ i j, x = .int i ∧ y = .int j ∧ Q (g i j) H
def rU (g : Int → V) : V → Hp → VK → Prop := fun x H Q => ∃ i, x = .int i ∧ Q (g i) H
section
variable {X : Cx} {a b c : Expr} {ta tb tc : TE} {pos : Pos}
theorem binT (ha : PE X a ta) (hb : PE X b tb) {pins : List (Addr × Obj)} {s : Shared} {σ : St} {H : Hp} {R : V → V → Hp → Prop} (I : Inv X pins σ H s)
    (h : ta σ H fun x H1 => tb σ H1 fun y H2 => R x y H2) {Q : Value → Shared → Prop} {f : Value → Value → Sem Value}
    (hf : ∀ v u s2 x y H2, Inv X pins σ H2 s2 → RelV x v → RelV y u → R x y H2 → wpAny (model X.prog X.w) X.A (f v u) Q X.xe s2) :
    wpAny (model X.prog X.w) X.A (eval a X.env) (fun v s₁ => wpAny (model X.prog X.w) X.A (eval b X.env) (fun u s₂ => wpAny (model X.prog X.w) X.A (f v u) Q X.xe s₂) X.xe s₁) X.xe s := by
  refine thn (ha pins s σ H _ I h) fun v s1 ⟨x, H1, I1, r1, q1⟩ => ?_
  refine thn (hb pins s1 σ H1 _ I1 q1) fun u s2 ⟨y, H2, I2, r2, q2⟩ => ?_
  exact hf v u s2 x y H2 I2 r1 r2 q2
theorem pe_op {op : Operator} {r : R2} (ho : OpR X (binaryOp op) r) (ha : PE X a ta) (hb : PE X b tb) : PE X (.BinOp a op b pos) (tOp r ta tb) := by
  intro pins s σ H Q I h
  exact wpAny_BinOp (binT ha hb I h fun v u s2 x y H2 I2 rx ry q => ho pins s2 σ H2 x y v u Q I2 rx ry q)
theorem pe_un {op : UnaryOp} {r : V → Hp → VK → Prop} (ho : UnR X (unaryOp op) r) (ha : PE X a ta) : PE X (.UnaryOp op a pos) (tUn r ta) := by
  intro pins s σ H Q I h
  exact UnaryOp_ (thn (ha pins s σ H _ I h) fun v s1 ⟨x, H1, I1, r1, q1⟩ => ho pins s1 σ H1 x v Q I1 r1 q1)
/-! ### ints -/
theorem opI {f : Value → Value → Sem Value} {C : Int → Int → Prop} {g : Int → Int → Int}
    (rule : ∀ (i j : Int) (t u : Tok) (s : Shared) (Q : Value → Shared → Prop) (E : Value → Shared → Prop), C i j → Q (.int (g i j) s.toks) { s with toks := s.toks + 1 } → wpAny (model X.prog X.w) X.A (f (.int i t) (.int j u)) Q E s) :
    OpR X f (rI C fun i j => .int (g i j)) := by
  intro pins s σ H x y v u Q I rx ry h
  obtain ⟨i, j, rfl, rfl, hc, q⟩ := h
  obtain ⟨t, rfl⟩ := rx
  obtain ⟨t', rfl⟩ := ry
  exact rule i j t t' s _ _ hc ⟨.int (g i j), H, I.tok _, ⟨_, rfl⟩, q⟩
theorem opI0 {f : Value → Value → Sem Value} {g : Int → Int → Int}
    (rule : ∀ (i j : Int) (t u : Tok) (s : Shared) (Q : Value → Shared → Prop) (E : Value → Shared → Prop), Q (.int (g i j) s.toks) { s with toks := s.toks + 1 } → wpAny (model X.prog X.w) X.A (f (.int i t) (.int j u)) Q E s) :
    OpR X f (rI0 fun i j => .int (g i j)) := by
  intro pins s σ H x y v u Q I rx ry h
  obtain ⟨i, j, rfl, rfl, q⟩ := h
  obtain ⟨t, rfl⟩ := rx
  obtain ⟨t', rfl⟩ := ry
  exact rule i j t t' s _ _ ⟨.int (g i j), H, I.tok _, ⟨_, rfl⟩, q⟩
theorem opB0 {f : Value → Value → Sem Value} {g : Int → Int → Bool}
    (rule : ∀ (i j : Int) (t u : Tok) (s : Shared) (Q : Value → Shared → Prop) (E : Value → Shared → Prop), Q (.bool (g i j)) s → wpAny (model X.prog X.w) X.A (f (.int i t) (.int j u)) Q E s) :
    OpR X f (rI0 fun i j => .bl (g i j)) := by
  intro pins s σ H x y v u Q I rx ry h
  obtain ⟨i, j, rfl, rfl, q⟩ := h
  obtain ⟨t, rfl⟩ := rx
  obtain ⟨t', rfl⟩ := ry
  exact rule i j t t' s _ _ ⟨.bl (g i j), H, I, rfl, q⟩
def CDiv (i j : Int) : Prop := 0 < j ∧ j < 1073741824
def CDivN (i j : Int) : Prop := j ≠ 0 ∧ j.natAbs < 1073741824
def CPow (i j : Int) : Prop := 0 ≤ j ∧ j ≤ 1000000 ∧ i.natAbs < 2 ^ 64
def CMul (i j : Int) : Prop := (-(2 ^ 64) < i ∧ i < 2 ^ 64) ∨ (-(2 ^ 64) < j ∧ j < 2 ^ 64)
theorem CMul.ok {i j : Int} (h : CMul i j) : IntMulOk i j := by
  rcases h with ⟨h1, h2⟩ | ⟨h1, h2⟩
  · exact .of_left (intBits_le_64 h1 h2)
  · exact .of_right (intBits_le_64 h1 h2)
theorem op_add : OpR X (binaryOp .Add) (rI0 fun i j => .int (i + j)) := opI0 fun _ _ _ _ _ _ _ q => add_int q
theorem op_sub : OpR X (binaryOp .Sub) (rI0 fun i j => .int (i - j)) := opI0 fun _ _ _ _ _ _ _ q => sub_int q
theorem op_mul : OpR X (binaryOp .Mult) (rI CMul fun i j => .int (i * j)) := opI fun _ _ _ _ _ _ _ hc q => mul_int q hc.ok
theorem op_fdiv : OpR X (binaryOp .FloorDiv) (rI CDiv fun i j => .int (i / j)) := opI fun i j _ _ _ _ _ hc q => by
  have h1 : (0 : Int) < j := hc.1
  have h2 : j < 1073741824 := hc.2
  exact floordiv_int (by omega) (by rw [Int.fdiv_eq_ediv_of_nonneg i (by omega)]; exact q) (.inl (PyProof.noPylong_small (by omega)))
theorem op_mod : OpR X (binaryOp .Mod) (rI (fun _ j => 0 < j) fun i j => .int (i % j)) := opI fun i j _ _ _ _ _ hc q => by
  have h1 : (0 : Int) < j := hc
  exact mod_int' (by omega) (by rw [Int.fmod_eq_emod_of_nonneg i (by omega)]; exact q)
theorem op_pow : OpR X (binaryOp .Pow) (rI CPow fun i j => .int (i ^ j.toNat)) := opI fun _ _ _ _ _ _ _ hc q => pow_int_small hc.1 hc.2.1 hc.2.2 q
theorem unI {f : Value → Sem Value} {g : Int → Int}
    (rule : ∀ (i : Int) (t : Tok) (s : Shared) (Q : Value → Shared → Prop) (E : Value → Shared → Prop), Q (.int (g i) s.toks) { s with toks := s.toks + 1 } → wpAny (model X.prog X.w) X.A (f (.int i t)) Q E s) :
    UnR X f (rU fun i => .int (g i)) := by
  intro pins s σ H x v Q I rx h
  obtain ⟨i, rfl, q⟩ := h
  obtain ⟨t, rfl⟩ := rx
  exact rule i t s _ _ ⟨.int (g i), H, I.tok _, ⟨_, rfl⟩, q⟩
theorem un_neg : UnR X (unaryOp .USub) (rU fun i => .int (-i)) := unI fun _ _ _ _ _ q => neg_int q
/-! ### bools among ints: n += (a < b) -/
end
/-! ### comparisons -/
def scal : V → V → Bool
  | .non, .non => true | .non, .int _ => true | .int _, .non => true | .non, .bl _ => true | .bl _, .non => true | .non, .str _ => true | .str _, .non => true
  | .int _, .int _ => true | .bl _, .bl _ => true | .str _, .str _ => true | .byt _, .byt _ => true
  | .int _, .str _ => true | .str _, .int _ => true | .bl _, .str _ => true | .str _, .bl _ => true
  | _, _ => false
def rEq : R2 := fun x y H Q => scal x y = true ∧ Q (.bl (decide (x = y))) H
def rNe : R2 := fun x y H Q => scal x y = true ∧ Q (.bl (!decide (x = y))) H
theorem dec_int {i j : Int} : decide (V.int i = V.int j) = (i == j) := by
  rw [Bool.eq_iff_iff]
  simp
theorem dec_bl {i j : Bool} : decide (V.bl i = V.bl j) = (i == j) := by
  rw [Bool.eq_iff_iff]
  simp
theorem dec_str {i j : Str} : decide (V.str i = V.str j) = (i == j) := by
  rw [Bool.eq_iff_iff]
  simp
theorem dec_byt {i j : Array UInt8} : decide (V.byt i = V.byt j) = (i.toList == j.toList) := by
  rw [Bool.eq_iff_iff]
  cases i
  cases j
  simp
section
variable {X : Cx} {a b c : Expr} {ta tb tc : TE} {pos : Pos}
theorem fin_bl {pins : List (Addr × Obj)} {σ : St} {H : Hp} {s : Shared} {Q : VK} {k k' : Bool} (I : Inv X pins σ H s) (q : Q (.bl k) H) (e : k = k') : EP X pins σ Q (.bool k') s := by
  subst e
  exact ⟨.bl k, H, I, rfl, q⟩
theorem op_eq : OpR X (compareOp .Eq) rEq := by
  intro pins s σ H x y v u Q I rx ry h
  obtain ⟨hs, q⟩ := h
  cases x with
  | non =>
    cases rx
    cases y with
    | non => cases ry; exact PySem.EqNone.eq_none_none (fin_bl I q (by simp))
    | bl j => cases ry; exact PySem.EqNone.eq_none_bool (fin_bl I q (by simp))
    | int j => obtain ⟨t', rfl⟩ := ry; exact PySem.EqNone.eq_none_int (fin_bl I q (by simp))
    | str j => obtain ⟨t', rfl⟩ := ry; exact PySem.EqNone.eq_none_str (fin_bl I q (by simp))
    | _ => exact absurd (show false = true from hs) Bool.false_ne_true
  | bl i =>
    cases rx
    cases y with
    | non => cases ry; exact PySem.EqNone.eq_bool_none (fin_bl I q (by simp))
    | bl j => cases ry; exact eq_bool (fin_bl I q dec_bl)
    | str j => obtain ⟨t', rfl⟩ := ry; exact PySem.EqMixed.eq_bool_str (fin_bl I q (by simp))
    | _ => exact absurd (show false = true from hs) Bool.false_ne_true
  | int i =>
    obtain ⟨t, rfl⟩ := rx
    cases y with
    | non => cases ry; exact PySem.EqNone.eq_int_none (fin_bl I q (by simp))
    | int j => obtain ⟨t', rfl⟩ := ry; exact eq_int (fin_bl I q dec_int)
    | str j => obtain ⟨t', rfl⟩ := ry; exact PySem.EqMixed.eq_int_str (fin_bl I q (by simp))
    | _ => exact absurd (show false = true from hs) Bool.false_ne_true
  | str i =>
    obtain ⟨t, rfl⟩ := rx
    cases y with
    | non => cases ry; exact PySem.EqNone.eq_str_none (fin_bl I q (by simp))
    | bl j => cases ry; exact PySem.EqMixed.eq_str_bool (fin_bl I q (by simp))
    | int j => obtain ⟨t', rfl⟩ := ry; exact PySem.EqMixed.eq_str_int (fin_bl I q (by simp))
    | str j => obtain ⟨t', rfl⟩ := ry; exact eq_str (fin_bl I q dec_str)
    | _ => exact absurd (show false = true from hs) Bool.false_ne_true
  | byt i =>
    obtain ⟨t, rfl⟩ := rx
    cases y with
    | byt j => obtain ⟨t', rfl⟩ := ry; exact PySem.W.eq_bytes (fin_bl I q dec_byt)
    | _ => exact absurd (show false = true from hs) Bool.false_ne_true
  | _ => cases y <;> exact absurd (show false = true from hs) Bool.false_ne_true
theorem op_ne : OpR X (compareOp .NotEq) rNe := by
  intro pins s σ H x y v u Q I rx ry h
  obtain ⟨hs, q⟩ := h
  cases x with
  | non =>
    cases rx
    cases y with
    | non => cases ry; exact PySem.EqNone.ne_none_none (fin_bl I q (by simp))
    | bl j => cases ry; exact PySem.EqNone.ne_none_bool (fin_bl I q (by simp))
    | int j => obtain ⟨t', rfl⟩ := ry; exact PySem.EqNone.ne_none_int (fin_bl I q (by simp))
    | str j => obtain ⟨t', rfl⟩ := ry; exact PySem.EqNone.ne_none_str (fin_bl I q (by simp))
    | _ => exact absurd (show false = true from hs) Bool.false_ne_true
  | bl i =>
    cases rx
    cases y with
    | non => cases ry; exact PySem.EqNone.ne_bool_none (fin_bl I q (by simp))
    | bl j => cases ry; exact ne_bool (fin_bl I q (congrArg not dec_bl))
    | str j => obtain ⟨t', rfl⟩ := ry; exact PySem.EqMixed.ne_bool_str (fin_bl I q (by simp))
    | _ => exact absurd (show false = true from hs) Bool.false_ne_true
  | int i =>
    obtain ⟨t, rfl⟩ := rx
    cases y with
    | non => cases ry; exact PySem.EqNone.ne_int_none (fin_bl I q (by simp))
    | int j => obtain ⟨t', rfl⟩ := ry; exact ne_int (fin_bl I q (congrArg not dec_int))
    | str j => obtain ⟨t', rfl⟩ := ry; exact PySem.EqMixed.ne_int_str (fin_bl I q (by simp))
    | _ => exact absurd (show false = true from hs) Bool.false_ne_true
  | str i =>
    obtain ⟨t, rfl⟩ := rx
    cases y with
    | non => cases ry; exact PySem.EqNone.ne_str_none (fin_bl I q (by simp))
    | bl j => cases ry; exact PySem.EqMixed.ne_str_bool (fin_bl I q (by simp))
    | int j => obtain ⟨t', rfl⟩ := ry; exact PySem.EqMixed.ne_str_int (fin_bl I q (by simp))
    | str j => obtain ⟨t', rfl⟩ := ry; exact ne_str (fin_bl I q (congrArg not dec_str))
    | _ => exact absurd (show false = true from hs) Bool.false_ne_true
  | byt i =>
    obtain ⟨t, rfl⟩ := rx
    cases y with
    | byt j => obtain ⟨t', rfl⟩ := ry; exact PySem.W.ne_bytes (fin_bl I q (congrArg not dec_byt))
    | _ => exact absurd (show false = true from hs) Bool.false_ne_true
  | _ => cases y <;> exact absurd (show false = true from hs) Bool.false_ne_true
theorem op_lt : OpR X (compareOp .Lt) (rI0 fun i j => .bl (decide (i < j))) := opB0 fun _ _ _ _ _ _ _ q => lt_int q
theorem op_le : OpR X (compareOp .LtE) (rI0 fun i j => .bl (decide (i ≤ j))) := opB0 fun _ _ _ _ _ _ _ q => le_int q
theorem op_gt : OpR X (compareOp .Gt) (rI0 fun i j => .bl (decide (j < i))) := opB0 fun _ _ _ _ _ _ _ q => gt_int q
def isObj : HO → Bool
  | .lst _ => true
  | .ins _ _ _ => true
  | _ => false
theorem OpR.or {f : Value → Value → Sem Value} {r r' : R2} (h : OpR X f r) (h' : OpR X f r') : OpR X f (fun x y H Q => r x y H Q ∨ r' x y H Q) := by
  intro pins s σ H x y v u Q I rx ry q
  rcases q with q | q
  · exact h pins s σ H x y v u Q I rx ry q
  · exact h' pins s σ H x y v u Q I rx ry q
theorem nomark (b : Expr) {op : CmpOp} (h : op ≠ .In := by decide) (h2 : op ≠ .NotIn := by decide) : behindInMarks op b = false := by
  have e1 : (op == CmpOp.In) = false := by cases op <;> first | rfl | exact absurd rfl h
  have e2 : (op == CmpOp.NotIn) = false := by cases op <;> first | rfl | exact absurd rfl h2
  cases b <;> simp [behindInMarks, e1, e2]
theorem pe_cmpR {op : CmpOp} {r : R2} (ho : OpR X (compareOp op) r) (ha : PE X a ta) (hb : PE X b tb) (hm : behindInMarks op b = false) : PE X (.Compare a [op] [b] pos) (tOp r ta tb) := by
  intro pins s σ H Q I h
  exact wpAny_Compare1 (binT ha hb I h fun v u s2 x y H2 I2 rx ry q => ho pins s2 σ H2 x y v u Q I2 rx ry q) hm
def tTest (t : TE) : TT := fun σ H Q => t σ H fun x H' => ∃ k, x = .bl k ∧ Q k H'
theorem pt_cmpR {op : CmpOp} {r : R2} (ho : OpR X (compareOp op) r) (ha : PE X a ta) (hb : PE X b tb) (hm : behindInMarks op b = false) : PT X (.Compare a [op] [b] pos) (tTest (tOp r ta tb)) := by
  intro pins s σ H Q I h
  refine wpAny_isTrue_Compare1 (thn (ha pins s σ H _ I h) fun v s1 ⟨x, H1, I1, r1, q1⟩ => thn (hb pins s1 σ H1 _ I1 q1) fun u s2 ⟨y, H2, I2, r2, q2⟩ =>
    thn (ho pins s2 σ H2 x y v u _ I2 r1 r2 q2) fun c s3 ⟨z, H3, I3, r3, k, e, q3⟩ => ?_) hm
  subst e
  cases r3
  exact wpAny_truthy_bool ⟨H3, I3, q3⟩
def tChain (r r' : R2) (ta tb tc : TE) : TE := fun σ H Q => ta σ H fun x H1 => tb σ H1 fun y H2 => r x y H2 fun z H3 => ∃ k, z = .bl k ∧
  (if k = true then tc σ H3 fun w' H4 => r' y w' H4 Q else Q (.bl false) H3)
/-! ### truth -/
def TruV (K : PySem.W.Frag) (x : V) (H : Hp) (k : Bool) : Prop :=
  match x with
  | .non => k = false
  | .bl b => k = b
  | .int i => k = (i != 0)
  | .str y => y.length ≤ sizeLine ∧ k = ((y.length : Int) != 0)
  | .byt y => y.size ≤ sizeLine ∧ k = ((y.size : Int) != 0)
  | .ref p => (∃ xs, SqL K H p xs ∧ k = !xs.isEmpty) ∨ (∃ xs, SqT K H p xs ∧ k = !xs.isEmpty) ∨ ∃ kvs, H p = some (.dK kvs) ∧ k = !kvs.isEmpty
  | _ => False
theorem isEmpty_kv {κ : Type} {kvs : List (κ × V)} {vs : List (κ × Value)} (r : KV kvs vs) : (!vs.isEmpty) = !kvs.isEmpty := by
  cases r <;> rfl
theorem isEmpty_of {xs : List V} {its : List Value} (r : Vals xs its) : (!its.toArray.isEmpty) = !xs.isEmpty := by
  cases r <;> simp
theorem line63 : (sizeLine : Nat) < 2 ^ 63 := by rw [sizeLine_eq]; decide
theorem tru_ok : TruR X (fun x H Q => ∃ k, TruV X.K x H k ∧ Q k H) := by
  intro pins s σ H x v Q I rx h
  obtain ⟨k, e, q⟩ := h
  have hl := line63
  have hs : sizeLine = 16777216 := sizeLine_eq
  cases x with
  | non =>
    cases rx
    have e' : k = false := e
    subst e'
    exact truthy_none ⟨H, I, q⟩
  | bl b =>
    cases rx
    have e' : k = b := e
    subst e'
    exact wpAny_truthy_bool ⟨H, I, q⟩
  | int i =>
    obtain ⟨t, rfl⟩ := rx
    have e' : k = (i != 0) := e
    subst e'
    exact PySem.P.truthy_int ⟨H, I, q⟩
  | str y =>
    obtain ⟨t, rfl⟩ := rx
    obtain ⟨hy, e'⟩ : y.length ≤ sizeLine ∧ k = ((y.length : Int) != 0) := e
    subst e'
    exact PySem.P.truthy_str (by omega) ⟨H, I.tok _, q⟩
  | byt y =>
    obtain ⟨t, rfl⟩ := rx
    obtain ⟨hy, e'⟩ : y.size ≤ sizeLine ∧ k = ((y.size : Int) != 0) := e
    subst e'
    exact PySem.W.truthy_bytes (by omega) ⟨H, I.tok _, q⟩
  | ref p =>
    cases rx
    have e' : (∃ xs, SqL X.K H p xs ∧ k = !xs.isEmpty) ∨ (∃ xs, SqT X.K H p xs ∧ k = !xs.isEmpty) ∨ ∃ kvs, H p = some (.dK kvs) ∧ k = !kvs.isEmpty := e
    rcases e' with ⟨xs, hx, e'⟩ | ⟨xs, hx, e'⟩ | ⟨kvs, hx, e'⟩
    · subst e'
      obtain ⟨its, r, pl, hz⟩ := I.list hx
      have hlen := r.length
      exact wpAny_truthy_list pl.isList (by simp only [List.size_toArray]; omega) ⟨H, I.tok _, by rw [isEmpty_of r]; exact q⟩
    · subst e'
      obtain ⟨its, r, pl, hz⟩ := I.tuple hx
      have hlen := r.length
      exact truthy_tuple pl (by simp only [List.size_toArray]; omega) ⟨H, I.tok _, by rw [isEmpty_of r]; exact q⟩
    · subst e'
      obtain ⟨hz, hS, vs, r, m⟩ : kvs.length ≤ sizeLine ∧ (p == sysModules) = false ∧ ∃ vs, KV kvs vs ∧ s.heap.DictOf (mixKind X.prog X.w) p vs := I.hok p _ hx
      have hlen : kvs.length = vs.length := Paired.length r
      exact wpAny_truthy_dict hS m (by omega) ⟨H, I.tok _, by rw [isEmpty_kv r]; exact q⟩
  | _ => exact (show False from e).elim
theorem pt_truth (ha : PE X a ta) (he : ∀ whole, isTrue a X.env whole = (do let v ← whole; standAt a.pos; holding [v] (truthy v))) :
    PT X a (fun σ H Q => ta σ H fun x H' => ∃ k, TruV X.K x H' k ∧ Q k H') := by
  intro pins s σ H Q I h
  exact isTrue_plain (thn (ha pins s σ H _ I h) fun v s1 ⟨x, H1, I1, r1, q1⟩ => tru_ok pins s1 σ H1 x v Q I1 r1 q1) (he _)
/-! ### strs and bytes -/
theorem op_add_str : OpR X (binaryOp .Add) (fun x y H Q => ∃ i j, x = .str i ∧ y = .str j ∧ i.length + j.length ≤ sizeLine ∧ Q (.str (i ++ j)) H) := by
  intro pins s σ H x y v u Q I rx ry h
  obtain ⟨i, j, rfl, rfl, hz, q⟩ := h
  obtain ⟨t, rfl⟩ := rx
  obtain ⟨t', rfl⟩ := ry
  exact add_str (fun t' tk => ⟨.str (i ++ j), H, I.tok _, ⟨_, rfl⟩, q⟩) hz
def PlainIxT (b : Expr) : Prop := ∀ o i, subscripted b false o i = operate [o, i] (getItem o i)
/-! ### scalar builtins, by CallR -/
theorem vals1 {x : V} {us : List Value} (r : Vals [x] us) : ∃ u, us = [u] ∧ RelV x u := by
  cases r with
  | cons r1 r2 => cases r2; exact ⟨_, rfl, r1⟩
theorem vals2 {x y : V} {us : List Value} (r : Vals [x, y] us) : ∃ u w', us = [u, w'] ∧ RelV x u ∧ RelV y w' := by
  cases r with
  | cons r1 r2 =>
    cases r2 with
    | cons r3 r4 => cases r4; exact ⟨_, _, rfl, r1, r3⟩
theorem call_max2 (hc : X.calm = true) : CallR X (.builtin "max") (fun xs H Q => ∃ i j, xs = [.int i, .int j] ∧ Q (.int (if j > i then j else i)) H) := by
  intro pins s σ H xs us Q I r h
  obtain ⟨i, j, rfl, q⟩ := h
  obtain ⟨u, w', rfl, ⟨t, rfl⟩, ⟨t', rfl⟩⟩ := vals2 r
  refine max_two_ints (I.ok.hd hc) fun h' tk k => ⟨_, H, I.kept k, ?_, q⟩
  by_cases hj : j > i
  · rw [if_pos hj, if_pos hj]; exact ⟨_, rfl⟩
  · rw [if_neg hj, if_neg hj]; exact ⟨_, rfl⟩
theorem call_min2 (hc : X.calm = true) : CallR X (.builtin "min") (fun xs H Q => ∃ i j, xs = [.int i, .int j] ∧ Q (.int (if j < i then j else i)) H) := by
  intro pins s σ H xs us Q I r h
  obtain ⟨i, j, rfl, q⟩ := h
  obtain ⟨u, w', rfl, ⟨t, rfl⟩, ⟨t', rfl⟩⟩ := vals2 r
  refine min_two_ints (I.ok.hd hc) fun h' tk k => ⟨_, H, I.kept k, ?_, q⟩
  by_cases hj : j < i
  · rw [if_pos hj, if_pos hj]; exact ⟨_, rfl⟩
  · rw [if_neg hj, if_neg hj]; exact ⟨_, rfl⟩
def LenV (K : PySem.W.Frag) (x : V) (H : Hp) (n : Nat) : Prop :=
  match x with
  | .str y => y.length ≤ sizeLine ∧ n = y.length
  | .byt y => y.size ≤ sizeLine ∧ n = y.size
  | .ref p => (∃ xs, SqL K H p xs ∧ n = xs.length) ∨ ∃ xs, SqT K H p xs ∧ n = xs.length
  | _ => False
end
end L2
namespace L2
open PySem PySem.Spec PyProof.Rows
/-! ### an instance, its attributes a map -/
structure ObjM (h : Heap) (x dx C : Addr) (mA : Str → Option Value) : Prop where
  obj : h.get? x = some (PySem.W.instObj C dx)
  ns : h.Ns1 dx mA
  ne : dx ≠ x
theorem lookIn_ns {h : Heap} {dx : Addr} {mA : Str → Option Value} (n : h.Ns1 dx mA) : ∃ od, h.get? dx = some od ∧ ∀ name, PySem.W.lookIn name od = some (mA name) := by
  obtain ⟨o, es, ep, ho, hd, hk, _, hm⟩ := n
  refine ⟨o, ho, fun name => ?_⟩
  have e := hm name
  unfold nsFind findBy at e
  rw [← Array.find?_toList] at e
  unfold PySem.W.lookIn
  rw [hd]
  dsimp only
  split
  · rename_i y q
    rw [q] at e
    exact congrArg some e
  · rename_i q
    rw [q] at e
    have a : es.toList.any (·.refKey) = false := by
      rw [List.any_eq_false]
      intro y hy
      obtain ⟨z, t, hkey⟩ := hk y (Array.mem_toList_iff.mp hy)
      simp [DictEntry.refKey, hkey]
    have a' : ¬ es.toList.any (·.refKey) = true := by rw [a]; exact Bool.false_ne_true
    rw [if_neg a']
    exact congrArg some e
theorem ObjM.look {h : Heap} {x dx C : Addr} {mA : Str → Option Value} (I : ObjM h x dx C mA) : ∃ od, PySem.W.InstAt h x (PySem.W.instObj C dx) C (some od) ∧ ∀ name, PySem.W.lookIn name od = some (mA name) :=
  let ⟨od, ho, hl⟩ := lookIn_ns I.ns
  ⟨od, ⟨I.obj, rfl, rfl, ho⟩, hl⟩
section
variable {prog : Program} {w : World} {A : Around} {E : Value → Shared → Prop} {s : Shared} {K : PySem.W.Frag} {x dx C f : Addr} {mA : Str → Option Value} {name : Str} {v : Value}
end
/-! ### the attributes as a list of pairs -/
def putF (f : Str) (v : V) : List (Str × V) → List (Str × V)
  | [] => [(f, v)]
  | (g, x) :: r => if g = f then (g, v) :: r else (g, x) :: putF f v r
section
variable {P : Program} {w : World} {H H' : Hp} {h h' : Heap} {a C dx : Addr} {fs fs' : List (Str × V)}
theorem ins_get (hok : HOk P w H h) (e : H a = some (.ins C dx fs)) : ∃ mA, ObjM h a dx C mA ∧ (∀ f, RelO (fs.lookup f) (mA f)) ∧ PySem.Within mA (fs.map (·.1)) ∧ fs.length ≤ 1000 ∧ H dx = some (.own a) := by
  obtain ⟨d, z, ne, ob, mA, n, r, q⟩ := (show ObjOk P w H h a (.ins C dx fs) from hok a _ e)
  exact ⟨mA, ⟨ob, n, ne⟩, r, q, z, d⟩
end
/-! ### what of the text a class must have -/
structure Cls (K : PySem.W.Frag) (C : Addr) : Prop where
  pg : PySem.W.plainGet K C Str.empty = true
  hd : PySem.W.hasDictIn K C = true
  po : PySem.W.plainOver K C = true
  sa : PySem.W.findIn K (.ref C) "__setattr__" = some (some (.builtin "object.__setattr__"))
theorem Cls.get {K : PySem.W.Frag} {C : Addr} (c : Cls K C) (f : Str) : PySem.W.plainGet K C f = true := c.pg
def NoAttr (K : PySem.W.Frag) (C : Addr) (f : Str) : Prop := PySem.W.findIn K (.ref C) f = some none
structure Con (K : PySem.W.Frag) (C : Addr) (f : Str) (v : V) (u : Value) : Prop where
  at_ : PySem.W.findIn K (.ref C) f = some (some u)
  rel : RelV v u
  get : PySem.W.specialIn K u "__get__" = some none
  cp : PySem.W.copiedNames.contains f = false
structure Meth (K : PySem.W.Frag) (C : Addr) (m : Str) (f : Addr) : Prop where
  at_ : PySem.W.findIn K (.ref C) m = some (some (.ref f))
  fn : PySem.W.isFn K (.ref f) = true
  kp : PySem.W.keepIn K (.ref f) = true
section
variable {X : Cx} {pins : List (Addr × Obj)} {σ : St} {H : Hp} {s : Shared} {a C dx : Addr} {fs : List (Str × V)} {f : Str} {v : V} {A : Around} {E : Value → Shared → Prop}
theorem Inv.made (I : Inv X pins σ H s) : Inv X pins σ (upd (upd H s.heap.objs.size (.own (s.heap.objs.size + 1))) (s.heap.objs.size + 1) (.ins C s.heap.objs.size []))
    { s with heap := (s.heap.push PySem.W.emptyDict).push (PySem.W.instObj C s.heap.objs.size) } := by
  have e1 : (s.heap.push PySem.W.emptyDict).get? s.heap.objs.size = some PySem.W.emptyDict := Heap.get?_push_size s.heap rfl
  have e2 : ((s.heap.push PySem.W.emptyDict).push (PySem.W.instObj C s.heap.objs.size)).get? (s.heap.objs.size + 1) = some (PySem.W.instObj C s.heap.objs.size) := by
    have := Heap.get?_push_size (s.heap.push PySem.W.emptyDict) (o := PySem.W.instObj C s.heap.objs.size) rfl
    rwa [Heap.size_push] at this
  have e3 : (s.heap.push PySem.W.emptyDict).Ns s.heap.objs.size (fun _ => none) := ⟨PySem.W.emptyDict, #[], _, e1, rfl, (fun e he => absurd he (by simp)), fun _ => rfl⟩
  have I1 := I.laid (a := s.heap.objs.size) (o := .own (s.heap.objs.size + 1)) (h' := s.heap.push PySem.W.emptyDict) (t' := s.toks) (fun b u q => Heap.get?_push_of_some _ q) (Nat.le_refl _) ⟨_, e1⟩
  refine I1.laid (a := s.heap.objs.size + 1) (o := .ins C s.heap.objs.size []) (t' := s.toks) (fun b u q => Heap.get?_push_of_some _ q) (Nat.le_of_eq (Heap.size_push _ _)) ?_
  have ne : s.heap.objs.size ≠ s.heap.objs.size + 1 := Nat.ne_of_lt (Nat.lt_succ_self _)
  refine ⟨by rw [upd_ne ne, upd_same], Nat.zero_le _, ne, e2, fun _ => none, (Heap.Ns1.of_empty e3).at fun o q => Heap.get?_push_of_some _ q, fun _ => True.intro, fun y hy => absurd rfl hy⟩
end
/-! ### readings and rules -/
def tFld (K : PySem.W.Frag) (ta : TE) (f : Str) : TE := fun σ H Q => ta σ H fun x H1 => ∃ a C dx fs v, x = .ref a ∧ H1 a = some (.ins C dx fs) ∧ Cls K C ∧ NoAttr K C f ∧ fs.lookup f = some v ∧ Q v H1
def tCon (K : PySem.W.Frag) (ta : TE) (f : Str) : TE := fun σ H Q => ta σ H fun x H1 => ∃ a C dx fs v u, x = .ref a ∧ H1 a = some (.ins C dx fs) ∧ Cls K C ∧ Con K C f v u ∧ fs.lookup f = none ∧ Q v H1
def sFld (K : PySem.W.Frag) (ta tv : TE) (f : Str) : TS := fun D σ H => tv σ H fun y H1 => ta σ H1 fun x H2 => ∃ a C dx fs, x = .ref a ∧ H2 a = some (.ins C dx fs) ∧ Cls K C ∧ NoAttr K C f ∧ fs.length < 1000 ∧
  D.nx σ (upd H2 a (.ins C dx (putF f y fs)))
def InOp (X : Cx) (op : Operator) (rd : V → V → Hp → VK → Prop) : Prop :=
  ∀ (pins : List (Addr × Obj)) (s : Shared) (σ : St) (H : Hp) (x y : V) (u v : Value) (Q : VK), Inv X pins σ H s → RelV x u → RelV y v → rd x y H Q → wpAny (model X.prog X.w) X.A (inplaceOp op u v) (EP X pins σ Q) X.xe s
def sFldAug (K : PySem.W.Frag) (ta tv : TE) (rd : V → V → Hp → VK → Prop) (f : Str) : TS := fun D σ H => ta σ H fun x H1 => ∃ a C dx fs v, x = .ref a ∧ H1 a = some (.ins C dx fs) ∧ Cls K C ∧ NoAttr K C f ∧ fs.lookup f = some v ∧
  tv σ H1 fun y H2 => rd v y H2 fun z H3 => ∃ dx' fs', H3 a = some (.ins C dx' fs') ∧ fs'.length < 1000 ∧ D.nx σ (upd H3 a (.ins C dx' (putF f z fs')))
section
variable {X : Cx} {o e value : Expr} {f : Str} {pos pos' tpos : Pos} {ta tv : TE}
def rAdd : V → V → Hp → VK → Prop := fun x y H Q => ∃ i j, x = .int i ∧ y = .int j ∧ Q (.int (i + j)) H
def rSub : V → V → Hp → VK → Prop := fun x y H Q => ∃ i j, x = .int i ∧ y = .int j ∧ Q (.int (i - j)) H
end
/-! ### isinstance -/
section
variable {X : Cx} {pins : List (Addr × Obj)} {σ : St} {H : Hp} {s : Shared} {A : Around} {E : Value → Shared → Prop} {Q : Value → Shared → Prop} {c : Value} {b : Bool}
inductive TyOf (K : PySem.W.Frag) (H : Hp) : V → Value → Prop where
  | non : TyOf K H .non (.type "NoneType")
  | bl (x : Bool) : TyOf K H (.bl x) (.type "bool")
  | int (i : Int) : TyOf K H (.int i) (.type "int")
  | str (x : Str) : TyOf K H (.str x) (.type "str")
  | flt (x : UInt64) : TyOf K H (.flt x) (.type "float")
  | lst {a : Addr} {xs : List V} (e : H a = some (.lst xs)) : TyOf K H (.ref a) (.type "list")
  | frz {a : Addr} {o : Obj} {xs : List V} (e : H a = some (.frz o (.lst xs))) : TyOf K H (.ref a) (.type "list")
  | tup {a : Addr} {xs : List V} (e : H a = some (.tup xs)) : TyOf K H (.ref a) (.type "tuple")
  | dK {a : Addr} {kvs : List (Key × V)} (e : H a = some (.dK kvs)) : TyOf K H (.ref a) (.type "dict")
  | dT {a : Addr} {kvs : List (List Key × V)} (e : H a = some (.dT kvs)) : TyOf K H (.ref a) (.type "dict")
  | ins {a C dx : Addr} {fs : List (Str × V)} (e : H a = some (.ins C dx fs)) (cl : Cls K C) (ha : PySem.W.findIn K (.ref C) "__class__" = some (some (.builtin "object.__class__")))
      (hn : PySem.W.specialIn K (.builtin "object.__class__") "__get__" = some (some (.builtin "getset_descriptor.__get__"))) (htk : PySem.W.takesIn K (.builtin "object.__class__") = some true)
      (hm : PySem.W.mroIn K C (.type "object") = some true) : TyOf K H (.ref a) (.ref C)
theorem isinst_ok {x : V} {u t : Value} (I : Inv X pins σ H s) (rx : RelV x u) (ty : TyOf X.K H x t) (e : PySem.W.kitOne X.K t c = some b) (h : ∀ tk, Q (.bool b) { s with toks := tk }) :
    wpAny (model X.prog X.w) A (call (.builtin "isinstance") [u, c]) Q E s := by
  cases ty with
  | non => cases (show u = Value.none from rx); exact PySem.W.kia_one PySem.W.kitx_none I.kIn True.intro e (fun z => nomatch z) h
  | bl y => cases (show u = Value.bool y from rx); exact PySem.W.kia_one PySem.W.kitx_bool I.kIn True.intro e (fun z => nomatch z) h
  | int i => obtain ⟨t, q⟩ := (show ∃ t, u = Value.int i t from rx); cases q; exact PySem.W.kia_one PySem.W.kitx_int I.kIn True.intro e (fun z => nomatch z) h
  | str y => obtain ⟨t, q⟩ := (show ∃ t, u = Value.str y t from rx); cases q; exact PySem.W.kia_one PySem.W.kitx_str I.kIn True.intro e (fun z => nomatch z) h
  | flt y => obtain ⟨t, q⟩ := (show ∃ t, u = Value.float y t from rx); cases q; exact PySem.W.kia_one PySem.W.kitx_float I.kIn True.intro e (fun z => nomatch z) h
  | @lst a xs ea =>
    cases (show u = Value.ref a from rx)
    obtain ⟨_, _, n, _, h1⟩ := (show ObjOk X.prog X.w H s.heap a (.lst xs) from I.hok a _ ea)
    exact PySem.W.kia_one PySem.W.kitx_list I.kIn ⟨_, h1, rfl⟩ e (fun z => nomatch z) h
  | @frz a ob xs ea =>
    cases (show u = Value.ref a from rx)
    obtain ⟨_, _, _, n, _, h1⟩ := (show ObjOk X.prog X.w H s.heap a (.frz ob (.lst xs)) from I.hok a _ ea)
    exact PySem.W.kia_one PySem.W.kitx_list I.kIn ⟨_, h1, rfl⟩ e (fun z => nomatch z) h
  | @tup a xs ea =>
    cases (show u = Value.ref a from rx)
    obtain ⟨_, _, _, p⟩ := (show ObjOk X.prog X.w H s.heap a (.tup xs) from I.hok a _ ea)
    obtain ⟨o, h1, h2, _⟩ := p
    exact PySem.W.kia_one PySem.W.kitx_tuple I.kIn ⟨o, h1, h2⟩ e (fun z => nomatch z) h
  | @dK a kvs ea =>
    cases (show u = Value.ref a from rx)
    obtain ⟨_, _, vs, _, p⟩ := (show ObjOk X.prog X.w H s.heap a (.dK kvs) from I.hok a _ ea)
    obtain ⟨o, es, ep, h1, h2, _⟩ := p
    exact PySem.W.kia_one PySem.W.kitx_dict I.kIn ⟨o, h1, h2.1⟩ e (fun z => nomatch z) h
  | @dT a kvs ea =>
    cases (show u = Value.ref a from rx)
    obtain ⟨_, _, xs, _, o, es, ep, h1, h2, _⟩ := (show ObjOk X.prog X.w H s.heap a (.dT kvs) from I.hok a _ ea)
    exact PySem.W.kia_one PySem.W.kitx_dict I.kIn ⟨o, h1, h2.1⟩ e (fun z => nomatch z) h
  | @ins a C dx fs ea cl ha hn htk hm =>
    cases (show u = Value.ref a from rx)
    obtain ⟨mA, O, _⟩ := ins_get I.hok ea
    obtain ⟨od, J, _⟩ := O.look
    exact PySem.W.kia_one (PySem.W.kitx_own (cl.get _) cl.hd ha hn htk hm) I.kIn J e (fun z => nomatch z) h
end
end L2
namespace L2
open PySem PySem.Spec PyProof.Rows
/-! ### room -/
structure Room (k : Nat) (A : Around) : Prop where
  hd : A.handled = none
  dp : A.depth + 3 * k + 5 < recursionLimit
  un : A.units + 16 * k + 200 < cLine
theorem Room.mono {j k : Nat} {A : Around} (r : Room k A) (h : j ≤ k) : Room j A := ⟨r.hd, by have := r.dp; omega, by have := r.un; omega⟩
theorem Room.deeper {k : Nat} {A : Around} (r : Room (k + 1) A) (env : Env) : Room k (A.deeper env) :=
  ⟨r.hd, by have := r.dp; show A.depth + 1 + 3 * k + 5 < _; omega, by have := r.un; show A.units + 3 + 16 * k + 200 < _; omega⟩
theorem Room.in1 {k : Nat} {A : Around} (r : Room (k + 1) A) : Room k A.in1 :=
  ⟨r.hd, by have := r.dp; show A.depth + 3 * k + 5 < _; omega, by have := r.un; show A.units + 1 + 16 * k + 200 < _; omega⟩
theorem Room.depth {k : Nat} {A : Around} (r : Room k A) : A.depth < recursionLimit := by have := r.dp; omega
theorem Room.units {k : Nat} {A : Around} (r : Room k A) : A.units + 64 < cLine := by have := r.un; omega
/-! ### argument lists and displays -/
def tNil : TA := fun _ H Q => Q [] H
def tCons (ta : TE) (tr : TA) : TA := fun σ H Q => ta σ H fun x H1 => tr σ H1 fun xs H2 => Q (x :: xs) H2
section
variable {X : Cx} {e : Expr} {es : List Expr} {te : TE} {t : TA} {pos : Pos}
theorem pa_nil : PA X [] tNil := fun _ _ _ _ H Q I h => Calls.spliced_nil ⟨[], H, I, .nil, h⟩
theorem pa_cons (ha : PE X e te) (hr : PA X es t) (hs : starEach (e :: es) X.env = (false, eval e X.env) :: starEach es X.env := by rfl) : PA X (e :: es) (tCons te t) := by
  intro pos pins s σ H Q I h
  rw [hs]
  show wpAny _ _ (spliced ((false, eval e X.env) :: backTo pos (starEach es X.env))) _ _ s
  refine Calls.spliced_cons (thn (ha pins s σ H _ I h) fun u s1 ⟨x, H1, I1, r1, q1⟩ => ?_)
  exact thn (hr pos pins s1 σ H1 _ I1 q1) fun us s2 ⟨xs, H2, I2, r2, q2⟩ => ⟨x :: xs, H2, I2, .cons r1 r2, q2⟩
def tTup (t : TA) : TE := fun σ H Q => t σ H fun xs H1 => xs.length ≤ sizeLine ∧ ∀ p, H1 p = none → Q (.ref p) (upd H1 p (.tup xs))
def tLst (t : TA) : TE := fun σ H Q => t σ H fun xs H1 => xs.length ≤ sizeLine ∧ ∀ p, H1 p = none → Q (.ref p) (upd H1 p (.lst xs))
theorem pe_tup {x1} (h : PA X es t) : PE X (.Tuple es x1 pos) (tTup t) := by
  intro pins s σ H Q I hq
  refine wpAny_Tuple_spliced (thn (h pos pins s σ H _ I hq) fun us s1 ⟨xs, H1, I1, r, z, q⟩ => ⟨by rw [← r.length]; exact z, ?_⟩)
  have hf : H1 s1.heap.objs.size = none := I1.hok.fresh (Nat.le_refl _)
  refine ⟨.ref s1.heap.objs.size, upd H1 s1.heap.objs.size (.tup xs), I1.laid (t' := s1.toks) (fun b u e => Heap.get?_push_of_some _ e) (Nat.le_refl _) ?_, rfl, q _ hf⟩
  exact ⟨z, us, r, ⟨_, Heap.get?_push_size _ rfl, rfl, _, rfl⟩⟩
theorem pe_lst (h : PA X es t) : PE X (.List es pos) (tLst t) := by
  intro pins s σ H Q I hq
  refine wpAny_List_spliced (thn (h pos pins s σ H _ I hq) fun us s1 ⟨xs, H1, I1, r, z, q⟩ => ⟨by rw [← r.length]; exact z, ?_⟩)
  have hf : H1 s1.heap.objs.size = none := I1.hok.fresh (Nat.le_refl _)
  refine ⟨.ref s1.heap.objs.size, upd H1 s1.heap.objs.size (.lst xs), I1.laid (t' := s1.toks) (fun b u e => Heap.get?_push_of_some _ e) (Nat.le_refl _) ?_, rfl, q _ hf⟩
  exact ⟨z, us, 0, r, Heap.get?_push_size _ rfl⟩
end
/-! ### what a def promises -/
abbrev Sp := List V → Hp → VK → XK → Prop
abbrev CXT := List Env → Hp → Shared → XK → Value → Shared → Prop
structure Env0 (P : Program) (w : World) (K : PySem.W.Frag) (mg : Str → Option Value) (base : Heap) (A : Around) (outer : List Env) (s : Shared) (H : Hp) : Prop where
  frames : A.frames = some outer
  mod : Mod K mg base
  bs : ∀ b o, base.get? b = some o → s.heap.get? b = some o ∧ H b = none
  bsz : base.objs.size ≤ s.heap.objs.size
  funs : s.heap.FunFrames base outer
  frf : ∀ b ∈ frs outer, H b = none
  hok : HOk P w H s.heap
  bare : AllBare s.gens
def CE (outer : List Env) (P : Program) (w : World) (H : Hp) (s : Shared) (Q : VK) (u : Value) (s' : Shared) : Prop :=
  ∃ v H', s'.os = s.os ∧ AllBare s'.gens ∧ Un (frs outer) [] H H' s.heap s'.heap ∧ HOk P w H' s'.heap ∧ RelV v u ∧ Q v H'
def CR (CX : CXT) (outer : List Env) (P : Program) (w : World) (H : Hp) (s : Shared) (Q : VK) (E : XK) (r : Result) (s' : Shared) : Prop :=
  match r with
  | .ok (.ret u) => CE outer P w H s Q u s'
  | .ok _ => False
  | .error e => CX outer H s E e s'
structure FnOk (P : Program) (w : World) (K : PySem.W.Frag) (mg : Str → Option Value) (base : Heap) (CX : CXT) (k : Nat) (f : Addr) (fd : FuncData) (ps : List Str) (sp : Sp) : Prop where
  len : ∀ vs H Q E, sp vs H Q E → vs.length = ps.length
  run : ∀ (A : Around) (outer : List Env) (s : Shared) (H : Hp) (args : Args) (us : List Value) (vs : List V) (Q : VK) (E : XK), Room k A → Env0 P w K mg base A outer s H → BindsTo s fd args (ps.zip us) → Vals vs us → sp vs H Q E →
    codeAny (model P w) A (.call (.ref f) args) (CR CX outer P w H s Q E) s
theorem FnOk.mono {P : Program} {w : World} {K : PySem.W.Frag} {mg : Str → Option Value} {base : Heap} {CX : CXT} {j k : Nat} {f : Addr} {fd : FuncData} {ps : List Str} {sp : Sp} (F : FnOk P w K mg base CX j f fd ps sp) (h : j ≤ k) :
    FnOk P w K mg base CX k f fd ps sp := ⟨F.len, fun A outer s H args us vs Q E hr => F.run A outer s H args us vs Q E (hr.mono h)⟩
theorem FnOk.imp {P : Program} {w : World} {K : PySem.W.Frag} {mg : Str → Option Value} {base : Heap} {CX : CXT} {k : Nat} {f : Addr} {fd : FuncData} {ps : List Str} {sp sp' : Sp} (F : FnOk P w K mg base CX k f fd ps sp)
    (h : ∀ vs H Q E, sp' vs H Q E → sp vs H Q E) : FnOk P w K mg base CX k f fd ps sp' :=
  ⟨fun vs H Q E q => F.len vs H Q E (h _ _ _ _ q), fun A outer s H args us vs Q E hr he hb hv hs => F.run A outer s H args us vs Q E hr he hb hv (h _ _ _ _ hs)⟩
theorem Env0.in1 {P : Program} {w : World} {K : PySem.W.Frag} {mg : Str → Option Value} {base : Heap} {A : Around} {outer : List Env} {s : Shared} {H : Hp} (e : Env0 P w K mg base A outer s H) :
    Env0 P w K mg base A.in1 outer s H := ⟨e.frames, e.mod, e.bs, e.bsz, e.funs, e.frf, e.hok, e.bare⟩
section
variable {X : Cx} {pins : List (Addr × Obj)} {σ : St} {H : Hp} {s s' : Shared}
theorem Inv.env0 (I : Inv X pins σ H s) : Env0 X.prog X.w X.K X.mg X.base X.A X.stack s H :=
  ⟨I.ok.frames, I.ok.mod, I.bs, Nat.le_trans I.ok.bsz I.sz, I.stack, I.stkFree, I.hok, I.bare⟩
theorem Inv.after {Q : VK} {u : Value} (I : Inv X pins σ H s) (h : CE X.stack X.prog X.w H s Q u s') : EP X pins σ Q u s' := by
  obtain ⟨v, H', os, bare, un, hok, r, q⟩ := h
  obtain ⟨hh, g, d, t, os'⟩ := s'
  obtain rfl : os' = s.os := os
  exact ⟨v, H', I.call (h' := hh) (g' := g) (d' := d) (t' := t) (ch := []) un hok bare (fun b z => absurd z (by simp)), r, q⟩
end
/-! ### calls -/
def tCall (sp : Sp) (dvs : List V) (E : XK) (t : TA) : TE := fun σ H Q => t σ H fun vs H1 => sp (vs ++ dvs) H1 Q E
def tMeth (C : Addr) (m : Str) (sp : Sp) (dvs : List V) (E : XK) (ta : TE) (t : TA) : TE := fun σ H Q => ta σ H fun x H1 => ∃ a dx fs, x = .ref a ∧ H1 a = some (.ins C dx fs) ∧ fs.lookup m = none ∧
  t σ H1 fun vs H2 => sp (x :: (vs ++ dvs)) H2 Q E
def tMake (C : Addr) (sp : Sp) (dvs : List V) (E : XK) (t : TA) : TE := fun σ H Q => t σ H fun vs H1 => ∀ x dx, H1 x = none → H1 dx = none → dx ≠ x →
  sp (.ref x :: (vs ++ dvs)) (upd (upd H1 dx (.own x)) x (.ins C dx [])) (fun v H2 => v = .non ∧ Q (.ref x) H2) E
def Binds (K : PySem.W.Frag) (fd : FuncData) (ps : List Str) (ds : List Value) : Prop :=
  ∀ (s : Shared) (us : List Value), K.In s.heap → (us ++ ds).length = ps.length → BindsTo s fd ⟨us, []⟩ (ps.zip (us ++ ds))
theorem Binds.all {K : PySem.W.Frag} {fd : FuncData} {ps : List Str} (h : ∀ us : List Value, us.length = ps.length → bindArgs fd ⟨us, []⟩ = pure (ps.zip us)) : Binds K fd ps [] := fun s us _ hl => by
  rw [List.append_nil] at hl ⊢
  exact .of_eq (h us hl)
def Passes (CX : CXT) (X : Cx) (E : XK) : Prop := ∀ (pins : List (Addr × Obj)) (σ : St) (H : Hp) (s : Shared) (e : Value) (s' : Shared), Inv X pins σ H s → CX X.stack H s E e s' → X.xe e s'
section
variable {X : Cx} {CX : CXT} {k : Nat} {f C : Addr} {fd : FuncData} {ps : List Str} {sp : Sp} {dvs : List V} {ds : List Value} {E : XK} {x m : Str} {p pos apos : Pos} {e o : Expr} {es : List Expr} {ta : TE} {t : TA}
theorem run_fn {pins : List (Addr × Obj)} {σ : St} {H : Hp} {s : Shared} {Q : VK} {us : List Value} {vs : List V} (F : FnOk X.prog X.w X.K X.mg X.base CX k f fd ps sp) (hr : Room k X.A) (hb : Binds X.K fd ps ds) (hd : Vals dvs ds) (hx : Passes CX X E)
    (I : Inv X pins σ H s) (r : Vals vs us) (h : sp (vs ++ dvs) H Q E) : wpAny (model X.prog X.w) X.A (call (.ref f) us) (EP X pins σ Q) X.xe s := by
  have r2 : Vals (vs ++ dvs) (us ++ ds) := r.append hd
  have hl : (us ++ ds).length = ps.length := by rw [← r2.length]; exact F.len _ _ _ _ h
  refine wpAny_call (codeAny_mono (F.run X.A X.stack s H ⟨us, []⟩ (us ++ ds) (vs ++ dvs) Q E hr I.env0 (hb s us I.kIn hl) r2 h) fun r s' hq => ?_)
  cases r with
  | error e => exact hx pins σ H s e s' I hq
  | ok fl =>
    cases fl with
    | ret u => exact I.after hq
    | next => exact False.elim hq
    | brk => exact False.elim hq
    | cont => exact False.elim hq
theorem pe_call (F : FnOk X.prog X.w X.K X.mg X.base CX k f fd ps sp) (hr : Room k X.A) (hg : Gl X x) (hm : X.mg x = some (.ref f)) (hk : PySem.W.keepIn X.K (.ref f) = true) (hb : Binds X.K fd ps ds) (hd : Vals dvs ds) (hx : Passes CX X E)
    (ha : PA X (e :: es) t) (hdb : (x == ("__debug__" : Str)) = false := by decide) (he : starEach (e :: es) X.env = (false, eval e X.env) :: starEach es X.env := by rfl) (hpl : (backTo pos (starEach es X.env)).any (·.1) = false := by rfl) :
    PE X (.Call (.Name x p) (e :: es) [] pos) (tCall sp dvs E t) := by
  intro pins s σ H Q I h
  refine wpAny_Call_Name_kw (ld_glob I hg hm ?_ hdb)
  refine PySem.W.callWith_K (h₀ := X.base) I.ok.mod.kin hk (thn (ha pos pins s σ H _ I h) fun us s1 ⟨vs, H1, I1, r, q⟩ => ⟨I1.kIn, ?_⟩) he hpl
  exact run_fn F hr hb hd hx I1 r q
structure Mk (K : PySem.W.Frag) (C f : Addr) : Prop where
  makes : PySem.W.makesIn K C = true
  init : PySem.W.findIn K (.ref C) "__init__" = some (some (.ref f))
  fn : PySem.W.isFn K (.ref f) = true
  kp : PySem.W.keepIn K (.ref C) = true
end
/-! ### keywords -/
def PK (X : Cx) (kws : List Keyword) (t : TA) : Prop :=
  ∀ (pos : Pos) (pins : List (Addr × Obj)) (s : Shared) (σ : St) (H : Hp) (Q : List V → Hp → Prop), Inv X pins σ H s → t σ H Q → wpAny (model X.prog X.w) X.A (evalAll ((backToKw pos (keywordEach kws X.env)).map (·.2))) (AP X pins σ Q) X.xe s
section
variable {X : Cx} {CX : CXT} {k : Nat} {f C : Addr} {fd : FuncData} {ps ks : List Str} {sp : Sp} {E : XK} {x m : Str} {p pos apos kpos : Pos} {e o : Expr} {es : List Expr} {kws : List Keyword} {te ta : TE} {t tk : TA} {nm : Option Str}
structure KBinds (K : PySem.W.Frag) (fd : FuncData) (ps ks : List Str) (g : List Value → List Value → List Value) (gV : List V → List V → List V) : Prop where
  to : ∀ (s : Shared) (us ws : List Value), K.In s.heap → (g us ws).length = ps.length → BindsTo s fd ⟨us, ks.zip ws⟩ (ps.zip (g us ws))
  rel : ∀ {vs : List V} {us : List Value} {zs : List V} {ws : List Value}, Vals vs us → Vals zs ws → Vals (gV vs zs) (g us ws)
def tCallK (sp : Sp) (gV : List V → List V → List V) (E : XK) (t tk : TA) : TE := fun σ H Q => t σ H fun vs H1 => tk σ H1 fun zs H2 => sp (gV vs zs) H2 Q E
variable {g : List Value → List Value → List Value} {gV : List V → List V → List V}
end
/-! ### a def's body keeps its promise -/
structure FnScope (N P : List Str) (sc : Scope) : Prop where
  kind : sc.kind = .function
  co : sc.isCoroutine = false
  gen : sc.isGenerator = false
  nd : N.Nodup
  pre : N.take P.length = P
  par : ∀ x ∈ P, sc.names.lookup x = some .local ∨ sc.names.lookup x = some .cell
  nofree : ∀ y ∈ sc.names, y.2 ≠ .free
theorem bindL_out {kindOf : Str → Option NameKind} {x : Str} : ∀ {binds : List (Str × Value)} {m : Str → Option Value}, (∀ v, (x, v) ∉ binds) → bindL kindOf binds m x = m x
  | [], _, _ => rfl
  | (n, v) :: r, m, h => by
    unfold bindL
    rw [bindL_out fun w hw => h w (List.mem_cons_of_mem _ hw)]
    split
    · have : x ≠ n := by rintro rfl; exact h v List.mem_cons_self
      simp [this]
    · rfl
theorem bindC_out {kindOf : Str → Option NameKind} {x : Str} : ∀ {binds : List (Str × Value)} {m : Str → Option Value}, (∀ v, (x, v) ∉ binds) → bindC kindOf binds m x = m x
  | [], _, _ => rfl
  | (n, v) :: r, m, h => by
    unfold bindC
    rw [bindC_out fun w hw => h w (List.mem_cons_of_mem _ hw)]
    split
    · rfl
    · have : x ≠ n := by rintro rfl; exact h v List.mem_cons_self
      simp [this]
theorem bindL_get {kindOf : Str → Option NameKind} {x : Str} {v : Value} : ∀ {P : List Str} {vs : List Value} {i : Nat} {m : Str → Option Value}, P.Nodup → P[i]? = some x → vs[i]? = some v → kindOf x = some .local →
    bindL kindOf (P.zip vs) m x = some v
  | [], _, _, _, _, h, _, _ => by simp at h
  | _ :: _, [], _, _, _, _, h, _ => by simp at h
  | p :: P, w :: vs, 0, m, nd, h1, h2, hk => by
    simp at h1 h2; subst h1; subst h2
    show bindL kindOf ((p, w) :: P.zip vs) m p = _
    unfold bindL
    rw [bindL_out fun v hv => (List.nodup_cons.mp nd).1 (List.of_mem_zip hv).1, if_pos hk]
    simp
  | p :: P, w :: vs, i + 1, m, nd, h1, h2, hk => by
    show bindL kindOf ((p, w) :: P.zip vs) m x = _
    unfold bindL
    exact bindL_get (i := i) (List.nodup_cons.mp nd).2 (by simpa using h1) (by simpa using h2) hk
theorem bindC_get {kindOf : Str → Option NameKind} {x : Str} {v : Value} : ∀ {P : List Str} {vs : List Value} {i : Nat} {m : Str → Option Value}, P.Nodup → P[i]? = some x → vs[i]? = some v → kindOf x ≠ some .local →
    bindC kindOf (P.zip vs) m x = some v
  | [], _, _, _, _, h, _, _ => by simp at h
  | _ :: _, [], _, _, _, _, h, _ => by simp at h
  | p :: P, w :: vs, 0, m, nd, h1, h2, hk => by
    simp at h1 h2; subst h1; subst h2
    show bindC kindOf ((p, w) :: P.zip vs) m p = _
    unfold bindC
    rw [bindC_out fun v hv => (List.nodup_cons.mp nd).1 (List.of_mem_zip hv).1, if_neg hk]
    simp
  | p :: P, w :: vs, i + 1, m, nd, h1, h2, hk => by
    show bindC kindOf ((p, w) :: P.zip vs) m x = _
    unfold bindC
    exact bindC_get (i := i) (List.nodup_cons.mp nd).2 (by simpa using h1) (by simpa using h2) hk
def start (N : List Str) (vs : List V) : St := vs.map some ++ List.replicate (N.length - vs.length) none
def cxOf (CX : CXT) (P : Program) (w : World) (K : PySem.W.Frag) (mg : Str → Option Value) (base : Heap) (N : List Str) (qual : Str) (scope : Scope) (f : Addr) (cd : Value) (A : Around) (outer : List Env) (s : Shared) (H : Hp) (E : XK) : Cx where
  prog := P
  w := w
  K := K
  mg := mg
  base := base
  A := A.deeper (envOfC qual scope s.heap.objs.size f cd)
  N := N
  s₀ := s
  H₀ := H
  env := envOfC qual scope s.heap.objs.size f cd
  outer := outer
  stack := envOfC qual scope s.heap.objs.size f cd :: outer
  ex := []
  calm := true
  fn := fun _ => true
  pn := []
  xe := fun e s' => wpAny (model P w) (A.deeper (envOfC qual scope s.heap.objs.size f cd)) (leaving (envOfC qual scope s.heap.objs.size f cd) e) (fun _ s'' => CX outer H s E e s'') (fun e' s'' => CX outer H s E e' s'') s'
theorem cell_has {sc : Scope} {n : Nat} {x : Str} (h : sc.names.lookup x = some .cell) : ∃ c, (cellsFrom n sc.names []).lookup x = some c := by
  have q := PySem.W.cellsFrom_some sc.names n [] (.inl h)
  exact Option.isSome_iff_exists.mp q
theorem inv_start {CX : CXT} {P : Program} {w : World} {K : PySem.W.Frag} {mg : Str → Option Value} {base : Heap} {N ps : List Str} {qual : Str} {scope : Scope} {f : Addr} {cd : Value} {A : Around} {outer : List Env} {s s1 : Shared} {H : Hp} {E : XK} {us : List Value} {vs : List V}
    (S : FnScope N ps scope) (hd : A.handled = none) (e0 : Env0 P w K mg base A outer s H) (hl : vs.length = ps.length) (r : Vals vs us)
    (x : InCallC s s.heap.objs.size (bindL (envOfC qual scope s.heap.objs.size f cd).kindOf (ps.zip us) fun _ => none) (cellsFrom (s.heap.objs.size + 1) scope.names []) (bindC (envOfC qual scope s.heap.objs.size f cd).kindOf (ps.zip us) fun _ => none) s1) :
    Inv (cxOf CX P w K mg base N qual scope f cd A outer s H E) [] (start N vs) H s1 := by
  have hpl : ps.length ≤ N.length := by have := congrArg List.length S.pre; rw [List.length_take] at this; omega
  obtain ⟨h1, tk, rfl, hk⟩ := x.done
  have noA : ∀ b : Addr, b ∉ (cxOf CX P w K mg base N qual scope f cd A outer s H E).ex := fun b z => absurd (show b ∈ ([] : List Addr) from z) (by simp)
  refine ⟨⟨e0.mod, S.kind, rfl, rfl, Nat.le_refl _, fun y z c h1 h2 => ?_, fun y hy => ?_, fun y c _ h => ?_, fun _ => hd, Around.frames_deeper e0.frames, .inr ⟨rfl, rfl⟩, fun b z => absurd z (noA b), e0.bs, e0.bsz, fun b _ _ => noA b, fun b z => absurd z (noA b), e0.funs, e0.frf⟩,
    rfl, e0.bare, Un.kept hk, ⟨_, x.toInCall.ns, fun i y v h1 h2 h3 => ?_⟩, fun y c h => ⟨_, x.cell y c h⟩, e0.hok.fresh (Nat.le_refl _), fun y c h => ?_, fun p hp => absurd (show p ∈ ([] : List (Addr × Obj)) from hp) (by simp), e0.hok.kept hk, ?_⟩
  · exact name_of_addr x.apart (PySem.mem_of_lookup h1) (PySem.mem_of_lookup h2)
  · have hy : scope.names.lookup y = some .cell ∨ scope.names.lookup y = some .free := hy
    rcases hy with hy | hy
    · exact cell_has hy
    · exact absurd rfl (S.nofree _ (PySem.mem_of_lookup hy))
  · exact Nat.le_of_lt (x.above y c (PySem.mem_of_lookup h))
  · have hi : i < vs.length := by
      unfold start at h2
      by_cases hi : i < vs.length
      · exact hi
      · rw [List.getElem?_append_right (by simpa using hi)] at h2
        rw [List.getElem?_replicate] at h2
        split at h2 <;> cases h2
    have ha : vs[i]? = some v := by
      unfold start at h2
      rw [List.getElem?_append_left (by simpa using hi), List.getElem?_map] at h2
      cases e : vs[i]? with
      | none => rw [e] at h2; cases h2
      | some a => rw [e] at h2; cases h2; rfl
    obtain ⟨u, hu, rv⟩ := r.get ha
    have hp : ps[i]? = some y := by
      rw [← S.pre, List.getElem?_take_of_lt (by omega)]; exact h1
    have ndP : ps.Nodup := by rw [← S.pre]; exact S.nd.sublist (List.take_sublist _ _)
    refine ⟨u, rv, ?_⟩
    rcases S.par y (List.mem_of_getElem? hp) with k | k
    · exact .inl ⟨k, bindL_get ndP hp hu k⟩
    · obtain ⟨c, e⟩ := cell_has (n := s.heap.objs.size + 1) k
      refine .inr ⟨.inl k, c, e, ?_⟩
      have q := x.cell y c e
      rw [bindC_get ndP hp hu (by show scope.names.lookup y ≠ _; rw [k]; decide)] at q
      exact q
  · exact e0.hok.fresh (Nat.le_of_lt (x.above y c (PySem.mem_of_lookup h)))
  · unfold start
    show _ = N.length
    rw [List.length_append, List.length_map, List.length_replicate]
    omega
theorem fn_of {CX : CXT} {P : Program} {w : World} {K : PySem.W.Frag} {mg : Str → Option Value} {base : Heap} {k : Nat} {f : Addr} {name qual : Str} {params : Arguments} {body : List Stmt} {scope : Scope} {dV kV doc pm cdv ct oc : Value} {an od : Option Addr}
    {osl : Array (Option Value)} {N ps : List Str} {sp : Sp} (lk : K.lookup f = some ⟨oc, od, .func (PySem.W.fnOf name qual params body scope dV kV doc pm an cdv ct), osl⟩) (hcd : PySem.W.codeIn K cdv qual = true) (S : FnScope N ps scope)
    (len : ∀ vs H Q E, sp vs H Q E → vs.length = ps.length)
    (hbody : ∀ (A : Around) (outer : List Env) (s : Shared) (H : Hp) (vs : List V) (Q : VK) (E : XK), Room k (A.deeper (envOfC qual scope s.heap.objs.size f cdv)) → sp vs H Q E →
      ∃ t, PSs (cxOf CX P w K mg base N qual scope f cdv A outer s H E) body t ∧ t { nx := fun _ H' => Q .non H', rt := Q } (start N vs) H) :
    FnOk P w K mg base CX (k + 1) f (PySem.W.fnOf name qual params body scope dV kV doc pm an cdv ct) ps sp := by
  refine ⟨len, fun A outer s H args us vs Q E hr e0 hb r hsp => ?_⟩
  have hl := len _ _ _ _ hsp
  have KX : K.In s.heap := e0.mod.kin.keeps fun b o e => (e0.bs b o e).1
  have lim : s.heap.NoLimit := e0.mod.nolimit.keeps fun b o e => (e0.bs b o e).1
  have hkind : ∀ y ∈ ps.zip us, scope.names.lookup y.1 = some .local ∨ (scope.names.lookup y.1 = some .cell ∧ ((cellsFrom (s.heap.objs.size + 1) scope.names []).lookup y.1).isSome = true) := fun ⟨n, v⟩ hy => by
    rcases S.par n (List.of_mem_zip hy).1 with q | q
    · exact .inl q
    · exact .inr ⟨q, PySem.W.cellsFrom_some _ _ _ (.inl q)⟩
  refine codeAny_call_function hr.depth (KX _ _ lk) rfl S.co S.gen rfl (PySem.W.codeRec_of KX hcd) (hb _ _ _ _ ?_)
  refine wpAny_newFunctionEnv_cells S.kind hkind fun env he s1 x => ?_
  subst he
  refine ⟨lim.keeps x.toInCall.keep, codeAny_func ?_⟩
  obtain ⟨t, ht, hq⟩ := hbody A outer s H vs Q E (hr.deeper _) hsp
  have I : Inv (cxOf CX P w K mg base N qual scope f cdv A outer s H E) [] (start N vs) H s1 := inv_start S hr.hd e0 hl r x
  refine wpAny_mono (ht [] s1 (start N vs) H _ I hq) (fun fl s' hs => ?_) fun e s' hs => hs
  have fin : ∀ {σ' : St} {H' : Hp} {v : V} {u : Value}, Inv (cxOf CX P w K mg base N qual scope f cdv A outer s H E) [] σ' H' s' → RelV v u → Q v H' → CE outer P w H s Q u s' :=
    fun {σ' H' v u} J rv q => ⟨v, H', J.os, J.bare, J.base, J.hok, rv, q⟩
  cases fl with
  | ret u =>
    obtain ⟨v, σ', H', J, rv, q⟩ := hs
    exact fin J rv q
  | next =>
    obtain ⟨σ', H', J, q⟩ := hs
    exact fin (v := V.non) (u := Value.none) J rfl q
  | brk =>
    obtain ⟨_, _, _, q⟩ := hs
    exact False.elim q
  | cont =>
    obtain ⟨_, _, _, q⟩ := hs
    exact False.elim q
end L2
namespace L2
open PySem PySem.Spec PyProof.Rows
section
variable {X : Cx} {x : Str} {p pos : Pos} {e : Expr} {es : List Expr} {t : TA} {id T : String} {r : List V → Hp → VK → Prop}
def tCB (r : List V → Hp → VK → Prop) (t : TA) : TE := fun σ H Q => t σ H fun vs H1 => r vs H1 Q
theorem pe_callB (hc : CallR X (.builtin id) r) (hg : Gl X x) (hm : X.mg x = none) (hv : bootBuiltins x = some (.builtin id)) (ha : PA X (e :: es) t) (hn : x ≠ "__name__" := by decide) (hdb : (x == ("__debug__" : Str)) = false := by decide)
    (he : starEach (e :: es) X.env = (false, eval e X.env) :: starEach es X.env := by rfl) (hpl : (backTo pos (starEach es X.env)).any (·.1) = false := by rfl) : PE X (.Call (.Name x p) (e :: es) [] pos) (tCB r t) := by
  intro pins s σ H Q I h
  refine wpAny_Call_Name_kw (ld_blt I hg hm hv ?_ hn hdb)
  exact PyProof.Rows.callWith_builtin1 (thn (ha pos pins s σ H _ I h) fun us s1 ⟨vs, H1, I1, r1, q1⟩ => hc pins s1 σ H1 vs us Q I1 r1 q1) he hpl
theorem pe_callTy (hc : CallR X (.type T) r) (hg : Gl X x) (hm : X.mg x = none) (hv : bootBuiltins x = some (.type T)) (ha : PA X (e :: es) t) (hn : x ≠ "__name__" := by decide) (hdb : (x == ("__debug__" : Str)) = false := by decide)
    (he : starEach (e :: es) X.env = (false, eval e X.env) :: starEach es X.env := by rfl) (hpl : (backTo pos (starEach es X.env)).any (·.1) = false := by rfl) : PE X (.Call (.Name x p) (e :: es) [] pos) (tCB r t) := by
  intro pins s σ H Q I h
  refine wpAny_Call_Name_kw (ld_blt I hg hm hv ?_ hn hdb)
  exact PyProof.Rows.callWith_type1 (thn (ha pos pins s σ H _ I h) fun us s1 ⟨vs, H1, I1, r1, q1⟩ => hc pins s1 σ H1 vs us Q I1 r1 q1) he hpl
end
end L2
namespace HT
open PySem PyProof.Rows
def lexLt : List Int → List Int → Bool
  | [], [] => false
  | [], _ :: _ => true
  | _ :: _, [] => false
  | x :: xs, y :: ys => if x = y then lexLt xs ys else decide (x < y)
section
open PySem.SeqAt
open PySem.AutoSeq1 (wpAny_loadPart')
open PySem.MeetsSeq PySem.MeetsSeq2 PySem.MeetsSeq3
end
section
variable {prog : Program} {w : World} {A : Around} {E : Value → Shared → Prop} {s : Shared}
/-! ### t[a:b], not the whole -/
def sIx (n d : Nat) : Option Int → Nat
  | none => d
  | some v => if v < 0 then (v + (n : Int)).toNat else min v.toNat n
theorem sIx_none (n d : Nat) : sIx n d none = d := rfl
theorem sIx_nat (n d k : Nat) : sIx n d (some (k : Int)) = min k n := by
  show (if (k : Int) < 0 then ((k : Int) + (n : Int)).toNat else min (k : Int).toNat n) = min k n
  rw [if_neg (by omega), Int.toNat_natCast]
theorem sIx_le (n d : Nat) (hd : d ≤ n) (o : Option Int) : sIx n d o ≤ n := by
  cases o with
  | none => exact hd
  | some v =>
    show (if v < 0 then (v + (n : Int)).toNat else min v.toNat n) ≤ n
    by_cases hv : v < 0
    · rw [if_pos hv]; omega
    · rw [if_neg hv]; exact Nat.min_le_right _ _
theorem clip_eq (v : Int) (n d : Nat) : (if v < 0 then max (v + (n : Int)) 0 else min v (n : Int)) = ((sIx n d (some v) : Nat) : Int) := by
  show (if v < 0 then max (v + (n : Int)) 0 else min v (n : Int)) = (((if v < 0 then (v + (n : Int)).toNat else min v.toNat n) : Nat) : Int)
  by_cases hv : v < 0
  · simp only [if_pos hv]; omega
  · simp only [if_neg hv]; omega
theorem adjust_gen (lo hi : Option Int) (n : Nat) : Builtin.Slice.sliceAdjust lo hi 1 (n : Int) = (((sIx n 0 lo : Nat) : Int), ((sIx n n hi : Nat) : Int)) := by
  have h1 : ¬ ((1 : Int) < 0) := by omega
  unfold Builtin.Slice.sliceAdjust
  simp only [h1, if_false]
  refine Prod.ext ?_ ?_
  · cases lo with
    | none => rfl
    | some v => exact clip_eq v n 0
  · cases hi with
    | none => rfl
    | some v => exact clip_eq v n n
theorem places_gen (i j : Nat) : Builtin.Slice.slicePlaces (i : Int) (j : Int) 1 = j - i := by
  unfold Builtin.Slice.slicePlaces
  have h1 : (1 : Int) > 0 := by omega
  simp only [h1, if_true, Int.ediv_one]
  split <;> omega
theorem slicePart_ {v : Value} {o : Option Int} {Q : Option Int → Shared → Prop} (p : IsPart v o) (h : Q o s) : wpAny (model prog w) A (Builtin.Slice.slicePartIndex v) Q E s := by
  cases p with
  | none => exact slicePart_none h
  | int i t => exact slicePart_int h
theorem sliceApplied_gen {sl : Addr} {vl vu : Value} {lo hi : Option Int} {n : Nat} {Q : Int × Int × Nat → Shared → Prop} (hs : s.heap.IsSliceOf sl vl vu .none) (pl : IsPart vl lo) (pu : IsPart vu hi)
    (h : Q (((sIx n 0 lo : Nat) : Int), 1, sIx n n hi - sIx n 0 lo) s) : wpAny (model prog w) A (Builtin.Slice.sliceApplied (.ref sl) (pure (n : Int))) Q E s := by
  obtain ⟨os, hos, hcs, hds⟩ := id hs
  unfold Builtin.Slice.sliceApplied Builtin.Slice.sliceFields
  refine wpAny_bind (wpAny_bind (wpAny_field hos hds (x := vl) rfl (wpAny_bind (wpAny_field hos hds (x := vu) rfl (wpAny_bind (wpAny_field hos hds (x := .none) rfl (wpAny_pure ?_)))))))
  refine wpAny_bind (slicePart_none ?_)
  show wpAny _ _ (if ((1 : Int) == 0) = true then _ else _) _ _ s
  rw [if_neg (by decide)]
  refine wpAny_bind (slicePart_ pl (wpAny_bind (slicePart_ pu (wpAny_bind (wpAny_pure ?_)))))
  show wpAny _ _ (match Builtin.Slice.sliceAdjust lo hi 1 (n : Int) with | (lo, hi) => pure (lo, (1 : Int), Builtin.Slice.slicePlaces lo hi 1)) _ _ s
  rw [adjust_gen lo hi n]
  show wpAny _ _ (pure (((sIx n 0 lo : Nat) : Int), (1 : Int), Builtin.Slice.slicePlaces ((sIx n 0 lo : Nat) : Int) ((sIx n n hi : Nat) : Int) 1)) _ _ s
  rw [places_gen]
  exact wpAny_pure h
theorem pick_gen (xs : Array Value) (i k : Nat) : ((List.range k).filterMap fun (m : Nat) => xs[((i : Int) + (m : Int) * 1).toNat]?).toArray = ((xs.toList.drop i).take k).toArray := by
  have e : (fun (m : Nat) => xs[((i : Int) + (m : Int) * 1).toNat]?) = fun m => xs[i + m]? := by
    funext m
    have : ((i : Int) + (m : Int) * 1).toNat = i + m := by omega
    rw [this]
  rw [e]
  have := pick_run xs i k
  rw [List.filterMap_map] at this
  have e2 : ((fun x => xs[x]?) ∘ fun x => i + x) = fun m => xs[i + m]? := rfl
  rw [e2] at this
  rw [this]
theorem getItem_tuple_cut {t sl : Addr} {items : Array Value} {vl vu : Value} {lo hi : Option Int} {Q : Value → Shared → Prop} (ht : IsTup s.heap t items) (hs : s.heap.IsSliceOf sl vl vu .none) (pl : IsPart vl lo) (pu : IsPart vu hi)
    (hw : ¬ (sIx items.size 0 lo = 0 ∧ sIx items.size items.size hi = items.size))
    (h : Q (.ref s.heap.objs.size) { s with heap := s.heap.push { cls := .type "tuple", data := .seq ((items.toList.drop (sIx items.size 0 lo)).take (sIx items.size items.size hi - sIx items.size 0 lo)).toArray } })
    (hsz : items.size ≤ sizeLine) : wpAny (model prog w) A (getItem (.ref t) (.ref sl)) Q E s := by
  have htake : sizeOk (.seq ((items.toList.drop (sIx items.size 0 lo)).take (sIx items.size items.size hi - sIx items.size 0 lo)).toArray) := by
    show ((items.toList.drop (sIx items.size 0 lo)).take (sIx items.size items.size hi - sIx items.size 0 lo)).toArray.size ≤ sizeLine
    rw [List.size_toArray, List.length_take, List.length_drop, Array.length_toList]
    omega
  have hj : sIx items.size items.size hi ≤ items.size := sIx_le _ _ (Nat.le_refl _) hi
  obtain ⟨os, hos, hcs, hds⟩ := id hs
  have hTs : s.TypeIs (.ref sl) "slice" := ⟨os, hos, hcs⟩
  unfold getItem
  try with_reducible refine wpAny_holding ?_
  first | refine wpAny_bind (wpAny_pure ?_) | skip
  refine wpAny_bind (wpAny_sequenceKey ht.typeIs (by decide) ?_)
  refine wpAny_bind (wpAny_callSpecial?_slot (name := Str.ofString "__getitem__") ht.typeIs PyProof.Rows.slot_tuple_getitem
    (wpAny_call_entry PyProof.Rows.slot_tuple_getitem ht.typeIs entry_tuple_getitem ?_ (args_tuple_getitem _ _)))
  show wpAny _ _ (Builtin.Tuple.tupleItemsOf (.ref t) >>= _) _ _ s
  refine wpAny_bind (tupleItemsOf_ ht ?_)
  refine wpAny_bind (wpAny_typeOf hTs ?_)
  rw [if_pos (by decide)]
  refine wpAny_bind (sliceApplied_gen hs pl pu ?_)
  have hno : ¬ ((((sIx items.size 0 lo : Nat) : Int) == 0 && (1 : Int) == 1 && (sIx items.size items.size hi - sIx items.size 0 lo) == items.size) = true) := by
    intro q
    rw [Bool.and_eq_true, Bool.and_eq_true] at q
    have q1 : ((sIx items.size 0 lo : Nat) : Int) = 0 := eq_of_beq q.1.1
    have q2 : sIx items.size items.size hi - sIx items.size 0 lo = items.size := eq_of_beq q.2
    exact hw ⟨by omega, by omega⟩
  show wpAny _ _ (if (((sIx items.size 0 lo : Nat) : Int) == 0 && (1 : Int) == 1 && (sIx items.size items.size hi - sIx items.size 0 lo) == items.size) = true then _ else _) _ _ s
  rw [if_neg hno, pick_gen]
  first
    | exact wpAny_bind (m := Builtin.Tuple.tupleExact _) (wpAny_newObj_type (wpAny_pure ⟨_, rfl, wpAny_pure h⟩) htake)
    | exact wpAny_bind (m := Builtin.Tuple.tupleExact _) (wpAny_newObj_type (wpAny_bind (wpAny_pure (wpAny_pure ⟨_, rfl, wpAny_pure h⟩))) htake)
    | exact wpAny_bind (wpAny_bind (m := Builtin.Tuple.tupleExact _) (wpAny_newObj_type (wpAny_pure (wpAny_pure ⟨_, rfl, wpAny_pure h⟩)) htake))
    | exact wpAny_bind (wpAny_bind (m := Builtin.Tuple.tupleExact _) (wpAny_newObj_type (wpAny_pure ⟨_, rfl, wpAny_pure h⟩) htake))
end
end HT
namespace L2
open PySem PySem.Spec PyProof.Rows
/-! ### the parts of a slice -/
abbrev TO := St → Hp → (Option Int → Hp → Prop) → Prop
def PO (X : Cx) (e : Option Expr) (t : TO) : Prop :=
  ∀ (pins : List (Addr × Obj)) (s : Shared) (σ : St) (H : Hp) (Q : Option Int → Hp → Prop), Inv X pins σ H s → t σ H Q →
    wpAny (model X.prog X.w) X.A (evalPart e X.env) (fun u s' => ∃ o H', Inv X pins σ H' s' ∧ IsPart u o ∧ Q o H') X.xe s
def tNoPart : TO := fun _ H Q => Q none H
def tPart (t : TE) : TO := fun σ H Q => t σ H fun x H1 => ∃ i, x = .int i ∧ Q (some i) H1
theorem intsAre_of {ns : List Int} : ∀ {us : List Value}, Vals (ns.map V.int) us → IntsAre us ns := by
  induction ns with
  | nil => intro us r; rw [List.map_nil] at r; cases r; exact .nil
  | cons n ns ih =>
    intro us r
    rw [List.map_cons] at r
    cases r with
    | cons r1 r2 =>
      obtain ⟨t, e⟩ := r1
      subst e
      exact .cons n t (ih r2)
section
variable {X : Cx} {e : Expr} {te : TE} {lo hi : Option Expr} {tl th : TO} {pos p2 : Pos}
theorem po_none : PO X none tNoPart := by
  intro pins s σ H Q I h
  rw [evalPart_none]
  exact wpAny_pure ⟨none, H, I, .none, h⟩
theorem po_some (h : PE X e te) : PO X (some e) (tPart te) := by
  intro pins s σ H Q I hw
  rw [evalPart_some]
  refine thn (h pins s σ H _ I hw) fun u s1 ⟨x, H1, I1, r1, q1⟩ => ?_
  obtain ⟨i, rfl, q⟩ := q1
  obtain ⟨t, rfl⟩ := r1
  exact ⟨some i, H1, I1, .int i t, q⟩
def SlR (X : Cx) (r : V → Option Int → Option Int → Hp → VK → Prop) : Prop :=
  ∀ (pins : List (Addr × Obj)) (s : Shared) (σ : St) (H : Hp) (x : V) (v vl vu : Value) (lo hi : Option Int) (sl : Addr) (Q : VK), Inv X pins σ H s → RelV x v → s.heap.IsSliceOf sl vl vu .none → IsPart vl lo → IsPart vu hi → r x lo hi H Q →
    ∃ T id, typeLookup (.type T) "__getitem__" = pure (some (.builtin id)) ∧ s.TypeIs v T ∧ wpAny (model X.prog X.w) X.A (getItem v (.ref sl)) (EP X pins σ Q) X.xe s
theorem SlR.or {r r' : V → Option Int → Option Int → Hp → VK → Prop} (h : SlR X r) (h' : SlR X r') : SlR X (fun x lo hi H Q => r x lo hi H Q ∨ r' x lo hi H Q) := by
  intro pins s σ H x v vl vu lo hi sl Q I rx hs pl pu q
  rcases q with q | q
  · exact h pins s σ H x v vl vu lo hi sl Q I rx hs pl pu q
  · exact h' pins s σ H x v vl vu lo hi sl Q I rx hs pl pu q
def tSl (r : V → Option Int → Option Int → Hp → VK → Prop) (te : TE) (tl th : TO) : TE := fun σ H Q => te σ H fun x H1 => tl σ H1 fun l H2 => th σ H2 fun u H3 => r x l u H3 Q
theorem pe_slice {r : V → Option Int → Option Int → Hp → VK → Prop} (hr : SlR X r) (he : PE X e te) (hl : PO X lo tl) (hu : PO X hi th) : PE X (.Subscript e (.Slice lo hi none p2) pos) (tSl r te tl th) := by
  intro pins s σ H Q I h
  refine Subscript_ (thn (he pins s σ H _ I h) fun v s1 ⟨x, H1, I1, r1, q1⟩ => ?_)
  refine wpAny_Slice (thn (hl pins s1 σ H1 _ I1 q1) fun vl s2 ⟨l, H2, I2, pl, q2⟩ => thn (hu pins s2 σ H2 _ I2 q2) fun vu s3 ⟨u, H3, I3, pu, q3⟩ => ?_)
  rw [evalPart_none]
  refine wpAny_pure ?_
  have I4 : Inv X pins σ H3 { s3 with heap := s3.heap.push { cls := .type "slice", data := .fields #[vl, vu, .none] } } := I3.kept (t' := s3.toks) fun b ob q => Heap.get?_push_of_some _ q
  obtain ⟨T, id, hT, ht, hg⟩ := hr pins { s3 with heap := s3.heap.push { cls := .type "slice", data := .fields #[vl, vu, .none] } } σ H3 x v vl vu l u s3.heap.objs.size Q I4 r1 (Heap.IsSliceOf.new ..) pl pu q3
  show wpAny (model X.prog X.w) X.A (subscriptTail e (.Slice lo hi none p2) v (.ref s3.heap.objs.size)) (EP X pins σ Q) X.xe { s3 with heap := s3.heap.push { cls := .type "slice", data := .fields #[vl, vu, .none] } }
  exact tail_any (ops := [.ref s3.heap.objs.size, v]) ht hT hg (by with_unfolding_all rfl)
def cutV (xs : List V) (lo hi : Option Int) : List V := (xs.drop (HT.sIx xs.length 0 lo)).take (HT.sIx xs.length xs.length hi - HT.sIx xs.length 0 lo)
theorem cutV_length (xs : List V) (lo hi : Option Int) : (cutV xs lo hi).length ≤ xs.length := by
  unfold cutV
  rw [List.length_take, List.length_drop]
  omega
def rSlT (K : PySem.W.Frag) : V → Option Int → Option Int → Hp → VK → Prop := fun x lo hi H Q => ∃ a xs, x = .ref a ∧ SqT K H a xs ∧
  ¬ (HT.sIx xs.length 0 lo = 0 ∧ HT.sIx xs.length xs.length hi = xs.length) ∧ ∀ p, H p = none → Q (.ref p) (upd H p (.tup (cutV xs lo hi)))
theorem sl_tup : SlR X (rSlT X.K) := by
  intro pins s σ H x v vl vu lo hi sl Q I rx hs pl pu h
  obtain ⟨a, xs, rfl, hx, hw, q⟩ := h
  cases rx
  obtain ⟨its, r, ht, hz⟩ := I.tuple hx
  have hlen : its.toArray.size = xs.length := by rw [List.size_toArray]; exact r.length.symm
  refine ⟨"tuple", _, PyProof.Rows.slot_tuple_getitem.lookup, ht.typeIs, ?_⟩
  refine HT.getItem_tuple_cut ht hs pl pu (by rw [hlen]; exact hw) ?_ (by rw [hlen]; exact hz)
  rw [hlen]
  refine ⟨.ref s.heap.objs.size, _, I.laid (t' := s.toks) (o := .tup (cutV xs lo hi)) (fun b ob q => Heap.get?_push_of_some _ q) (Nat.le_refl _) ?_, rfl, q _ (I.hok.fresh (Nat.le_refl _))⟩
  exact ⟨Nat.le_trans (cutV_length xs lo hi) hz, _, (r.drop (HT.sIx xs.length 0 lo)).take (HT.sIx xs.length xs.length hi - HT.sIx xs.length 0 lo), IsTup.new _ _⟩
/-! ### t < u, t + u -/
def rLtT (K : PySem.W.Frag) : R2 := fun x y H Q => ∃ a b ns ms, x = .ref a ∧ y = .ref b ∧ SqT K H a (ns.map V.int) ∧ SqT K H b (ms.map V.int) ∧ Q (.bl (HT.lexLt ns ms)) H
def rCatT (K : PySem.W.Frag) : R2 := fun x y H Q => ∃ a b xs ys, x = .ref a ∧ y = .ref b ∧ SqT K H a xs ∧ SqT K H b ys ∧ xs ≠ [] ∧ xs.length + ys.length ≤ sizeLine ∧
  (ys = [] → Q (.ref a) H) ∧ (ys ≠ [] → ∀ p, H p = none → Q (.ref p) (upd H p (.tup (xs ++ ys))))
end
end L2
namespace L2
open PySem PySem.Spec PyProof.Rows
/-! ### places -/
def ixN (n : Nat) (i : Int) : Option Nat := if 0 ≤ i then (if i < n then some i.toNat else none) else if -(n : Int) ≤ i then some (i + n).toNat else none
def atI {α : Type} (xs : List α) (i : Int) : Option α := (ixN xs.length i).bind fun j => xs[j]?
theorem ixN_seq {n : Nat} {i : Int} {j : Nat} (h : ixN n i = some j) : seqIndex? i n = some j ∧ j < n ∧ -(n : Int) ≤ i ∧ i < n := by
  unfold ixN at h
  by_cases h0 : 0 ≤ i
  · rw [if_pos h0] at h
    by_cases h1 : i < n
    · rw [if_pos h1] at h
      have e : i.toNat = j := Option.some.inj h
      exact ⟨by rw [seqIndex_of h0 h1, e], by omega, by omega, h1⟩
    · rw [if_neg h1] at h; cases h
  · rw [if_neg h0] at h
    by_cases h1 : -(n : Int) ≤ i
    · rw [if_pos h1] at h
      have e : (i + n).toNat = j := Option.some.inj h
      exact ⟨by rw [seqIndex_neg (by omega) h1, e], by omega, h1, by omega⟩
    · rw [if_neg h1] at h; cases h
theorem atI_get {α : Type} {xs : List α} {i : Int} {v : α} (h : atI xs i = some v) : ∃ j, seqIndex? i xs.length = some j ∧ xs[j]? = some v ∧ j < xs.length ∧ -(xs.length : Int) ≤ i ∧ i < xs.length := by
  unfold atI at h
  cases e : ixN xs.length i with
  | none => rw [e] at h; cases h
  | some j =>
    rw [e] at h
    obtain ⟨h1, h2, h3, h4⟩ := ixN_seq e
    exact ⟨j, h1, h, h2, h3, h4⟩
theorem atI_nat {α : Type} {xs : List α} {j : Nat} {v : α} (h : xs[j]? = some v) : atI xs (j : Int) = some v := by
  have hj : j < xs.length := (List.getElem?_eq_some_iff.mp h).1
  have e : ixN xs.length (j : Int) = some j := by
    unfold ixN
    rw [if_pos (by omega), if_pos (by omega)]; simp
  unfold atI; rw [e]; exact h
/-! ### what may be subscripted -/
def PlainIx (b : Expr) : Prop := ∀ o i, subscripted b false o i = operate [o, i] (getItem o i)
def IxR (X : Cx) (r : R2) : Prop :=
  ∀ (value slice : Expr) (pins : List (Addr × Obj)) (s : Shared) (σ : St) (H : Hp) (x y : V) (v u : Value) (Q : VK), Inv X pins σ H s → RelV x v → RelV y u → r x y H Q →
    subscripted slice false v u = operate [v, u] (getItem v u) → wpAny (model X.prog X.w) X.A (subscriptTail value slice v u) (EP X pins σ Q) X.xe s
def MtR (X : Cx) (id : String) (r : V → List V → Hp → VK → Prop) : Prop :=
  ∀ (pins : List (Addr × Obj)) (s : Shared) (σ : St) (H : Hp) (x : V) (xs : List V) (v : Value) (us : List Value) (Q : VK), Inv X pins σ H s → RelV x v → Vals xs us → r x xs H Q →
    wpAny (model X.prog X.w) X.A (call (.builtin id) (v :: us)) (EP X pins σ Q) X.xe s
section
variable {X : Cx} {a b : Expr} {ta tb : TE} {pos : Pos}
theorem IxR.or {r r' : R2} (h : IxR X r) (h' : IxR X r') : IxR X (fun x y H Q => r x y H Q ∨ r' x y H Q) := by
  intro value slice pins s σ H x y v u Q I rx ry q hs
  rcases q with q | q
  · exact h value slice pins s σ H x y v u Q I rx ry q hs
  · exact h' value slice pins s σ H x y v u Q I rx ry q hs
theorem MtR.or {id : String} {r r' : V → List V → Hp → VK → Prop} (h : MtR X id r) (h' : MtR X id r') : MtR X id (fun x xs H Q => r x xs H Q ∨ r' x xs H Q) := by
  intro pins s σ H x xs v us Q I rx rs q
  rcases q with q | q
  · exact h pins s σ H x xs v us Q I rx rs q
  · exact h' pins s σ H x xs v us Q I rx rs q
theorem pe_ix {r : R2} (hr : IxR X r) (ha : PE X a ta) (hb : PE X b tb) (hs : PlainIx b) : PE X (.Subscript a b pos) (tOp r ta tb) := by
  intro pins s σ H Q I h
  exact Subscript_ (binT ha hb I h fun v u s2 x y H2 I2 rx ry q => hr a b pins s2 σ H2 x y v u Q I2 rx ry q (hs _ _))
def rIxL (K : PySem.W.Frag) : R2 := fun x y H Q => ∃ p xs i v, x = .ref p ∧ y = .int i ∧ SqL K H p xs ∧ atI xs i = some v ∧ Q v H
def rIxT (K : PySem.W.Frag) : R2 := fun x y H Q => ∃ p xs i v, x = .ref p ∧ y = .int i ∧ SqT K H p xs ∧ atI xs i = some v ∧ Q v H
def rIxS : R2 := fun x y H Q => ∃ z i c, x = .str z ∧ y = .int i ∧ z.length ≤ sizeLine ∧ atI z.cps.toList i = some c ∧ Q (.str ⟨#[c]⟩) H
theorem ix_list : IxR X (rIxL X.K) := by
  intro value slice pins s σ H x y v u Q I rx ry h hs
  obtain ⟨p, xs, i, z, rfl, rfl, hq, he, q⟩ := h
  cases rx
  obtain ⟨t, rfl⟩ := ry
  obtain ⟨its, r, pl, hz⟩ := I.list hq
  obtain ⟨j, h1, h2, h3, h4, h5⟩ := atI_get he
  obtain ⟨w, ew, rw'⟩ := r.get h2
  have hl := r.length
  have hn := line63
  have fin : EP X pins σ Q w s := ⟨z, H, I, rw', q⟩
  by_cases h0 : 0 ≤ i
  · have hj : i.toNat = j := by
      rw [seqIndex_of h0 h5] at h1
      exact Option.some.inj h1
    exact item_listR pl.isList h0 (by omega) (by rw [hj]; simpa using ew) fin hs
  · have hj : (i + (its.toArray.size : Int)).toNat = j := by
      rw [seqIndex_neg (by omega) h4] at h1
      rw [List.size_toArray, ← hl]
      exact Option.some.inj h1
    exact subscriptTail_builtinR (x := w) pl.isList.typeIs slot_list_getitem.lookup
      (wpAny_getItem_list_neg (Q := fun r s' => r = w ∧ EP X pins σ Q r s') pl.isList (by omega) (by rw [List.size_toArray] <;> omega) (by omega) (by rw [hj]; simpa using ew) ⟨rfl, fin⟩) hs
theorem ix_tup : IxR X (rIxT X.K) := by
  intro value slice pins s σ H x y v u Q I rx ry h hs
  obtain ⟨p, xs, i, z, rfl, rfl, hq, he, q⟩ := h
  cases rx
  obtain ⟨t, rfl⟩ := ry
  obtain ⟨its, r, pl, hz⟩ := I.tuple hq
  obtain ⟨j, h1, h2, h3, h4, h5⟩ := atI_get he
  obtain ⟨w, ew, rw'⟩ := r.get h2
  have hl := r.length
  have hn := line63
  have fin : EP X pins σ Q w s := ⟨z, H, I, rw', q⟩
  exact subscriptTail_builtinR (x := w) pl.typeIs slot_tuple_getitem.lookup
    (getItem_tuple (j := j) (Q := fun r s' => r = w ∧ EP X pins σ Q r s') pl (by omega) (by omega) (by rw [List.size_toArray, ← hl]; exact h1) (by simpa using ew) ⟨rfl, fin⟩) hs
def rIx (K : PySem.W.Frag) : R2 := fun x y H Q => rIxL K x y H Q ∨ rIxT K x y H Q ∨ rIxS x y H Q
/-! ### xs[i] = v, any sign -/
theorem mapSeq_set (its : List Value) (n j : Nat) (u : Value) : Obj.mapSeq (·.setIfInBounds j u) { cls := .type "list", data := .seq its.toArray n } = { cls := .type "list", data := .seq (its.set j u).toArray n } := by
  simp [Obj.mapSeq]
theorem Inv.lst {pins : List (Addr × Obj)} {σ : St} {H : Hp} {s : Shared} {p : Addr} {xs : List V} (I : Inv X pins σ H s) (h : H p = some (.lst xs)) :
    ∃ (its : List Value) (n : Nat), Vals xs its ∧ s.heap.get? p = some { cls := .type "list", data := .seq its.toArray n } ∧ xs.length ≤ sizeLine := by
  obtain ⟨z, its, n, r, e⟩ := I.hok p _ h
  exact ⟨its, n, r, e, z⟩
theorem Inv.lstUpd {pins : List (Addr × Obj)} {σ : St} {H : Hp} {s : Shared} {p : Addr} {xs ys : List V} {its its' : List Value} {n n' : Nat} {f : Obj → Obj} (I : Inv X pins σ H s) (h : H p = some (.lst xs))
    (ho : s.heap.get? p = some { cls := .type "list", data := .seq its.toArray n }) (hf : f { cls := .type "list", data := .seq its.toArray n } = { cls := .type "list", data := .seq its'.toArray n' }) (r : Vals ys its') (hz : ys.length ≤ sizeLine) (t : Nat) :
    Inv X pins σ (upd H p (.lst ys)) { s with heap := s.heap.update p f, toks := t } := by
  have e : (s.heap.update p f).get? p = some { cls := .type "list", data := .seq its'.toArray n' } := by
    rw [Heap.get?_update_self f ho (by rw [hf] <;> rfl), hf]
  refine I.write (x := p) (e := p) (by rw [h]; trivial) (.inl rfl) (fun b u hb q => (Heap.get?_update_other _ _ (Ne.symm hb)).trans q) ⟨_, e⟩ ?_
  exact ⟨hz, its', n', r, e⟩
def rSetL : V → V → V → Hp → (Hp → Prop) → Prop := fun o i v H Q => ∃ p xs k j, o = .ref p ∧ i = .int k ∧ H p = some (.lst xs) ∧ ixN xs.length k = some j ∧ Q (upd H p (.lst (xs.set j v)))
theorem set_list : PSet X rSetL := by
  intro pins s σ H o i v ov iv u Q I ro ri rv h
  obtain ⟨p, xs, k, j, rfl, rfl, hp, hj, q⟩ := h
  cases ro
  obtain ⟨t, rfl⟩ := ri
  obtain ⟨its, n, r, ho, hz⟩ := I.lst hp
  obtain ⟨h1, h2, h3, h4⟩ := ixN_seq hj
  have hl := r.length
  have hn := line63
  have I' : Inv X pins σ (upd H p (.lst (xs.set j v))) { s with heap := s.heap.update p (Obj.mapSeq (·.setIfInBounds j u)) } :=
    I.lstUpd hp ho (mapSeq_set its n j u) (r.set rv j) (by rw [List.length_set]; exact hz) s.toks
  by_cases h0 : 0 ≤ k
  · have hk : k.toNat = j := by
      rw [seqIndex_of h0 h4] at h1
      exact Option.some.inj h1
    exact PySem.W.ki_setAt ho h0 (by omega) (by rw [List.size_toArray, ← hl]; exact h4) (by rw [hk]; exact ⟨_, I', q⟩)
  · have hk : (k + (its.toArray.size : Int)).toNat = j := by
      rw [seqIndex_neg (by omega) h3] at h1
      rw [List.size_toArray, ← hl]
      exact Option.some.inj h1
    exact PySem.W.ki_setBack ho (by omega) (by rw [List.size_toArray, ← hl]; exact h3) (by omega) (by rw [hk]; exact ⟨_, I', q⟩)
/-! ### slices -/
theorem slice_bounds (lo hi : Option Int) (n : Nat) : (sliceBounds lo hi none n).1 = ((HT.sIx n 0 lo : Nat) : Int) ∧ (sliceBounds lo hi none n).2.1 = ((HT.sIx n n hi : Nat) : Int) ∧ (sliceBounds lo hi none n).2.2 = 1 := by
  refine ⟨?_, ?_, rfl⟩
  · cases lo with
    | none => simp [sliceBounds, HT.sIx]
    | some i =>
      simp only [sliceBounds, HT.sIx, Option.getD_none, show (1 : Int) > 0 by decide, if_true]
      by_cases h : i < 0
      · simp only [h, if_true] <;> omega
      · simp only [h, if_false] <;> omega
  · cases hi with
    | none => simp [sliceBounds, HT.sIx]
    | some i =>
      simp only [sliceBounds, HT.sIx, Option.getD_none, show (1 : Int) > 0 by decide, if_true]
      by_cases h : i < 0
      · simp only [h, if_true] <;> omega
      · simp only [h, if_false] <;> omega
theorem slicePick_cut (its : List Value) (lo hi : Option Int) : slicePick its.toArray lo hi none = ((its.drop (HT.sIx its.length 0 lo)).take (HT.sIx its.length its.length hi - HT.sIx its.length 0 lo)).toArray := by
  obtain ⟨h1, h2, h3⟩ := slice_bounds lo hi its.toArray.size
  unfold slicePick
  rw [h1, h2, h3]
  simp only [sliceRange_one, pick_run, List.size_toArray] <;> rfl
def rSlL (K : PySem.W.Frag) : V → Option Int → Option Int → Hp → VK → Prop := fun x lo hi H Q => ∃ a xs, x = .ref a ∧ SqL K H a xs ∧ ∀ p, H p = none → Q (.ref p) (upd H p (.lst (cutV xs lo hi)))
theorem sl_list : SlR X (rSlL X.K) := by
  intro pins s σ H x v vl vu lo hi sl Q I rx hs pl pu h
  obtain ⟨a, xs, rfl, hx, q⟩ := h
  cases rx
  obtain ⟨its, r, ht, hz⟩ := I.list hx
  have hlen := r.length
  refine ⟨"list", _, slot_list_getitem.lookup, ht.isList.typeIs, ?_⟩
  refine wpAny_getItem_list_slice ht.isList hs pl pu .none (by simp) ?_ (by rw [List.size_toArray] <;> omega)
  rw [slicePick_cut, ← hlen]
  refine ⟨.ref s.heap.objs.size, _, I.laid (t' := s.toks) (o := .lst (cutV xs lo hi)) (fun b ob q => Heap.get?_push_of_some _ q) (Nat.le_refl _) ?_, rfl, q _ (I.hok.fresh (Nat.le_refl _))⟩
  exact ⟨Nat.le_trans (cutV_length xs lo hi) hz, _, 0, (r.drop (HT.sIx xs.length 0 lo)).take (HT.sIx xs.length xs.length hi - HT.sIx xs.length 0 lo), Heap.get?_push_size _ rfl⟩
/-! ### in, not in: flat items -/
def flatV : V → Bool
  | .non => true
  | .bl _ => true
  | .int _ => true
  | .str _ => true
  | _ => false
def eqV : V → V → Bool
  | .non, .non => true
  | .bl a, .bl b => a == b
  | .bl a, .int b => (if a then 1 else 0) == b
  | .int a, .bl b => a == (if b then 1 else 0)
  | .int a, .int b => a == b
  | .str a, .str b => a == b
  | _, _ => false
theorem eqAt_V {A : Around} {s : Shared} {y x : V} {u v : Value} (ry : RelV y u) (rx : RelV x v) (fy : flatV y = true) (fx : flatV x = true) : SeqAt.EqAt A s u v (eqV y x) := by
  cases y with
  | non =>
    cases ry
    cases x with
    | non => cases rx; exact SeqAt.EqAt.same _
    | bl b => cases rx; exact SeqAt.EqAt.none_bool b
    | int b => obtain ⟨t, rfl⟩ := rx; exact SeqAt.EqAt.none_int b t
    | str b => obtain ⟨t, rfl⟩ := rx; exact SeqAt.EqAt.none_str b t
    | _ => exact absurd (show false = true from fx) Bool.false_ne_true
  | bl a =>
    cases ry
    cases x with
    | non => cases rx; exact SeqAt.EqAt.bool_none a
    | bl b => cases rx; exact SeqAt.EqAt.bool_bool a b
    | int b => obtain ⟨t, rfl⟩ := rx; exact SeqAt.EqAt.bool_int a b t
    | str b => obtain ⟨t, rfl⟩ := rx; exact SeqAt.EqAt.bool_str a b t
    | _ => exact absurd (show false = true from fx) Bool.false_ne_true
  | int a =>
    obtain ⟨t', rfl⟩ := ry
    cases x with
    | non => cases rx; exact SeqAt.EqAt.int_none a t'
    | bl b => cases rx; exact SeqAt.EqAt.int_bool a t' b
    | int b => obtain ⟨t, rfl⟩ := rx; exact SeqAt.EqAt.int_int a t' b t
    | str b => obtain ⟨t, rfl⟩ := rx; exact SeqAt.EqAt.int_str a t' b t
    | _ => exact absurd (show false = true from fx) Bool.false_ne_true
  | str a =>
    obtain ⟨t', rfl⟩ := ry
    cases x with
    | non => cases rx; exact SeqAt.EqAt.str_none a t'
    | bl b => cases rx; exact SeqAt.EqAt.str_bool a t' b
    | int b => obtain ⟨t, rfl⟩ := rx; exact SeqAt.EqAt.str_int a t' b t
    | str b => obtain ⟨t, rfl⟩ := rx; exact SeqAt.EqAt.str_str a t' b t
    | _ => exact absurd (show false = true from fx) Bool.false_ne_true
  | _ => exact absurd (show false = true from fy) Bool.false_ne_true
def eqU (x : V) (u : Value) : Bool := match u with
  | .none => eqV .non x
  | .bool b => eqV (.bl b) x
  | .int i _ => eqV (.int i) x
  | .str z _ => eqV (.str z) x
  | _ => false
theorem eqU_of {x y : V} {u : Value} (r : RelV y u) (f : flatV y = true) : eqU x u = eqV y x := by
  cases y with
  | non => cases r; rfl
  | bl b => cases r; rfl
  | int i => obtain ⟨t, rfl⟩ := r; rfl
  | str z => obtain ⟨t, rfl⟩ := r; rfl
  | _ => exact absurd (show false = true from f) Bool.false_ne_true
theorem any_eqU {x : V} : ∀ {xs : List V} {us : List Value}, Vals xs us → xs.all flatV = true → us.any (eqU x) = xs.any fun y => eqV y x
  | _, _, .nil, _ => rfl
  | y :: xs, u :: us, .cons r t, f => by
    rw [List.all_cons, Bool.and_eq_true] at f
    rw [List.any_cons, List.any_cons, eqU_of r f.1, any_eqU t f.2]
theorem mem_eqAt {A : Around} {s : Shared} {x : V} {v : Value} (rx : RelV x v) (fx : flatV x = true) : ∀ {xs : List V} {us : List Value}, Vals xs us → xs.all flatV = true → ∀ u ∈ us, SeqAt.EqAt A s u v (eqU x u)
  | _, _, .nil, _ => fun u hu => by cases hu
  | y :: xs, u :: us, .cons r t, f => fun u' hu => by
    rw [List.all_cons, Bool.and_eq_true] at f
    rcases List.mem_cons.mp hu with rfl | hu
    · rw [eqU_of r f.1]; exact eqAt_V r rx f.1 fx
    · exact mem_eqAt rx fx t f.2 u' hu
def inV (x : V) (xs : List V) : Bool := xs.any fun y => eqV y x
def rIn (K : PySem.W.Frag) (neg : Bool) : R2 := fun x y H Q => ∃ p xs, y = .ref p ∧ (SqL K H p xs ∨ SqT K H p xs) ∧ flatV x = true ∧ xs.all flatV = true ∧ Q (.bl (if neg then !inV x xs else inV x xs)) H
theorem op_in_seq : OpR X (compareOp .In) (rIn X.K false) := by
  intro pins s σ H x y v u Q I rx ry h
  obtain ⟨p, xs, rfl, hq, fx, fs, q⟩ := h
  cases ry
  rcases hq with hq | hq
  · obtain ⟨its, r, pl, hz⟩ := I.list hq
    refine SeqAt.in_listAt (eqU x) pl.isList (fun w hw => mem_eqAt rx fx r fs w (by simpa using hw)) ⟨.bl _, H, I, rfl, ?_⟩
    rw [show its.toArray.any (eqU x) = its.any (eqU x) by simp, any_eqU r fs]
    exact q
  · obtain ⟨its, r, pl, hz⟩ := I.tuple hq
    refine SeqAt.in_tupleAt (eqU x) pl (fun w hw => mem_eqAt rx fx r fs w (by simpa using hw)) ⟨.bl _, H, I, rfl, ?_⟩
    rw [show its.toArray.any (eqU x) = its.any (eqU x) by simp, any_eqU r fs]
    exact q
theorem op_notIn_seq : OpR X (compareOp .NotIn) (rIn X.K true) := by
  intro pins s σ H x y v u Q I rx ry h
  obtain ⟨p, xs, rfl, hq, fx, fs, q⟩ := h
  cases ry
  rcases hq with hq | hq
  · obtain ⟨its, r, pl, hz⟩ := I.list hq
    refine SeqAt.notIn_listAt (eqU x) pl.isList (fun w hw => mem_eqAt rx fx r fs w (by simpa using hw)) ⟨.bl _, H, I, rfl, ?_⟩
    rw [show its.toArray.any (eqU x) = its.any (eqU x) by simp, any_eqU r fs]
    exact q
  · obtain ⟨its, r, pl, hz⟩ := I.tuple hq
    refine SeqAt.notIn_tupleAt (eqU x) pl (fun w hw => mem_eqAt rx fx r fs w (by simpa using hw)) ⟨.bl _, H, I, rfl, ?_⟩
    rw [show its.toArray.any (eqU x) = its.any (eqU x) by simp, any_eqU r fs]
    exact q
/-! ### len, list(x), tuple(x) of any list or tuple that is read -/
theorem call_len_seq : CallR X (.builtin "len") (fun xs H Q => ∃ p ys, xs = [.ref p] ∧ (SqL X.K H p ys ∨ SqT X.K H p ys) ∧ Q (.int ys.length) H) := by
  intro pins s σ H xs us Q I r h
  obtain ⟨p, ys, rfl, hq, q⟩ := h
  obtain ⟨u, rfl, rx⟩ := vals1 r
  cases rx
  have hn := line63
  rcases hq with hq | hq
  · obtain ⟨its, r', pl, hz⟩ := I.list hq
    have hlen := r'.length
    exact Calls.call_len_list pl.isList (by simp only [List.size_toArray] <;> omega) ⟨.int ys.length, H, I.tok _, ⟨s.toks + 1, by rw [List.size_toArray, hlen]⟩, q⟩
  · obtain ⟨its, r', pl, hz⟩ := I.tuple hq
    have hlen := r'.length
    exact len_tuple pl (by simp only [List.size_toArray] <;> omega) ⟨.int ys.length, H, I.tok _, ⟨s.toks + 1, by rw [List.size_toArray, hlen]⟩, q⟩
theorem CallR.or {f : Value} {r r' : List V → Hp → VK → Prop} (h : CallR X f r) (h' : CallR X f r') : CallR X f (fun xs H Q => r xs H Q ∨ r' xs H Q) := by
  intro pins s σ H xs us Q I rs q
  rcases q with q | q
  · exact h pins s σ H xs us Q I rs q
  · exact h' pins s σ H xs us Q I rs q
theorem call_list_of : CallR X (.type "list") (fun xs H Q => ∃ p ys, xs = [.ref p] ∧ (SqL X.K H p ys ∨ SqT X.K H p ys) ∧ ∀ l, H l = none → Q (.ref l) (upd H l (.lst ys))) := by
  intro pins s σ H xs us Q I r h
  obtain ⟨p, ys, rfl, hq, q⟩ := h
  obtain ⟨u, rfl, rx⟩ := vals1 r
  cases rx
  have fin : ∀ (its : List Value), Vals ys its → ys.length ≤ sizeLine → ∀ (h' : Heap) (c' : Nat), (∀ b o', s.heap.get? b = some o' → h'.get? b = some o') →
      h'.get? s.heap.objs.size = some { cls := .type "list", dict := none, data := .seq its.toArray c', slots := #[] } → EP X pins σ Q (.ref s.heap.objs.size) { s with heap := h' } := fun its r' hz h' c' kp e =>
    ⟨.ref s.heap.objs.size, _, I.laid (t' := s.toks) kp (Nat.le_refl _) (show ObjOk X.prog X.w _ h' _ (.lst ys) from ⟨hz, its, c', r', e⟩), rfl, q _ (I.hok.fresh (Nat.le_refl _))⟩
  rcases hq with hq | hq
  · obtain ⟨its, r', pl, hz⟩ := I.list hq
    have hlen := r'.length
    obtain ⟨o, ho, hc, n, hd⟩ := pl.isList
    exact call_list_seq p (.inl rfl) ho hc hd (fun h' c' kp e => fin its r' hz h' c' kp e) (by simp only [List.size_toArray] <;> omega)
  · obtain ⟨its, r', pl, hz⟩ := I.tuple hq
    have hlen := r'.length
    obtain ⟨o, ho, hc, n, hd⟩ := pl
    exact call_list_seq p (.inr rfl) ho hc hd (fun h' c' kp e => fin its r' hz h' c' kp e) (by simp only [List.size_toArray] <;> omega)
/-! ### the call of a builtin's method: o.m(..) -/
def tyV (K : PySem.W.Frag) (T : String) (x : V) (H : Hp) : Prop := match x with
  | .str _ => T = "str"
  | .int _ => T = "int"
  | .ref p => (T = "list" ∧ ∃ xs, SqL K H p xs) ∨ (T = "tuple" ∧ ∃ o, K.lookup p = some o ∧ o.cls = .type "tuple" ∧ o.dict = none) ∨
      (T = "dict" ∧ ((∃ kvs, H p = some (.dK kvs)) ∨ ∃ kvs, H p = some (.dT kvs))) ∨ (T = "set" ∧ ∃ S n, H p = some (.set S n))
  | _ => False
theorem tyV_is {pins : List (Addr × Obj)} {σ : St} {H : Hp} {s : Shared} {T : String} {x : V} {v : Value} (I : Inv X pins σ H s) (r : RelV x v) (ty : tyV X.K T x H) :
    s.TypeIs v T ∧ ∀ a, v = .ref a → ∃ ob, s.heap.get? a = some ob ∧ ob.dict = none := by
  cases x with
  | str z =>
    obtain ⟨t, rfl⟩ := r
    cases (show T = "str" from ty)
    exact ⟨typeIs_str s z t, fun _ e => nomatch e⟩
  | int i =>
    obtain ⟨t, rfl⟩ := r
    cases (show T = "int" from ty)
    exact ⟨typeIs_int s i t, fun _ e => nomatch e⟩
  | ref p =>
    cases r
    rcases ty with ⟨rfl, xs, hq⟩ | ⟨rfl, o, hk, hc, hd⟩ | ⟨rfl, hk⟩ | ⟨rfl, S, n, hk⟩
    · obtain ⟨its, _, pl, _⟩ := I.list hq
      refine ⟨pl.isList.typeIs, fun a e => ?_⟩
      cases e
      obtain ⟨o, n, e, c, hd, _⟩ := pl
      exact ⟨o, e, hd⟩
    · refine ⟨⟨o, I.kIn p o hk, hc⟩, fun a e => ?_⟩
      cases e
      exact ⟨o, I.kIn _ o hk, hd⟩
    · have z : ∃ o, s.heap.get? p = some o ∧ o.ExactDict := by
        rcases hk with ⟨kvs, hk⟩ | ⟨kvs, hk⟩
        · obtain ⟨_, _, _, _, o, _, _, e, ex, _⟩ := I.hok p _ hk
          exact ⟨o, e, ex⟩
        · obtain ⟨_, _, _, _, o, _, _, e, ex, _⟩ := I.hok p _ hk
          exact ⟨o, e, ex⟩
      obtain ⟨o, e, ex⟩ := z
      refine ⟨⟨o, e, ex.1⟩, fun a e2 => ?_⟩
      cases e2
      exact ⟨o, e, ex.2.1⟩
    · obtain ⟨o, _, _, _, e, ex, _⟩ := I.hok p _ hk
      refine ⟨⟨o, e, ex.1⟩, fun a e2 => ?_⟩
      cases e2
      exact ⟨o, e, ex.2.1⟩
  | _ => exact False.elim ty
def tBM0 (K : PySem.W.Frag) (T : String) (r : V → List V → Hp → VK → Prop) (to : TE) : TE := fun σ H Q => to σ H fun x H1 => tyV K T x H1 ∧ r x [] H1 Q
def tBM (K : PySem.W.Frag) (T : String) (r : V → List V → Hp → VK → Prop) (to : TE) (t : TA) : TE := fun σ H Q => to σ H fun x H1 => tyV K T x H1 ∧ t σ H1 fun xs H2 => r x xs H2 Q
variable {o e : Expr} {es : List Expr} {to : TE} {t : TA} {name : Str} {apos cpos : Pos} {T id : String} {r : V → List V → Hp → VK → Prop}
theorem pe_bm (pa : PlainAttrs T) (slot : Slot T name id) (hty : typeOf (.builtin id) = pure (.type "method_descriptor")) (hm : MtR X id r) (ho : PE X o to) (ha : PA X (e :: es) t)
    (hbase : attributeBase o name X.env (eval o X.env) = eval o X.env := by rfl)
    (hfew : ((backTo cpos (starEach (e :: es) X.env)).all (fun x => !x.1) && (backToKw cpos (keywordEach [] X.env)).all (fun x => x.1.isSome)
      && decide ((e :: es).length + ([] : List Keyword).length + (if ([] : List Keyword).isEmpty then 0 else 1) < 30)) = true := by rfl)
    (hline : (apos.endLine == cpos.line) = true := by rfl) (hs : starEach (e :: es) X.env = (false, eval e X.env) :: starEach es X.env := by rfl) (hplain : (backTo cpos (starEach es X.env)).any (·.1) = false := by rfl) :
    PE X (.Call (.Attribute o name apos) (e :: es) [] cpos) (tBM X.K T r to t) := by
  intro pins s σ H Q I h
  refine wpAny_Call_method_late hbase hfew hline rfl (thn (ho pins s σ H _ I h) fun v s1 ⟨x, H1, I1, r1, ty, q1⟩ => ?_)
  obtain ⟨h1, h2⟩ := tyV_is I1 r1 ty
  refine ⟨T, id, pa, slot, hty, h1, h2, ?_⟩
  have hA := ha cpos pins s1 σ H1 _ I1 q1
  rw [hs] at hA ⊢
  refine Calls.callWith_builtin (by show (false || (backTo cpos (starEach es X.env)).any (·.1)) = false; rw [hplain] <;> rfl) (Calls.evalArgs_plain ?_)
  exact thn hA fun us s2 ⟨vs, H2, I2, r2, q2⟩ => hm pins s2 σ H2 x vs v us Q I2 r1 r2 q2
/- xs.append(e), list.index on a module's tuple .. are MtR facts of 06m -/
end
end L2
namespace L2
open PySem PySem.Spec PyProof.Rows
def MtM (X : Cx) (id : String) (r : V → List V → Hp → VK → Prop) : Prop :=
  ∀ (pins : List (Addr × Obj)) (s : Shared) (σ : St) (H : Hp) (x : V) (xs : List V) (v : Value) (us : List Value) (Q : VK), Inv X pins σ H s → RelV x v → Vals xs us → r x xs H Q →
    wpAny (model X.prog X.w) X.A (call (.builtin id) (v :: us)) (EP X pins σ Q) X.xe s
/-! ### lists of values -/
theorem Vals.one : ∀ {x : V} {us : List Value}, Vals [x] us → ∃ u, us = [u] ∧ RelV x u
  | _, _, .cons r .nil => ⟨_, rfl, r⟩
theorem Vals.two : ∀ {x y : V} {us : List Value}, Vals [x, y] us → ∃ u v, us = [u, v] ∧ RelV x u ∧ RelV y v
  | _, _, _, .cons r (.cons q .nil) => ⟨_, _, rfl, r, q⟩
theorem Vals.zero : ∀ {us : List Value}, Vals [] us → us = []
  | _, .nil => rfl
theorem Vals.dropLast {xs : List V} {us : List Value} (h : Vals xs us) : Vals xs.dropLast us.dropLast := by
  induction h with
  | nil => exact .nil
  | cons r t ih =>
    cases t with
    | nil => exact .nil
    | cons q t' => exact .cons r ih
theorem Vals.eraseIdx : ∀ {xs : List V} {us : List Value} (i : Nat), Vals xs us → Vals (xs.eraseIdx i) (us.eraseIdx i)
  | _, _, _, .nil => .nil
  | _, _, 0, .cons _ t => t
  | _, _, i + 1, .cons r t => .cons r (Vals.eraseIdx i t)
theorem Vals.reverse {xs : List V} {us : List Value} (h : Vals xs us) : Vals xs.reverse us.reverse := by
  induction h with
  | nil => exact .nil
  | cons r t ih => rw [List.reverse_cons, List.reverse_cons]; exact Vals.append ih (.cons r .nil)
section
variable {X : Cx} {pins : List (Addr × Obj)} {σ : St} {H : Hp} {s : Shared} {l b : Addr} {xs ys zs : List V}
/-! ### the two steps: a tracked list is rewritten, a new list is laid -/
theorem Inv.lset {its its' : List Value} {n : Nat} {f : Array Value → Array Value} {t' : Nat} (I : Inv X pins σ H s) (hH : H l = some (.lst xs))
    (e : s.heap.get? l = some { cls := .type "list", data := .seq its.toArray n }) (hf : f its.toArray = its'.toArray) (hv : Vals ys its') (hz : ys.length ≤ sizeLine) :
    Inv X pins σ (upd H l (.lst ys)) { s with heap := s.heap.update l (Obj.mapSeq f), toks := t' } := by
  have q := PySem.IsL.update e f
  rw [hf] at q
  refine I.write (x := l) (e := l) (by rw [hH]; exact trivial) (.inl rfl) (fun b' u hb hu => (Heap.get?_update_other s.heap (Obj.mapSeq f) (Ne.symm hb)).trans hu) ⟨_, q⟩ ?_
  exact ⟨hz, its', _, hv, q⟩
theorem Inv.lnew {its : List Value} {t' : Nat} (I : Inv X pins σ H s) (hv : Vals ys its) (hz : ys.length ≤ sizeLine) :
    Inv X pins σ (upd H s.heap.objs.size (.lst ys)) { s with heap := s.heap.push { cls := .type "list", data := .seq its.toArray }, toks := t' } :=
  I.laid (fun _ _ q => Heap.get?_push_of_some _ q) (Nat.le_refl _) ⟨hz, its, 0, hv, Heap.get?_push_size _ rfl⟩
theorem Inv.fresh (I : Inv X pins σ H s) : H s.heap.objs.size = none := I.hok.fresh (Nat.le_refl _)
theorem Inv.lstM (I : Inv X pins σ H s) (hH : H l = some (.lst xs)) : xs.length ≤ sizeLine ∧ ∃ (its : List Value) (n : Nat), Vals xs its ∧ xs.length = its.length ∧ s.heap.get? l = some { cls := .type "list", data := .seq its.toArray n } := by
  obtain ⟨z, its, n, r, e⟩ := I.hok l _ hH
  exact ⟨z, its, n, r, r.length, e⟩
theorem notLongL {n : Nat} (h : n ≤ sizeLine) : Builtin.List.listTooLong n = false := by
  unfold Builtin.List.listTooLong
  exact decide_eq_false (by omega)
end
section
variable {X : Cx}
/-! ### methods -/
def rAppend : V → List V → Hp → VK → Prop := fun x vs H Q => ∃ l xs y, x = .ref l ∧ vs = [y] ∧ H l = some (.lst xs) ∧ xs.length < sizeLine ∧ Q .non (upd H l (.lst (xs ++ [y])))
theorem mt_append : MtM X "list.append" rAppend := by
  intro pins s σ H x vs v us Q I rx rv h
  obtain ⟨l, xs, y, rfl, rfl, hH, hz, q⟩ := h
  cases rx
  obtain ⟨u, rfl, ru⟩ := rv.one
  obtain ⟨z, its, n, r, hl, e⟩ := I.lstM hH
  refine call_meets F.slot_list_append ⟨_, e, rfl⟩ F.entry_list_append (F.args_list_append_2 _ _) (PySem.list_append l its.toArray n u (by rw [List.size_toArray]; omega)) ⟨e, ?_⟩
  refine ⟨.non, _, I.lset (its' := its ++ [u]) hH e (by simp) (r.append (.cons ru .nil)) ?_, rfl, q⟩
  rw [List.length_append, List.length_singleton]
  omega
def rExtend : V → List V → Hp → VK → Prop := fun x vs H Q => ∃ l b xs zs, x = .ref l ∧ vs = [.ref b] ∧ H l = some (.lst xs) ∧ H b = some (.lst zs) ∧ xs.length + zs.length ≤ sizeLine ∧ Q .non (upd H l (.lst (xs ++ zs)))
theorem mt_extend : MtM X "list.extend" rExtend := by
  intro pins s σ H x vs v us Q I rx rv h
  obtain ⟨l, b, xs, zs, rfl, rfl, hH, hB, hz, q⟩ := h
  cases rx
  obtain ⟨u, rfl, ru⟩ := rv.one
  cases ru
  obtain ⟨z, its, n, r, hl, e⟩ := I.lstM hH
  obtain ⟨z2, its2, n2, r2, hl2, e2⟩ := I.lstM hB
  have hsz : its.toArray.size + its2.toArray.size ≤ sizeLine := by rw [List.size_toArray, List.size_toArray]; omega
  have hlong : ¬ (!its.toArray.isEmpty && Builtin.List.listTooLong (its.toArray.size + its2.toArray.size)) = true := by
    rw [notLongL hsz, Bool.and_false]
    exact Bool.false_ne_true
  refine call_meets F.slot_list_extend ⟨_, e, rfl⟩ F.entry_list_extend (F.args_list_extend_2 _ _)
    (AutoSeq1.list_extend_list_list_0 l its.toArray n b its2.toArray n2 hlong (by rw [List.size_toArray]; omega) (by omega)) ⟨e, e2, ?_⟩
  refine ⟨.non, _, I.lset (its' := its ++ its2) hH e (by simp) (r.append r2) ?_, rfl, q⟩
  rw [List.length_append]
  omega
def rPop : V → List V → Hp → VK → Prop := fun x vs H Q => ∃ l xs y, x = .ref l ∧ vs = [] ∧ H l = some (.lst xs) ∧ xs[xs.length - 1]? = some y ∧ Q y (upd H l (.lst xs.dropLast))
def rPopAt : V → List V → Hp → VK → Prop := fun x vs H Q => ∃ l xs i k y, x = .ref l ∧ vs = [.int i] ∧ H l = some (.lst xs) ∧ -(2 ^ 63) ≤ i ∧ i < 2 ^ 63 ∧ seqIndex? i xs.length = some k ∧ xs[k]? = some y ∧ Q y (upd H l (.lst (xs.eraseIdx k)))
def rReverse : V → List V → Hp → VK → Prop := fun x vs H Q => ∃ l xs, x = .ref l ∧ vs = [] ∧ H l = some (.lst xs) ∧ Q .non (upd H l (.lst xs.reverse))
def rClear : V → List V → Hp → VK → Prop := fun x vs H Q => ∃ l xs, x = .ref l ∧ vs = [] ∧ H l = some (.lst xs) ∧ Q .non (upd H l (.lst []))
/-! ### list + list, list += list, list * int -/
def rCat : R2 := fun x y H Q => ∃ l b xs zs, x = .ref l ∧ y = .ref b ∧ H l = some (.lst xs) ∧ H b = some (.lst zs) ∧ xs.length + zs.length ≤ sizeLine ∧ ∀ p, H p = none → Q (.ref p) (upd H p (.lst (xs ++ zs)))
theorem op_cat : OpR X (binaryOp .Add) rCat := by
  intro pins s σ H x y v u Q I rx ry h
  obtain ⟨l, b, xs, zs, rfl, rfl, hH, hB, hz, q⟩ := h
  cases rx
  cases ry
  obtain ⟨z, its, n, r, hl, e⟩ := I.lstM hH
  obtain ⟨z2, its2, n2, r2, hl2, e2⟩ := I.lstM hB
  refine PySem.P.add_list e e2 ?_ (by rw [List.size_toArray, List.size_toArray]; omega)
  have ea : its.toArray ++ its2.toArray = (its ++ its2).toArray := by simp
  rw [ea]
  exact ⟨.ref _, _, I.lnew (t' := s.toks) (r.append r2) (by rw [List.length_append]; omega), rfl, q _ I.fresh⟩
def rRep : R2 := fun x y H Q => ∃ l k xs, x = .ref l ∧ y = .int k ∧ H l = some (.lst xs) ∧ -(2 ^ 63) ≤ k ∧ k < 2 ^ 63 ∧ xs.length * k.toNat ≤ sizeLine ∧
  ∀ p, H p = none → Q (.ref p) (upd H p (.lst (List.replicate k.toNat xs).flatten))
/-! ### del xs[i] -/
end
/-! ### xs[a:b] = ys -/
section
variable {prog : Program} {w : World} {A : Around} {E : Value → Shared → Prop} {s : Shared}
set_option maxRecDepth 100000 in
end
section
variable {X : Cx}
end
end L2
namespace L2
open PySem PySem.Spec PyProof.Rows
/-! ### lists of pairs as tables -/
section
variable {κ : Type} [DecidableEq κ]
def valV (kvs : List (κ × V)) (k : κ) : Option V := (kvs.find? fun kv => decide (kv.1 = k)).map (·.2)
def putK (kvs : List (κ × V)) (k : κ) (v : V) : List (κ × V) :=
  if (kvs.any fun kv => decide (kv.1 = k)) = true then kvs.map (fun kv => if kv.1 = k then (kv.1, v) else kv) else kvs ++ [(k, v)]
def dropK (kvs : List (κ × V)) (k : κ) : List (κ × V) := kvs.filter fun kv => decide (kv.1 ≠ k)
theorem valV_nil {k : κ} : valV ([] : List (κ × V)) k = none := rfl
theorem valV_pos {p : κ × V} {r : List (κ × V)} {k : κ} (e : p.1 = k) : valV (p :: r) k = some p.2 := by simp [valV, List.find?_cons, e]
theorem valV_neg {p : κ × V} {r : List (κ × V)} {k : κ} (e : ¬ p.1 = k) : valV (p :: r) k = valV r k := by simp [valV, List.find?_cons, e]
theorem valV_any (k : κ) : ∀ kvs : List (κ × V), (kvs.any fun kv => decide (kv.1 = k)) = (valV kvs k).isSome
  | [] => rfl
  | p :: r => by
    rw [List.any_cons]
    by_cases e : p.1 = k
    · simp only [valV_pos e, decide_eq_true e, Bool.true_or, Option.isSome_some]
    · rw [valV_neg e, decide_eq_false e, Bool.false_or]; exact valV_any k r
theorem valV_map (k j : κ) (y : V) : ∀ kvs : List (κ × V), valV (kvs.map fun kv => if kv.1 = k then (kv.1, y) else kv) j = (valV kvs j).map fun x => if j = k then y else x
  | [] => rfl
  | p :: r => by
    have ih := valV_map k j y r
    rw [List.map_cons]
    by_cases h : p.1 = k
    · rw [if_pos h]
      by_cases e : p.1 = j
      · rw [valV_pos (p := (p.1, y)) e, valV_pos e, Option.map_some, if_pos (e.symm.trans h)]
      · rw [valV_neg (p := (p.1, y)) e, valV_neg e, ih]
    · rw [if_neg h]
      by_cases e : p.1 = j
      · rw [valV_pos (p := p) e, valV_pos e, Option.map_some, if_neg (fun z => h (e.trans z))]
      · rw [valV_neg (p := p) e, valV_neg e, ih]
theorem valV_snoc (k j : κ) (y : V) : ∀ kvs : List (κ × V), valV kvs k = none → valV (kvs ++ [(k, y)]) j = if j = k then some y else valV kvs j
  | [], _ => by
    by_cases e : k = j
    · rw [if_pos e.symm]; exact valV_pos (p := (k, y)) e
    · rw [if_neg (fun z => e z.symm)]; exact valV_neg (p := (k, y)) e
  | p :: r, hn => by
    rw [List.cons_append]
    have hk : ¬ p.1 = k := fun z => by rw [valV_pos z] at hn; cases hn
    rw [valV_neg hk] at hn
    have ih := valV_snoc k j y r hn
    by_cases e : p.1 = j
    · rw [valV_pos e, valV_pos e, if_neg (fun z => hk (e.trans z))]
    · rw [valV_neg e, valV_neg e, ih]
theorem valV_put (kvs : List (κ × V)) (k j : κ) (y : V) : valV (putK kvs k y) j = if j = k then some y else valV kvs j := by
  unfold putK
  by_cases a : (kvs.any fun kv => decide (kv.1 = k)) = true
  · rw [if_pos a, valV_map]
    rw [valV_any] at a
    by_cases e : j = k
    · obtain ⟨x, hx⟩ := Option.isSome_iff_exists.mp a
      rw [if_pos e, e, hx, Option.map_some, if_pos rfl]
    · rw [if_neg e]
      cases valV kvs j with
      | none => rfl
      | some x => rw [Option.map_some, if_neg e]
  · rw [if_neg a]
    refine valV_snoc k j y kvs ?_
    rw [valV_any] at a
    cases q : valV kvs k with
    | none => rfl
    | some x => rw [q] at a; exact (a rfl).elim
theorem length_putK (kvs : List (κ × V)) (k : κ) (v : V) : (putK kvs k v).length ≤ kvs.length + 1 := by
  unfold putK
  split
  · rw [List.length_map]; omega
  · rw [List.length_append, List.length_cons, List.length_nil]; omega
theorem RelO.isSome_eq {o : Option V} {u : Option Value} (r : RelO o u) : o.isSome = u.isSome := by
  cases o with
  | none => cases u with
    | none => rfl
    | some _ => exact (show False from r).elim
  | some _ => cases u with
    | none => exact (show False from r).elim
    | some _ => rfl
theorem RelO.getD {o : Option V} {u : Option Value} {d : V} {d' : Value} (r : RelO o u) (rd : RelV d d') : RelV (o.getD d) (u.getD d') := by
  cases o with
  | none => cases u with
    | none => exact rd
    | some _ => exact (show False from r).elim
  | some _ => cases u with
    | none => exact (show False from r).elim
    | some _ => exact r
theorem KV.val {kvs : List (κ × V)} {vs : List (κ × Value)} (r : KV kvs vs) (k : κ) : RelO (valV kvs k) (valueAt vs k) := by
  unfold KV at r
  induction r with
  | nil => exact True.intro
  | @cons p q ps qs h t ih =>
    obtain ⟨h1, h2⟩ := h
    by_cases e : p.1 = k
    · have e' : q.1 = k := h1.symm.trans e
      have b : valueAt (q :: qs) k = some q.2 := by simp [valueAt, List.find?_cons, e']
      rw [valV_pos e, b]; exact h2
    · have e' : ¬ q.1 = k := fun z => e (h1.trans z)
      have b : valueAt (q :: qs) k = valueAt qs k := by simp [valueAt, List.find?_cons, e']
      rw [valV_neg e, b]; exact ih
theorem KV.any {kvs : List (κ × V)} {vs : List (κ × Value)} (r : KV kvs vs) (k : κ) : (kvs.any fun kv => decide (kv.1 = k)) = vs.any fun kv => decide (kv.1 = k) := by
  unfold KV at r
  induction r with
  | nil => rfl
  | cons h t ih => rw [List.any_cons, List.any_cons, ih, h.1]
theorem KV.repl {kvs : List (κ × V)} {vs : List (κ × Value)} (r : KV kvs vs) (k : κ) {y : V} {u : Value} (ry : RelV y u) :
    KV (kvs.map fun kv => if kv.1 = k then (kv.1, y) else kv) (vs.map fun kv => if kv.1 = k then (kv.1, u) else kv) := by
  unfold KV at r ⊢
  induction r with
  | nil => exact .nil
  | @cons p q ps qs h t ih =>
    rw [List.map_cons, List.map_cons]
    refine .cons ?_ ih
    obtain ⟨h1, h2⟩ := h
    by_cases e : p.1 = k
    · rw [if_pos e, if_pos (h1.symm.trans e)]; exact ⟨h1, ry⟩
    · rw [if_neg e, if_neg (fun z => e (h1.trans z))]; exact ⟨h1, h2⟩
theorem KV.put {kvs : List (κ × V)} {vs : List (κ × Value)} (r : KV kvs vs) (k : κ) {y : V} {u : Value} (ry : RelV y u) : KV (putK kvs k y) (stored vs k u) := by
  unfold putK stored
  rw [r.any k]
  by_cases e : (vs.any fun kv => decide (kv.1 = k)) = true
  · rw [if_pos e, if_pos e]; exact r.repl k ry
  · rw [if_neg e, if_neg e]; exact Paired.snoc r ⟨rfl, ry⟩
theorem KV.drop {kvs : List (κ × V)} {vs : List (κ × Value)} (r : KV kvs vs) (k : κ) : KV (dropK kvs k) (without vs k) := by
  unfold KV at r ⊢
  unfold dropK without
  induction r with
  | nil => exact .nil
  | @cons p q ps qs h t ih =>
    obtain ⟨h1, h2⟩ := h
    rw [List.filter_cons, List.filter_cons]
    by_cases e : p.1 = k
    · have a : ¬ decide (p.1 ≠ k) = true := by simp [e]
      have b : ¬ decide (q.1 ≠ k) = true := by simp [h1.symm.trans e]
      rw [if_neg a, if_neg b]; exact ih
    · have e' : ¬ q.1 = k := fun z => e (h1.trans z)
      have a : decide (p.1 ≠ k) = true := by simp [e]
      have b : decide (q.1 ≠ k) = true := by simp [e']
      rw [if_pos a, if_pos b]; exact .cons ⟨h1, h2⟩ ih
theorem KV.keys {kvs : List (κ × V)} {vs : List (κ × Value)} (r : KV kvs vs) : kvs.map (·.1) = vs.map (·.1) := by
  unfold KV at r
  induction r with
  | nil => rfl
  | cons h t ih => rw [List.map_cons, List.map_cons, ih, h.1]
theorem KV.length {kvs : List (κ × V)} {vs : List (κ × Value)} (r : KV kvs vs) : kvs.length = vs.length := Paired.length r
end
/-! ### a tracked dict, its keys ints and texts or tuples of these -/
theorem kV_is {P : Program} {w : World} {k : Key} {u : Value} (r : RelV (kV k) u) : (mixKind P w).is k u = true := by
  cases k with
  | inl i => obtain ⟨t, e⟩ := (show ∃ t, u = Value.int i t from r); subst e; exact mixKind_int P w i t
  | inr x => obtain ⟨t, e⟩ := (show ∃ t, u = Value.str x t from r); subst e; exact mixKind_str P w x t
theorem items_are {P : Program} {w : World} : ∀ {ks : List Key} {us : List Value}, Vals (ks.map kV) us → ItemsAre (mixKind P w) ks us
  | [], _, r => by rw [List.map_nil] at r; cases r; exact .nil
  | k :: ks, _, r => by
    rw [List.map_cons] at r
    cases r with
    | cons h t => exact .cons (kV_is h) (items_are t)
abbrev KT (H : Hp) : List (List Key × V) → List (List Key × Addr × Value) → Prop := Paired fun p q => p.1 = q.1 ∧ H q.2.1 = some (.tup (p.1.map kV)) ∧ RelV p.2 q.2.2
theorem KT.val {H : Hp} {kvs : List (List Key × V)} {xs : List (List Key × Addr × Value)} (r : KT H kvs xs) (k : List Key) : RelO (valV kvs k) ((atKey xs k).map (·.2)) := by
  induction r with
  | nil => exact True.intro
  | @cons p q ps qs h t ih =>
    obtain ⟨h1, _, h2⟩ := h
    by_cases e : p.1 = k
    · have e' : q.1 = k := h1.symm.trans e
      have b : atKey (q :: qs) k = some q.2 := by simp [atKey, List.find?_cons, e']
      rw [valV_pos e, b]; exact h2
    · have e' : ¬ q.1 = k := fun z => e (h1.trans z)
      have b : atKey (q :: qs) k = atKey qs k := by simp [atKey, List.find?_cons, e']
      rw [valV_neg e, b]; exact ih
theorem KT.repl {H : Hp} {kvs : List (List Key × V)} {xs : List (List Key × Addr × Value)} (r : KT H kvs xs) (k : List Key) {y : V} {u : Value} (ry : RelV y u) :
    KT H (kvs.map fun kv => if kv.1 = k then (kv.1, y) else kv) (xs.map (putAt k u)) := by
  induction r with
  | nil => exact .nil
  | @cons p q ps qs h t ih =>
    rw [List.map_cons, List.map_cons]
    refine .cons ?_ ih
    obtain ⟨h1, h2, h3⟩ := h
    unfold putAt
    by_cases e : p.1 = k
    · rw [if_pos e, if_pos (h1.symm.trans e)]; exact ⟨h1, h2, ry⟩
    · rw [if_neg e, if_neg (fun z => e (h1.trans z))]; exact ⟨h1, h2, h3⟩
theorem KT.put {H : Hp} {kvs : List (List Key × V)} {xs : List (List Key × Addr × Value)} (r : KT H kvs xs) (k : List Key) {b : Addr} {y : V} {u : Value} (hb : H b = some (.tup (k.map kV))) (ry : RelV y u) :
    KT H (putK kvs k y) (storedH xs k b u) := by
  have e : (kvs.any fun kv => decide (kv.1 = k)) = (atKey xs k).isSome := by
    rw [valV_any, (r.val k).isSome_eq, Option.isSome_map]
  unfold putK storedH
  rw [e]
  by_cases q : (atKey xs k).isSome = true
  · rw [if_pos q, if_pos q]; exact r.repl k ry
  · rw [if_neg q, if_neg q]; exact Paired.snoc r ⟨rfl, hb, ry⟩
theorem KT.keeps {H H' : Hp} {kvs : List (List Key × V)} {xs : List (List Key × Addr × Value)} (r : KT H kvs xs) (ht : ∀ b ys, H b = some (.tup ys) → H' b = some (.tup ys)) : KT H' kvs xs :=
  Paired.mapP r fun _ _ z => ⟨z.1, ht _ _ z.2.1, z.2.2⟩
section
variable {P : Program} {w : World} {H : Hp} {h : Heap} {a : Addr}
theorem rd_of {u : HO} (ok : HOk P w H h) (e : Rd H a u) : ObjOk P w H h a u := e.ok ok
theorem dk_rd {kvs : List (Key × V)} (ok : HOk P w H h) (e : Rd H a (.dK kvs)) : kvs.length ≤ sizeLine ∧ (a == sysModules) = false ∧ ∃ vs, KV kvs vs ∧ h.DictOf (mixKind P w) a vs :=
  show ObjOk P w H h a (.dK kvs) from rd_of ok e
theorem dk_of {kvs : List (Key × V)} (ok : HOk P w H h) (e : H a = some (.dK kvs)) : kvs.length ≤ sizeLine ∧ (a == sysModules) = false ∧ ∃ vs, KV kvs vs ∧ h.DictOf (mixKind P w) a vs := dk_rd ok (.inl e)
theorem key_of {ks : List Key} (ok : HOk P w H h) (e : H a = some (.tup (ks.map kV))) : (tupleKind (mixKind P w)).is h ks a := by
  obtain ⟨_, its, r, o, h1, h2, n, h3⟩ := (show ObjOk P w H h a (.tup (ks.map kV)) from ok a _ e)
  exact ⟨o, its.toArray, n, h1, h2, h3, by simpa using items_are r⟩
theorem dt_rd {kvs : List (List Key × V)} (ok : HOk P w H h) (e : Rd H a (.dT kvs)) : kvs.length ≤ sizeLine ∧ (a == sysModules) = false ∧
    ∃ xs, KT H kvs xs ∧ h.DictOfH (tupleKind (mixKind P w)) a xs := by
  obtain ⟨z, y, xs, r, o, es, ep, h1, h2, h3, h4, h5⟩ := (show ObjOk P w H h a (.dT kvs) from rd_of ok e)
  refine ⟨z, y, xs, r, o, es, ep, h1, h2, h3, h4, fun x hx => ?_, h5⟩
  have all : ∀ {l : List (List Key × V)} {m : List (List Key × Addr × Value)}, KT H l m → ∀ x ∈ m, (tupleKind (mixKind P w)).is h x.1 x.2.1 := by
    intro l m q
    induction q with
    | nil => intro x hx; exact nomatch hx
    | @cons p q ps qs hq t ih =>
      intro x hx
      rcases List.mem_cons.mp hx with e | hx
      · subst e
        exact key_of ok (by rw [← hq.1]; exact hq.2.1)
      · exact ih x hx
  exact all r x hx
theorem dt_of {kvs : List (List Key × V)} (ok : HOk P w H h) (e : H a = some (.dT kvs)) : kvs.length ≤ sizeLine ∧ (a == sysModules) = false ∧
    ∃ xs, KT H kvs xs ∧ h.DictOfH (tupleKind (mixKind P w)) a xs := dt_rd ok (.inl e)
end
def DGet (H : Hp) (a : Addr) (y : V) (r : Option V) : Prop :=
  (∃ kvs k, Rd H a (.dK kvs) ∧ y = kV k ∧ r = valV kvs k) ∨ ∃ kvs k b, Rd H a (.dT kvs) ∧ y = .ref b ∧ H b = some (.tup (k.map kV)) ∧ r = valV kvs k
def DPut (H : Hp) (a : Addr) (y v : V) (H' : Hp) : Prop :=
  (∃ kvs k, H a = some (.dK kvs) ∧ y = kV k ∧ kvs.length < sizeLine ∧ H' = upd H a (.dK (putK kvs k v))) ∨
  ∃ kvs k b, H a = some (.dT kvs) ∧ y = .ref b ∧ H b = some (.tup (k.map kV)) ∧ kvs.length < sizeLine ∧ H' = upd H a (.dT (putK kvs k v))
theorem DGet.k {H : Hp} {a : Addr} {kvs : List (Key × V)} {k : Key} (e : H a = some (.dK kvs)) : DGet H a (kV k) (valV kvs k) := .inl ⟨kvs, k, .inl e, rfl, rfl⟩
theorem DGet.t {H : Hp} {a b : Addr} {kvs : List (List Key × V)} {k : List Key} (e : H a = some (.dT kvs)) (eb : H b = some (.tup (k.map kV))) : DGet H a (.ref b) (valV kvs k) := .inr ⟨kvs, k, b, .inl e, rfl, eb, rfl⟩
theorem DPut.k {H : Hp} {a : Addr} {kvs : List (Key × V)} {k : Key} {v : V} (e : H a = some (.dK kvs)) (hl : kvs.length < sizeLine) : DPut H a (kV k) v (upd H a (.dK (putK kvs k v))) := .inl ⟨kvs, k, e, rfl, hl, rfl⟩
theorem DPut.t {H : Hp} {a b : Addr} {kvs : List (List Key × V)} {k : List Key} {v : V} (e : H a = some (.dT kvs)) (eb : H b = some (.tup (k.map kV))) (hl : kvs.length < sizeLine) :
    DPut H a (.ref b) v (upd H a (.dT (putK kvs k v))) := .inr ⟨kvs, k, b, e, rfl, eb, hl, rfl⟩
section
variable {X : Cx} {pins : List (Addr × Obj)} {σ : St} {H : Hp} {s : Shared} {a : Addr} {y v : V} {u r : Value} {o : Option V} {A : Around} {E : Value → Shared → Prop}
theorem Inv.big (I : Inv X pins σ H s) : sysModules < s.heap.objs.size := by
  have h : mainGlobals < s.heap.objs.size := (I.mod.glob.keeps I.bk).lt
  exact Nat.lt_trans (by decide) h
theorem d_in {Q : Value → Shared → Prop} (hu : A.units + 1 < cLine) (I : Inv X pins σ H s) (g : DGet H a y o) (ry : RelV y u) (h : ∀ s', Inv X pins σ H s' → Q (.bool o.isSome) s') :
    wpAny (model X.prog X.w) A (compareOp .In u (.ref a)) Q E s := by
  rcases g with ⟨kvs, k, e, ey, l⟩ | ⟨kvs, k, b, e, ey, eb, l⟩
  · subst ey
    obtain ⟨z, hd, vs, rel, dd⟩ := dk_rd I.hok e
    refine wpAny_in_of (kV_is ry) hd dd.mapOf ?_
    rw [← (rel.val k).isSome_eq, ← l]
    exact h _ (I.tok _)
  · subst ey
    cases (show u = Value.ref b from ry)
    obtain ⟨z, hd, xs, rel, dd⟩ := dt_rd I.hok e
    refine wpAny_in_heap (tupleKind_room_in1 hu) (key_of I.hok eb) hd dd ?_
    have q := (rel.val k).isSome_eq
    rw [Option.isSome_map] at q
    rw [← q, ← l]
    exact h _ (I.tok _)
theorem d_write {h' : Heap} {t' : Nat} {ob : HO} (I : Inv X pins σ H s) (mu : Mut (H a)) (hs : Heap.SameBut a s.heap h') (he : ∃ q, h'.get? a = some q) (new : ObjOk X.prog X.w (upd H a ob) h' a ob) :
    Inv X pins σ (upd H a ob) { s with heap := h', toks := t' } :=
  I.write (x := a) (e := a) mu (.inl rfl) (fun b q hb z => (hs.2 b hb).trans z) he new
theorem dk_new {P : Program} {w : World} {H' : Hp} {h' : Heap} {kvs : List (Key × V)} {vs : List (Key × Value)} (z : kvs.length ≤ sizeLine) (hd : (a == sysModules) = false) (rel : KV kvs vs) (dd : h'.DictOf (mixKind P w) a vs) :
    ObjOk P w H' h' a (.dK kvs) := ⟨z, hd, vs, rel, dd⟩
theorem d_setItem {H' : Hp} {Q : Unit → Shared → Prop} (hu : A.units + 1 < cLine) (I : Inv X pins σ H s) (g : DPut H a y v H') (ry : RelV y u) (rv : RelV v r) (h : ∀ s', Inv X pins σ H' s' → Q () s') :
    wpAny (model X.prog X.w) A (setItem (.ref a) u r) Q E s := by
  rcases g with ⟨kvs, k, e, ey, l, eH⟩ | ⟨kvs, k, b, e, ey, eb, l, eH⟩
  · subst ey eH
    obtain ⟨z, hd, vs, rel, dd⟩ := dk_of I.hok e
    have hz : vs.length ≤ sizeLine := by rw [← rel.length]; exact z
    have hl : (putK kvs k v).length ≤ sizeLine := by have := length_putK kvs k v; omega
    refine wpAny_setItem_pairs (hsz := hz) (kV_is ry) dd fun h' dd' hs => h _ ?_
    have he : ∃ q, h'.get? a = some q := let ⟨q, _, _, hq, _⟩ := dd'; ⟨q, hq⟩
    exact d_write I (by rw [e]; exact True.intro) hs he (dk_new hl hd (rel.put k rv) dd')
  · subst ey eH
    cases (show u = Value.ref b from ry)
    obtain ⟨z, hd, xs, rel, dd⟩ := dt_of I.hok e
    have hz : xs.length ≤ sizeLine := by rw [← Paired.length rel]; exact z
    have hl : (putK kvs k v).length ≤ sizeLine := by have := length_putK kvs k v; omega
    refine wpAny_setItem_heap (hsz := hz) (tupleKind_room_in1 hu) (key_of I.hok eb) dd fun h' dd' hs => h _ ?_
    obtain ⟨q, es, ep, hq, h2, h3, h4, _, h5⟩ := dd'
    refine d_write I (by rw [e]; exact True.intro) hs ⟨q, hq⟩ ⟨hl, hd, _, (rel.put k eb rv).keeps fun c ys ec => ?_, q, es, ep, hq, h2, h3, h4, h5⟩
    rw [upd_ne (ne_of ec e (fun z => nomatch z))]
    exact ec
end
section
variable {X : Cx} {pins : List (Addr × Obj)} {σ : St} {H : Hp} {s : Shared} {a : Addr} {kvs : List (Key × V)} {k : Key} {u : Value} {A : Around} {E : Value → Shared → Prop}
end
/-! ### readings and rules -/
def NoSl (i : Expr) : Prop := ∀ ov iv, subscripted i false ov iv = operate [ov, iv] (getItem ov iv)
def tDGet (td ty : TE) : TE := fun σ H Q => td σ H fun x H1 => ty σ H1 fun y H2 => ∃ a v, x = .ref a ∧ DGet H2 a y (some v) ∧ Q v H2
def tDIn (ty td : TE) : TE := fun σ H Q => ty σ H fun y H1 => td σ H1 fun x H2 => ∃ a o, x = .ref a ∧ DGet H2 a y o ∧ Q (.bl o.isSome) H2
def tDNotIn (ty td : TE) : TE := fun σ H Q => ty σ H fun y H1 => td σ H1 fun x H2 => ∃ a o, x = .ref a ∧ DGet H2 a y o ∧ Q (.bl (!o.isSome)) H2
def sDPut (td ty tv : TE) : TS := fun D σ H => tv σ H fun v H1 => td σ H1 fun x H2 => ty σ H2 fun y H3 => ∃ a H4, x = .ref a ∧ DPut H3 a y v H4 ∧ D.nx σ H4
def sDAug (td ty tv : TE) (rd : V → V → Hp → VK → Prop) : TS := fun D σ H => td σ H fun x H1 => ty σ H1 fun y H2 => ∃ a v, x = .ref a ∧ DGet H2 a y (some v) ∧
  tv σ H2 fun y2 H3 => rd v y2 H3 fun z H4 => ∃ H5, DPut H4 a y z H5 ∧ D.nx σ H5
def sDDel (td ty : TE) : TS := fun D σ H => td σ H fun x H1 => ty σ H1 fun y H2 => ∃ a kvs k, x = .ref a ∧ H2 a = some (.dK kvs) ∧ y = kV k ∧ (valV kvs k).isSome = true ∧ D.nx σ (upd H2 a (.dK (dropK kvs k)))
section
variable {X : Cx} {o i e value : Expr} {pos pos' tpos : Pos} {td ty tv : TE}
theorem pc_din (hu : X.A.units + 1 < cLine) (hi : PE X i ty) (ho : PE X o td) : PC X .In i o (tDIn ty td) := by
  intro pins s σ H Q I h
  refine thn (hi pins s σ H _ I h) fun iv s1 ⟨y, H1, I1, ry, q1⟩ => thn (ho pins s1 σ H1 _ I1 q1) fun u s2 ⟨x, H2, I2, rx, a, ov, ex, g, q2⟩ => ?_
  subst ex
  obtain rfl : u = Value.ref a := rx
  exact d_in hu I2 g ry fun s3 I3 => ⟨.bl ov.isSome, H2, I3, rfl, q2⟩
theorem ps_dput (hu : X.A.units + 1 < cLine) (ho : PE X o td) (hi : PE X i ty) (hv : PE X value tv) (hs : swapsWith value (some (.Subscript o i pos')) pos.line X.env = pure false) :
    PS X (.Assign [.Subscript o i pos'] value pos) (sDPut td ty tv) := by
  intro pins s σ H D I h
  refine wpAny_Assign_Subscript (thn (hv pins s σ H _ I h) fun r s1 ⟨v, H1, I1, rv, q1⟩ => thn (ho pins s1 σ H1 _ I1 q1) fun u s2 ⟨x, H2, I2, rx, q2⟩ => thn (hi pins s2 σ H2 _ I2 q2) fun iv s3 ⟨y, H3, I3, ry, a, H4, ex, g, q3⟩ => ?_) hs
  subst ex
  obtain rfl : u = Value.ref a := rx
  exact d_setItem hu I3 g ry rv fun s4 I4 => ⟨σ, H4, I4, q3⟩
end
/-! ### displays -/
theorem dk_empty {P : Program} {w : World} {H : Hp} (h : Heap) (hb : sysModules < h.objs.size) : ObjOk P w H (h.push { cls := .type "dict", data := .dict #[] }) h.objs.size (.dK []) :=
  ⟨Nat.zero_le _, beq_eq_false_iff_ne.mpr (Ne.symm (Nat.ne_of_lt hb)), [], .nil, Heap.DictOf.new h⟩
def tDNewK : TE := fun _ H Q => ∀ p, H p = none → Q (.ref p) (upd H p (.dK []))
def tDNewT : TE := fun _ H Q => ∀ p, H p = none → Q (.ref p) (upd H p (.dT []))
section
variable {X : Cx} {pos : Pos}
theorem pe_dnewK : PE X (.Dict [] [] pos) tDNewK := fun pins s σ H Q I h =>
  wpAny_Dict_empty ⟨.ref s.heap.objs.size, _, I.laid (a := s.heap.objs.size) (o := .dK []) (t' := s.toks) (fun _ _ q => Heap.get?_push_of_some _ q) (Nat.le_refl _) (dk_empty s.heap I.big), rfl, h _ (I.hok.fresh (Nat.le_refl _))⟩
end
def tPairs : List (TE × TE) → St → Hp → (List (V × V) → Hp → Prop) → Prop
  | [], _, H, Q => Q [] H
  | (tk, tv) :: r, σ, H, Q => tk σ H fun x H1 => tv σ H1 fun y H2 => tPairs r σ H2 fun ps H3 => Q ((x, y) :: ps) H3
abbrev VV : List (V × V) → List (Value × Value) → Prop := Paired fun p q => RelV p.1 q.1 ∧ RelV p.2 q.2
def PPs (X : Cx) (pos : Pos) (keys : List (Option Expr)) (values : List Expr) (trs : List (TE × TE)) : Prop :=
  ∀ (pins : List (Addr × Obj)) (s : Shared) (σ : St) (H : Hp) (Q : List (V × V) → Hp → Prop), Inv X pins σ H s → tPairs trs σ H Q →
    wpAny (model X.prog X.w) X.A (evalPairs (pairTrees keys values X.env pos)) (fun vs s' => ∃ ps H', Inv X pins σ H' s' ∧ VV ps vs ∧ Q ps H') X.xe s
def mergeK (kvs more : List (Key × V)) : List (Key × V) := more.foldl (fun acc kv => putK acc kv.1 kv.2) kvs
def tDisp (trs : List (TE × TE)) : TE := fun σ H Q => ∀ p, H p = none → tPairs trs σ (upd H p (.dK [])) fun ps H2 => H2 p = some (.dK []) ∧ ∃ kvs : List (Key × V), ps = kvs.map (fun kv => (kV kv.1, kv.2)) ∧ kvs.length ≤ 15 ∧ Q (.ref p) (upd H2 p (.dK (mergeK [] kvs)))
/-! ### methods -/
structure M1 (X : Cx) (o : Expr) (m : Str) (apos : Pos) (e : Expr) (cpos : Pos) : Prop where
  base : attributeBase o m X.env (eval o X.env) = eval o X.env
  few : ((backTo cpos (starEach [e] X.env)).all (fun x => !x.1) && (backToKw cpos (keywordEach [] X.env)).all (fun x => x.1.isSome)
    && decide (([e] : List Expr).length + ([] : List Keyword).length + (if ([] : List Keyword).isEmpty then 0 else 1) < 30)) = true
  line : (apos.endLine == cpos.line) = true
  trees : backTo cpos (starEach [e] X.env) = [(false, eval e X.env)]
structure M2 (X : Cx) (o : Expr) (m : Str) (apos : Pos) (e f : Expr) (cpos : Pos) : Prop where
  base : attributeBase o m X.env (eval o X.env) = eval o X.env
  few : ((backTo cpos (starEach [e, f] X.env)).all (fun x => !x.1) && (backToKw cpos (keywordEach [] X.env)).all (fun x => x.1.isSome)
    && decide (([e, f] : List Expr).length + ([] : List Keyword).length + (if ([] : List Keyword).isEmpty then 0 else 1) < 30)) = true
  line : (apos.endLine == cpos.line) = true
  trees : backTo cpos (starEach [e, f] X.env) = [(false, eval e X.env), (false, eval f X.env)]
def IsD (H : Hp) (a : Addr) : Prop := (∃ kvs, Rd H a (.dK kvs)) ∨ ∃ kvs, Rd H a (.dT kvs)
section
variable {X : Cx} {pins : List (Addr × Obj)} {σ : St} {H : Hp} {s : Shared} {a : Addr} {y d : V} {u r : Value} {o : Option V} {A : Around} {E : Value → Shared → Prop}
end
def tDGet1 (td ty : TE) : TE := fun σ H Q => td σ H fun x H1 => ∃ a, x = .ref a ∧ IsD H1 a ∧ ty σ H1 fun y H2 => ∃ o, DGet H2 a y o ∧ Q (o.getD .non) H2
def tDGet2 (td ty tx : TE) : TE := fun σ H Q => td σ H fun x H1 => ∃ a, x = .ref a ∧ IsD H1 a ∧ ty σ H1 fun y H2 => tx σ H2 fun z H3 => ∃ o, DGet H3 a y o ∧ Q (o.getD z) H3
def tDPop1 (td ty : TE) : TE := fun σ H Q => td σ H fun x H1 => ∃ a, x = .ref a ∧ IsD H1 a ∧ ty σ H1 fun y H2 => ∃ kvs k v, H2 a = some (.dK kvs) ∧ y = kV k ∧ valV kvs k = some v ∧ Q v (upd H2 a (.dK (dropK kvs k)))
def tDPop2 (td ty tx : TE) : TE := fun σ H Q => td σ H fun x H1 => ∃ a, x = .ref a ∧ IsD H1 a ∧ ty σ H1 fun y H2 => tx σ H2 fun z H3 => ∃ kvs k, H3 a = some (.dK kvs) ∧ y = kV k ∧
  (∀ v, valV kvs k = some v → Q v (upd H3 a (.dK (dropK kvs k)))) ∧ (valV kvs k = none → Q z H3)
section
variable {X : Cx} {o e f : Expr} {apos cpos : Pos} {td ty tx : TE}
end
/-! ### dict(d): a copy -/
section
variable {X : Cx} {pins : List (Addr × Obj)} {σ : St} {H : Hp} {s : Shared} {a : Addr} {kvs : List (Key × V)} {A : Around} {E : Value → Shared → Prop}
end
section
variable {X : Cx} {pins : List (Addr × Obj)} {σ : St} {H : Hp} {s : Shared} {a : Addr} {y : V} {u : Value} {A : Around} {E : Value → Shared → Prop}
end
end L2
namespace Att
open PySem PySem.W PySem.Calls PyProof.Rows
/-! ### the script -/
theorem ints_of_wellAll {P : Params} {h : Heap} : ∀ (ns : List Int) (vs : List Value), WellAll P h vs (ns.map WData.int) → IntsAre vs ns := by
  intro ns
  induction ns with
  | nil =>
    intro vs w
    rw [List.map_nil] at w
    cases w
    exact .nil
  | cons n ns ih =>
    intro vs w
    rw [List.map_cons] at w
    cases w with
    | cons a b =>
      cases a
      exact .cons _ _ (ih _ b)
theorem script_of {l : OpenLaw} {n : Nat} (hn : l.most = some n) {P : Params} {h : Heap} {args : List WData} {vals : List Value}
    (hpre : l.row.toRowW.claim.pre args = true) (hwl : WellAll P h vals args) :
    ∃ a vs ns, vals = [Value.ref a] ∧ args = [WData.list (ns.map WData.int)] ∧ h.get? a = some { cls := .type "list", data := .seq vs.toArray } ∧ IntsAre vs ns ∧ ns.length ≤ n := by
  have hsh : WShape.hasAll [] args [.list .int] = true := (pre_splitW hpre).1
  have hc : l.pre.holds [] { args := args } = true := (pre_splitW hpre).2
  obtain ⟨d, r, rfl, h1, h2⟩ := hasAllW_cons hsh
  obtain rfl := hasAllW_nil h2
  obtain ⟨xs, rfl, h3⟩ := hasW_list h1
  obtain ⟨ns, rfl⟩ := items_int h3
  have hlen : ns.length ≤ n := by
    unfold OpenLaw.pre at hc
    have h4 : (WTm.not (.lt (.lit (.int (n : Int))) (.len (.arg 0)))).holds [] { args := [.list (ns.map .int)] } = true := by
      have h4 := (holds_andW hc).1
      rw [hn] at h4
      exact h4
    have h5 := condW_of h4 (w_not (w_lt w_lit (w_len_list (w_arg rfl))))
    rw [List.length_map] at h5
    refine Nat.le_of_not_lt fun q => ?_
    have q' : (n : Int) < ((ns.length : Nat) : Int) := by omega
    first
      | (rw [decide_eq_true q'] at h5; exact absurd h5 (by decide))
      | (simp at h5; omega)
  cases hwl with
  | cons w1 w2 =>
    cases w2
    cases w1 with
    | list ho hall => exact ⟨_, _, ns, rfl, rfl, ho, ints_of_wellAll ns _ hall, hlen⟩
theorem post_true (l : OpenLaw) (args : List WData) : l.row.toRowW.claim.post args (.bool true) args = true :=
  postW_of (r := l.row.toRowW) (X := (true == true))
    (show WShape.has [] (.bool true) .bool = true by first | rfl | decide | simp [WShape.has, WShape.arms, WShape.armsAll])
    (show (WTm.eq .res (.lit (.bool true))).value [] { args := args, res := some (.bool true), after := args } = some (.bool (true == true)) from w_eq_bool (w_res rfl) w_lit) rfl
/-! ### the attachment: holds_open's last premise (the goal 'hc' behind k_head) from a wpAny of the law's body -/
theorem attach {l : OpenLaw} {n : Nat} {q : Program} {loose : List Str} {XP : (Str → Option Value) → Heap → Prop} {YP : World → Heap → Prop} {d : DefRec} {x : Str}
    (hn : l.most = some n) (hdf : d.params.defaults = [])
    (hbind : ∀ pm cd doc v : Value, bindArgs (docDef d.name d.params d.body d.scope pm cd doc) ⟨[v], []⟩ = pure [(x, v)])
    (hx : d.scope.names.lookup x = some .local ∨ d.scope.names.lookup x = some .cell)
    (hk : d.scope.kind = .function) (hco : d.scope.isCoroutine = false) (hgen : d.scope.isGenerator = false)
    (body : ∀ (w : World) (s₀ s₁ s : Shared) (mg mb : Str → Option Value) (fa : Addr) (o : Obj) (pm cd doc : Value) (a : Addr) (vs : List Value) (ns : List Int),
      Ground q loose [] XP w s₀ mg mb s₁.heap → YP w s₁.heap →
      s₁.heap.get? fa = some o → o.data = .func (docDef d.name d.params d.body d.scope pm cd doc) → s₁.heap.CodeRec cd d.name → mg d.name = some (.ref fa) →
      s₁.heap.get? a = some { cls := .type "list", data := .seq vs.toArray } → IntsAre vs ns → ns.length ≤ n →
      s.gens = #[] → s.os = s₁.os →
      Fr s₁.heap s₁.heap.objs.size s.heap (bindL (envOfC d.name d.scope s₁.heap.objs.size fa cd).kindOf [(x, .ref a)] fun _ => none) →
      Cl s₁.heap.objs.size (cellsFrom (s₁.heap.objs.size + 1) d.scope.names []) s.heap (bindC (envOfC d.name d.scope s₁.heap.objs.size fa cd).kindOf [(x, .ref a)] fun _ => none) →
      wpAny (model l.prog w) (callerA.deeper (envOfC d.name d.scope s₁.heap.objs.size fa cd)) (execs d.body (envOfC d.name d.scope s₁.heap.objs.size fa cd))
        (fun f s' => f = .ret (.bool true) ∧ OldK s₁.heap s'.heap ∧ s'.os = s₁.os ∧ AllBare s'.gens) (fun _ _ => False) s) :
    WalkO q loose XP YP l.row.toRowW d [] (fun f vs => PySem.call f vs) := by
  intro w s₀ s₁ mg mb G Y fa o pm cd doc dV kV ho hd hcd hD hmg hg args vals as hpre hlay hrd hwl hlo
  obtain rfl : dV = .none := Dflts.none hD hdf
  obtain rfl : kV = .none := Dflts.noKw hD
  obtain ⟨a, vs, ns, rfl, rfl, hobj, hints, hlen⟩ := script_of hn hpre hwl
  refine enter_call ?_
  refine call_cells_ret (o := o) (by rw [depth_caller]; decide) ho (fd_plain hd) G.T.nolimit hcd (hbind pm cd doc (.ref a)) (fun y hy => ?_) (fun h₁ tk F X => ?_) hco hgen hk
  · obtain rfl : y = (x, Value.ref a) := List.mem_singleton.mp hy
    rcases hx with e | e
    · exact .inl e
    · exact .inr ⟨e, cellsFrom_some _ _ _ (.inl e)⟩
  · refine wpAny_mono (body w s₀ s₁ { s₁ with heap := h₁, toks := tk } mg mb fa o pm cd doc a vs ns G Y ho (fd_plain hd) hcd hmg hobj hints hlen hg rfl F X) (fun f s' hq => ?_) (fun _ _ hq => hq)
    obtain ⟨rfl, h2, h3, h4⟩ := hq
    exact ⟨.inl ⟨.bool true, .bool true, [], rfl, fun _ => rfl, .bool true, post_true l _, fun _ => ⟨List.Pairwise.nil, fun _ hm => (nomatch hm)⟩⟩, h2, h3, h4⟩
theorem attach_call {l : OpenLaw} {n : Nat} {q : Program} {loose : List Str} {XP : (Str → Option Value) → Heap → Prop} {YP : World → Heap → Prop} {d : DefRec}
    (hn : l.most = some n) (hdf : d.params.defaults = [])
    (call : ∀ (w : World) (s₀ s₁ : Shared) (mg mb : Str → Option Value) (fa : Addr) (o : Obj) (pm cd doc : Value) (a : Addr) (vs : List Value) (ns : List Int),
      Ground q loose [] XP w s₀ mg mb s₁.heap → YP w s₁.heap →
      s₁.heap.get? fa = some o → o.data = .func (docDef d.name d.params d.body d.scope pm cd doc) → s₁.heap.CodeRec cd d.name → mg d.name = some (.ref fa) →
      s₁.heap.get? a = some { cls := .type "list", data := .seq vs.toArray } → IntsAre vs ns → ns.length ≤ n → s₁.gens = #[] →
      codeAny (model l.prog w) callerA (.call (.ref fa) ⟨[.ref a], []⟩) (fun r s' => r = .ok (.ret (.bool true)) ∧ OldK s₁.heap s'.heap ∧ s'.os = s₁.os ∧ AllBare s'.gens) s₁) :
    WalkO q loose XP YP l.row.toRowW d [] (fun f vs => PySem.call f vs) := by
  intro w s₀ s₁ mg mb G Y fa o pm cd doc dV kV ho hd hcd hD hmg hg args vals as hpre hlay hrd hwl hlo
  obtain rfl : dV = .none := Dflts.none hD hdf
  obtain rfl : kV = .none := Dflts.noKw hD
  obtain ⟨a, vs, ns, rfl, rfl, hobj, hints, hlen⟩ := script_of hn hpre hwl
  refine enter_call (codeAny_mono (call w s₀ s₁ mg mb fa o pm cd doc a vs ns G Y ho (fd_plain hd) hcd hmg hobj hints hlen hg) fun r s' hq => ?_)
  obtain ⟨rfl, h2, h3, h4⟩ := hq
  exact ⟨.inl ⟨.bool true, .bool true, [], rfl, fun _ => rfl, .bool true, post_true l _, fun _ => ⟨List.Pairwise.nil, fun _ hm => (nomatch hm)⟩⟩, h2, h3, h4⟩
/-! ### rules over ANY heap (no ledger) from facts about the written part K: the library's own take a ledger (News) for what they write -/
section
variable {prog : Program} {w : World} {A : Around} {E : Value → Shared → Prop} {s : Shared} {K : Frag}
/-! the whole heap as the ledger: makes every rule that writes through a ledger a rule over any heap -/
def noObjs (h : Heap) : Heap := { h with objs := #[] }
def ledger (h : Heap) (L d : Addr) : List (Addr × Obj) := (List.range h.objs.size).filterMap fun a => if a = L ∨ a = d then none else (h.get? a).map fun o => (a, o)
end
end Att
namespace L2
open PySem PySem.Spec PyProof.Rows
theorem vals_ints : ∀ {vs : List Value} {ns : List Int}, IntsAre vs ns → Vals (ns.map V.int) vs
  | _, _, .nil => .nil
  | _, _, .cons n t h => .cons ⟨t, rfl⟩ (vals_ints h)
def Only (H : Hp) : Prop := ∀ b, H b = none ∨ ∃ o xs, H b = some (.frz o (.lst xs))
theorem law_call {P : Program} {w : World} {K : PySem.W.Frag} {mg mb : Str → Option Value} {CX : CXT} {k : Nat} {fa a : Addr} {fd : FuncData} {x : Str} {sp : Sp} {s₁ : Shared} {vs : List Value} {ns : List Int}
    (KX : K.In s₁.heap) (hns : s₁.heap.Ns mainGlobals mg) (hb : s₁.heap.Ns builtinsNs mb) (hbb : ∀ x : Str, x ≠ "__name__" → mb x = bootBuiltins x) (hlim : s₁.heap.NoLimit) (hg : s₁.gens = #[])
    (ha : s₁.heap.get? a = some { cls := .type "list", data := .seq vs.toArray }) (hi : IntsAre vs ns) (hl : ns.length ≤ sizeLine) (hr : Room k callerA)
    (F : ∀ base : Heap, K.In base → base.Ns mainGlobals mg → FnOk P w K mg base CX k fa fd [x] sp) (hbind : ∀ (s : Shared) (u : Value), BindsTo s fd ⟨[u], []⟩ [(x, u)])
    (hsp : ∀ H : Hp, Only H → SqL K H a (ns.map V.int) → sp [.ref a] H (fun v _ => v = .bl true) fun _ _ _ => False)
    (hCX : ∀ H e s', CX [] H s₁ (fun _ _ _ => False) e s' → False) :
    codeAny (model P w) callerA (.call (.ref fa) ⟨[.ref a], []⟩) (fun r s' => r = .ok (.ret (.bool true)) ∧ OldK s₁.heap s'.heap ∧ s'.os = s₁.os ∧ AllBare s'.gens) s₁ := by
  have rv := vals_ints hi
  have lenV := hi.length
  -- from an abstract heap in which nothing but the script may be tracked
  have core : ∀ H : Hp, Only H → SqL K H a (ns.map V.int) → HOk P w H s₁.heap → (∀ b, H b ≠ none → b = a) → (H a ≠ none → K.lookup a = none) →
      codeAny (model P w) callerA (.call (.ref fa) ⟨[.ref a], []⟩) (fun r s' => r = .ok (.ret (.bool true)) ∧ OldK s₁.heap s'.heap ∧ s'.os = s₁.os ∧ AllBare s'.gens) s₁ := by
    intro H hO hS hok hA hK
    have base_of : ∀ {b : Addr} {o : Obj}, s₁.heap.get? b = some o → H b = none → (hidT s₁.heap H).get? b = some o := fun e n => hidT_get e n
    have noA : ∀ {b : Addr} {o : Obj} {es : Array DictEntry} {ep : Nat}, s₁.heap.get? b = some o → o.data = .dict es ep → H b = none := fun {b o es ep} e d => by
      cases q : H b with
      | none => rfl
      | some u =>
        have e' : b = a := hA b (by rw [q]; simp)
        subst e'
        rw [ha] at e; cases e
        have d' : Data.seq vs.toArray _ = Data.dict es ep := d
        cases d'
    have nsK : ∀ {b : Addr} {m : Str → Option Value}, s₁.heap.Ns b m → (hidT s₁.heap H).Ns b m := fun {b m} ⟨o, es, ep, e, d, r⟩ => ⟨o, es, ep, base_of e (noA e d), d, r⟩
    have hKb : K.In (hidT s₁.heap H) := fun b o e => base_of (KX b o e) (by
      cases q : H b with
      | none => rfl
      | some u =>
        have e' : b = a := hA b (by rw [q]; simp)
        subst e'
        rw [hK (by rw [q]; simp)] at e; cases e)
    have hM : Mod K mg (hidT s₁.heap H) := ⟨hKb, nsK hns, ⟨mb, nsK hb, hbb⟩, let ⟨mc, h1, h2⟩ := hlim; ⟨mc, nsK h1, h2⟩⟩
    have e0 : Env0 P w K mg (hidT s₁.heap H) callerA [] s₁ H := ⟨rfl, hM, fun b o e => of_hidT e, Nat.le_of_eq (hidT_size _ _), trivial, fun b hb => absurd (show b ∈ ([] : List Addr) from hb) (by simp), hok, .of_eq hg⟩
    refine codeAny_mono ((F _ hKb (nsK hns)).run callerA [] s₁ H ⟨[.ref a], []⟩ [.ref a] [.ref a] _ _ hr e0 (hbind s₁ (.ref a)) (.cons rfl .nil) (hsp H hO hS)) fun r s' h => ?_
    cases r with
    | error e => exact (hCX H e s' h).elim
    | ok fl =>
      cases fl with
      | next => exact False.elim h
      | brk => exact False.elim h
      | cont => exact False.elim h
      | ret u =>
        obtain ⟨v, H', os, bare, un, hok', r', q⟩ := h
        have q' : v = .bl true := q
        subst q'
        obtain rfl : u = Value.bool true := r'
        refine ⟨rfl, OldK.of_keep fun b o e => ?_, os, bare⟩
        cases q : H b with
        | none => exact un.keep b o e q (by intro z; exact absurd (show b ∈ ([] : List Addr) from z) (by simp)) (by simp)
        | some u =>
          rcases hO b with z | ⟨ob, xs, z⟩
          · rw [q] at z; cases z
          · have z2 := un.frzs b ob _ z
            obtain ⟨e1, _⟩ := hok b _ z
            obtain ⟨e2, _⟩ := hok' b _ z2
            rw [e] at e1; cases e1
            exact e2
  cases hk : K.lookup a with
  | some o =>
    -- the script is one of the module's own objects
    have e := KX a o hk
    rw [ha] at e
    cases e
    refine core (fun _ => none) (fun _ => .inl rfl) (.inr ⟨_, vs.toArray, _, hk, rfl, rfl, rfl, by rw [List.size_toArray, lenV]; exact hl, by simpa using rv⟩) (fun b u z => by have z' : (none : Option HO) = some u := z; cases z') (fun b z => absurd rfl z) fun z => absurd rfl z
  | none =>
    refine core (fun b => if b = a then some (.frz { cls := .type "list", data := .seq vs.toArray } (.lst (ns.map V.int))) else none) (fun b => ?_) (.inl (.inr ⟨{ cls := .type "list", data := .seq vs.toArray }, if_pos rfl⟩)) (fun b u z => ?_) (fun b z => ?_) fun _ => hk
    · by_cases hb : b = a
      · exact .inr ⟨_, _, if_pos hb⟩
      · exact .inl (if_neg hb)
    · by_cases hb : b = a
      · have z' := (if_pos hb).symm.trans z
        cases z'
        subst hb
        exact ⟨ha, by rw [List.length_map]; exact hl, vs, _, rv, ha⟩
      · have z' := (if_neg hb).symm.trans z
        cases z'
    · by_cases hb : b = a
      · exact hb
      · exact absurd (if_neg hb) z
end L2
namespace L2
open PySem PySem.Spec PyProof.Rows
abbrev KOf {K : PySem.W.Frag} {h : Heap} (_ : K.In h) : PySem.W.Frag := K
theorem walk_of {l : PySem.W.OpenLaw} {n k : Nat} {q : Program} {loose : List Str} {XP : (Str → Option Value) → Heap → Prop} {YP : World → Heap → Prop} {d : DefRec} {K : Params → PySem.W.Frag} {CX : World → CXT} {sp : World → Sp} {x : Str}
    (hn : l.most = some n) (hn2 : n ≤ sizeLine) (hdf : d.params.defaults = []) (hr : Room k callerA)
    (hY : ∀ (w : World) (h : Heap), YP w h → (K w.params).In h)
    (F : ∀ (w : World) (mg : Str → Option Value) (fa : Addr) (h : Heap), (K w.params).In h → h.Ns mainGlobals mg → mg d.name = some (.ref fa) →
      ∃ fd : FuncData, (∀ (s : Shared) (u : Value), BindsTo s fd ⟨[u], []⟩ [(x, u)]) ∧
        ∀ base : Heap, (K w.params).In base → base.Ns mainGlobals mg → FnOk l.prog w (K w.params) mg base (CX w) k fa fd [x] (sp w))
    (hsp : ∀ (w : World) (H : Hp) (a : Addr) (ns : List Int), ns.length ≤ n → Only H → SqL (K w.params) H a (ns.map V.int) → sp w [.ref a] H (fun v _ => v = .bl true) fun _ _ _ => False)
    (hCX : ∀ (w : World) (H : Hp) (s : Shared) (e : Value) (s' : Shared), CX w [] H s (fun _ _ _ => False) e s' → False) :
    PySem.W.WalkO q loose XP YP l.row.toRowW d [] (fun f vs => PySem.call f vs) := by
  refine Att.attach_call hn hdf fun w s₀ s₁ mg mb fa o pm cd doc a vs ns G Y ho hd hcd hmg hobj hints hlen hg => ?_
  have KX := hY w _ Y
  obtain ⟨fd, hb, hF⟩ := F w mg fa _ KX G.T.g hmg
  exact law_call KX G.T.g G.T.b G.T.builtins G.T.nolimit hg hobj hints (Nat.le_trans hlen hn2) hr hF hb (fun H hO hS => hsp w H a ns hlen hO hS) fun H e s' => hCX w H s₁ e s'
end L2
/-! SHORT WORDS over the layer: a def of the text, its body, what a loop and a test want. -/
namespace L2
open PySem PySem.Spec PyProof.Rows
/-! ### the text by places -/
def inClass (s : Stmt) (j : Nat) : Stmt := match s with
  | .ClassDef _ _ _ body _ _ _ _ _ _ _ => body.getD j (.Pass ⟨0, 0, 0, 0⟩)
  | _ => .Pass ⟨0, 0, 0, 0⟩
def defArgs (s : Stmt) : Arguments := match s with
  | .FunctionDef _ a _ _ _ _ _ _ _ _ => a
  | _ => { posonlyargs := [], args := [], vararg := none, kwonlyargs := [], kw_defaults := [], kwarg := none, defaults := [] }
def defBody (s : Stmt) : List Stmt := match s with
  | .FunctionDef _ _ b _ _ _ _ _ _ _ => b
  | _ => []
def defScope (s : Stmt) : Scope := match s with
  | .FunctionDef _ _ _ _ _ _ sc _ _ _ => sc
  | _ => { kind := .function, names := [], isGenerator := false, isCoroutine := false }
/-! ### no exception leaves a def -/
abbrev CX0 : CXT := fun _ _ _ _ _ _ => False
abbrev E0 : XK := fun _ _ _ => False
theorem pass0 {X : Cx} : Passes CX0 X E0 := fun _ _ _ _ _ _ _ h => h.elim
/-! ### a def (or method) of the text as it stands behind the top -/
structure Fun (K : PySem.W.Frag) (x qual : Str) (st : Stmt) (f : Addr) (fd : FuncData) : Prop where
  ex : ∃ (oc : Value) (od : Option Addr) (kV doc pm : Value) (an : Option Addr) (cdv ct : Value) (osl : Array (Option Value)),
    fd = PySem.W.fnOf x qual (defArgs st) (defBody st) (defScope st) .none kV doc pm an cdv ct ∧ K.lookup f = some ⟨oc, od, .func fd, osl⟩ ∧ PySem.W.codeIn K cdv qual = true
  kp : PySem.W.keepIn K (.ref f) = true
section
variable {P : Program} {w : World} {K : PySem.W.Frag} {mg : Str → Option Value} {base : Heap}
theorem Fun.ok {x qual : Str} {st : Stmt} {f : Addr} {fd : FuncData} {N ps : List Str} {k : Nat} {sp : Sp} (F : Fun K x qual st f fd) (S : FnScope N ps (defScope st)) (len : ∀ vs H Q E, sp vs H Q E → vs.length = ps.length)
    (hbody : ∀ (cdv : Value) (A : Around) (outer : List Env) (s : Shared) (H : Hp) (vs : List V) (Q : VK) (E : XK), Room k (A.deeper (envOfC qual (defScope st) s.heap.objs.size f cdv)) → sp vs H Q E →
      ∃ t, PSs (cxOf CX0 P w K mg base N qual (defScope st) f cdv A outer s H E).nox (defBody st) t ∧ t { nx := fun _ H' => Q .non H', rt := Q } (start N vs) H) : FnOk P w K mg base CX0 (k + 1) f fd ps sp := by
  obtain ⟨oc, od, kV, doc, pm, an, cdv, ct, osl, rfl, lk, hcd⟩ := F.ex
  refine fn_of lk hcd S len fun A outer s H vs Q E hr hsp => ?_
  obtain ⟨t, h, q⟩ := hbody cdv A outer s H vs Q E hr hsp
  exact ⟨t, h.nox, q⟩
theorem Fun.binds {x qual : Str} {st : Stmt} {f : Addr} {fd : FuncData} {ps : List Str} (F : Fun K x qual st f fd)
    (h : ∀ (kV doc pm : Value) (an : Option Addr) (cdv ct : Value) (us : List Value), us.length = ps.length → bindArgs (PySem.W.fnOf x qual (defArgs st) (defBody st) (defScope st) .none kV doc pm an cdv ct) ⟨us, []⟩ = pure (ps.zip us)) : Binds K fd ps [] := by
  obtain ⟨oc, od, kV, doc, pm, an, cdv, ct, osl, rfl, lk, hcd⟩ := F.ex
  exact .all (h kV doc pm an cdv ct)
theorem fun_mk {x qual : Str} {st : Stmt} {f : Addr} {oc : Value} {od an : Option Addr} {osl : Array (Option Value)} {kV doc pm cdv ct : Value} (l : K.lookup f = some ⟨oc, od, .func (PySem.W.fnOf x qual (defArgs st) (defBody st) (defScope st) .none kV doc pm an cdv ct), osl⟩)
    (c : PySem.W.codeIn K cdv qual = true) (k : PySem.W.keepIn K (.ref f) = true) : Fun K x qual st f (PySem.W.fnOf x qual (defArgs st) (defBody st) (defScope st) .none kV doc pm an cdv ct) := ⟨⟨oc, od, kV, doc, pm, an, cdv, ct, osl, rfl, l, c⟩, k⟩
end
theorem hu_of {A : Around} {k : Nat} (hr : Room k A) : A.units + 1 < cLine := Nat.lt_of_le_of_lt (Nat.add_le_add_left (by decide : 1 ≤ 64) _) hr.units
/-! ### expressions in short: the name that stands in the i-th slot -/
section
variable {X : Cx}
theorem pv (i : Nat) {x : Str} {pos : Pos} (hN : X.N[i]? = some x := by rfl) (hv : Vis X.env.scope x := by first | exact Or.inl rfl | exact Or.inr (Or.inl rfl) | exact Or.inr (Or.inr rfl)) (hd : (x == ("__debug__" : Str)) = false := by decide)
    (hcd : (x == ("__classdict__" : Str)) = false := by decide) : PE X (.Name x pos) (tVar i) := pe_var hN hv hd hcd
end
/-! ### tests -/
theorem iteF {A B : Prop} (h : B) : if false = true then A else B := by
  rw [if_neg Bool.false_ne_true]
  exact h
theorem iteT {A B : Prop} (h : A) : if true = true then A else B := by
  rw [if_pos rfl]
  exact h
theorem ite2 {c A B : Prop} [Decidable c] (h1 : c → A) (h2 : ¬ c → B) : if c then A else B := by
  by_cases h : c
  · rw [if_pos h]
    exact h1 h
  · rw [if_neg h]
    exact h2 h
theorem iteNS {c A B : Prop} [Decidable c] (hc : c) (h : B) : if (!decide c) = true then A else B := by
  rw [decide_eq_true hc]
  exact iteF h
/-! ### heaps -/
def Same (H H' : Hp) : Prop := ∀ b o, H b = some o → H' b = some o
theorem Same.refl (H : Hp) : Same H H := fun _ _ h => h
theorem Same.trans {H H1 H2 : Hp} (a : Same H H1) (b : Same H1 H2) : Same H H2 := fun c o h => b c o (a c o h)
theorem Same.free {H H' : Hp} (e : Same H H') {l : Addr} (h : H' l = Option.none) : H l = Option.none := by
  cases q : H l with
  | none => rfl
  | some o =>
    rw [e l o q] at h
    cases h
theorem Same.seq {K : PySem.W.Frag} {H H' : Hp} {a : Addr} {xs : List V} (e : Same H H') (h : SqL K H a xs) : SqL K H' a xs := by
  rcases h with (h | ⟨o, h⟩) | h
  · exact .inl (.inl (e _ _ h))
  · exact .inl (.inr ⟨o, e _ _ h⟩)
  · exact .inr h
end L2
namespace L2
open PySem PySem.Spec PyProof.Rows
section
variable {X : Cx}
end
/-! ### a dict's pairs: keys that differ -/
section
variable {κ : Type} [DecidableEq κ]
end
end L2
namespace RW
def hrs (a b w : Int) : List Int := (List.range w.toNat).flatMap fun (i : Nat) => (List.range (b - a).toNat).map fun (j : Nat) => a + (j : Int) + 168 * (i : Int)
theorem mem_hrs {a b w h : Int} : h ∈ hrs a b w ↔ ∃ i j : Nat, (i : Int) < w ∧ a + (j : Int) < b ∧ h = a + (j : Int) + 168 * (i : Int) := by
  unfold hrs
  simp only [List.mem_flatMap, List.mem_range, List.mem_map]
  constructor
  · rintro ⟨i, hi, j, hj, rfl⟩
    exact ⟨i, j, by omega, by omega, rfl⟩
  · rintro ⟨i, j, hi, hj, rfl⟩
    exact ⟨i, by omega, j, by omega, rfl⟩
theorem mem_hrs' {a b w h : Int} : h ∈ hrs a b w ↔ ∃ i : Int, 0 ≤ i ∧ i < w ∧ a + 168 * i ≤ h ∧ h < b + 168 * i := by
  rw [mem_hrs]
  constructor
  · rintro ⟨i, j, hi, hj, rfl⟩
    exact ⟨i, by omega, by omega, by omega, by omega⟩
  · rintro ⟨i, h0, hi, h1, h2⟩
    exact ⟨i.toNat, (h - a - 168 * i).toNat, by omega, by omega, by omega⟩
theorem len_flat {α β : Type} (f : α → List β) (n : Nat) : ∀ l : List α, (∀ x ∈ l, (f x).length = n) → (l.flatMap f).length = l.length * n
  | [], _ => by simp
  | x :: l, h => by
    rw [List.flatMap_cons, List.length_append, len_flat f n l (fun y hy => h y (List.mem_cons_of_mem _ hy)), h x List.mem_cons_self, List.length_cons, Nat.succ_mul]
    omega
theorem len_hrs (a b w : Int) : (hrs a b w).length = w.toNat * (b - a).toNat := by
  unfold hrs
  rw [len_flat _ (b - a).toNat _ (fun x _ => by simp)]
  simp
def hasB (a b w h : Int) : Bool :=
  decide ((if (h - b) / 168 + 1 > 0 then (h - b) / 168 + 1 else 0) ≤ (if (h - a) / 168 < w - 1 then (h - a) / 168 else w - 1))
def emptyB (a b w : Int) : Bool := decide (b ≤ a) || decide (w < 1)
def meetB (a b w c d v : Int) : Bool :=
  if emptyB a b w || emptyB c d v then false else
  decide ((if (c - b) / 168 + 1 > 1 - v then (c - b) / 168 + 1 else 1 - v) ≤ (if (d - a - 1) / 168 < w - 1 then (d - a - 1) / 168 else w - 1))
theorem meetB_iff (a b w c d v : Int) : meetB a b w c d v = true ↔ ∃ h, h ∈ hrs a b w ∧ h ∈ hrs c d v := by
  unfold meetB emptyB
  constructor
  · intro q
    split at q
    · cases q
    · rename_i e
      simp only [Bool.or_eq_true, decide_eq_true_eq, not_or] at e
      rw [decide_eq_true_eq] at q
      -- the number of weeks apart
      have : ∃ m : Int, 1 - v ≤ m ∧ (c - b) / 168 + 1 ≤ m ∧ m ≤ w - 1 ∧ m ≤ (d - a - 1) / 168 := by
        refine ⟨if (c - b) / 168 + 1 > 1 - v then (c - b) / 168 + 1 else 1 - v, ?_, ?_, ?_, ?_⟩ <;> split at q <;> split at q <;> split <;> omega
      obtain ⟨m, h1, h2, h3, h4⟩ := this
      -- weeks i of the one, i - m of the other
      have : ∃ i j : Int, 0 ≤ i ∧ i < w ∧ 0 ≤ j ∧ j < v ∧ i - j = m := by
        by_cases hm : 0 ≤ m
        · exact ⟨m, 0, by omega, by omega, by omega, by omega, by omega⟩
        · exact ⟨0, -m, by omega, by omega, by omega, by omega, by omega⟩
      obtain ⟨i, j, i0, i1, j0, j1, ij⟩ := this
      refine ⟨if a + 168 * i ≤ c + 168 * j then c + 168 * j else a + 168 * i, mem_hrs'.mpr ⟨i, i0, i1, ?_, ?_⟩, mem_hrs'.mpr ⟨j, j0, j1, ?_, ?_⟩⟩ <;> split <;> omega
  · rintro ⟨h, h1, h2⟩
    obtain ⟨i, i0, i1, i2, i3⟩ := mem_hrs'.mp h1
    obtain ⟨j, j0, j1, j2, j3⟩ := mem_hrs'.mp h2
    rw [if_neg (by simp only [Bool.or_eq_true, decide_eq_true_eq, not_or]; omega), decide_eq_true_eq]
    split <;> split <;> omega
theorem meetB_comm (a b w c d v : Int) : meetB c d v a b w = meetB a b w c d v := by
  rw [Bool.eq_iff_iff, meetB_iff, meetB_iff]
  constructor <;> rintro ⟨h, h1, h2⟩ <;> exact ⟨h, h2, h1⟩
end RW
namespace RW
def rowH (a : Int) (i j : Nat) : List Int := (List.range j).map fun (j : Nat) => a + (j : Int) + 168 * (i : Int)
def hrsN (a b : Int) (n : Nat) : List Int := (List.range n).flatMap fun (i : Nat) => rowH a i (b - a).toNat
theorem hrsN_succ (a b : Int) (n : Nat) : hrsN a b (n + 1) = hrsN a b n ++ rowH a n (b - a).toNat := by
  unfold hrsN
  rw [List.range_succ, List.flatMap_append]
  simp
theorem rowH_succ (a : Int) (i j : Nat) : rowH a i (j + 1) = rowH a i j ++ [a + (j : Int) + 168 * (i : Int)] := by
  unfold rowH
  rw [List.range_succ, List.map_append]
  rfl
theorem len_rowH (a : Int) (i j : Nat) : (rowH a i j).length = j := by simp [rowH]
theorem len_hrsN (a b : Int) (n : Nat) : (hrsN a b n).length = n * (b - a).toNat := by
  unfold hrsN
  rw [len_flat _ (b - a).toNat _ (fun x _ => len_rowH _ _ _)]
  simp
def Bd (a b w : Int) : Prop := 0 ≤ a ∧ a ≤ 2000 ∧ a < b ∧ b ≤ a + 168 ∧ 1 ≤ w ∧ w ≤ 40
theorem Bd.size {a b w : Int} (h : Bd a b w) : w.toNat * (b - a).toNat ≤ 6720 := by
  obtain ⟨h1, h2, h3, h4, h5, h6⟩ := h
  exact Nat.le_trans (Nat.mul_le_mul (show w.toNat ≤ 40 by omega) (show (b - a).toNat ≤ 168 by omega)) (by decide)
theorem any_due (a b w c d v : Int) : ((hrs c d v).any fun h => decide (h ∈ hrs a b w)) = meetB a b w c d v := by
  rw [Bool.eq_iff_iff, meetB_iff, List.any_eq_true]
  constructor
  · rintro ⟨h, h1, h2⟩
    exact ⟨h, of_decide_eq_true h2, h1⟩
  · rintro ⟨h, h1, h2⟩
    exact ⟨h, h2, decide_eq_true h1⟩
end RW
namespace L2
open PySem PySem.Spec PyProof.Rows
/-! ### a def of the text by its name -/
structure Fn (P : Program) (w : World) (K : PySem.W.Frag) (mg : Str → Option Value) (base : Heap) (j : Nat) (x : Str) (ps : List Str) (sp : Sp) : Prop where
  ex : ∃ f fd, FnOk P w K mg base CX0 j f fd ps sp ∧ mg x = some (.ref f) ∧ PySem.W.keepIn K (.ref f) = true ∧ Binds K fd ps []
section
variable {X : Cx} {x : Str} {p pos : Pos} {e : Expr} {es : List Expr} {t : TA} {j k : Nat} {ps : List Str} {sp : Sp}
theorem pe_fn (F : Fn X.prog X.w X.K X.mg X.base j x ps sp) (hr : Room k X.A) (ha : PA X (e :: es) t) (hj : j ≤ k := by decide) (hg : Gl X x := by rfl) (hdb : (x == ("__debug__" : Str)) = false := by decide)
    (he : starEach (e :: es) X.env = (false, eval e X.env) :: starEach es X.env := by rfl) (hpl : (backTo pos (starEach es X.env)).any (·.1) = false := by rfl) : PE X (.Call (.Name x p) (e :: es) [] pos) (tCall sp [] E0 t) := by
  obtain ⟨f, fd, F, hm, hk, hb⟩ := F.ex
  exact pe_call F (hr.mono hj) hg hm hk hb .nil pass0 ha hdb he hpl
theorem pe_gint {n : Int} (h : ∃ u, X.mg x = some (.int n u)) (hg : Gl X x := by rfl) (hd : (x == ("__debug__" : Str)) = false := by decide) : PE X (.Name x pos) (tC (.int n)) := by
  obtain ⟨u, h⟩ := h
  exact pe_glob hg h ⟨u, rfl⟩ hd
theorem pe_gty {T : String} (hm : X.mg x = none) (hv : bootBuiltins x = some (.type T)) (hg : Gl X x := by rfl) (hn : x ≠ "__name__" := by decide) (hd : (x == ("__debug__" : Str)) = false := by decide) : PE X (.Name x pos) (tC (.ty T)) :=
  pe_bltn hg hm hv rfl hn hd
theorem call_isin : CallR X (.builtin "isinstance") (fun xs H Q => ∃ x T t b, xs = [x, .ty T] ∧ TyOf X.K H x t ∧ PySem.W.kitOne X.K t (.type T) = some b ∧ Q (.bl b) H) := by
  intro pins s σ H xs us Q I r h
  obtain ⟨x, T, t, b, rfl, ty, e, q⟩ := h
  obtain ⟨u, v, rfl, rx, rt⟩ := vals2 r
  cases (show v = Value.type T from rt)
  exact isinst_ok I rx ty e fun tk => ⟨.bl b, H, I.tok tk, rfl, q⟩
end
theorem bt_bool : bootBuiltins "bool" = some (.type "bool") := by decide +kernel
theorem bt_int : bootBuiltins "int" = some (.type "int") := by decide +kernel
theorem bt_list : bootBuiltins "list" = some (.type "list") := by decide +kernel
theorem bt_tuple : bootBuiltins "tuple" = some (.type "tuple") := by decide +kernel
/-! ### heaps that grow -/
theorem Same.new {H : Hp} {p : Addr} {o : HO} (h : H p = none) : Same H (upd H p o) := fun b u e => by
  rw [upd_ne (ne_of_none e h)]; exact e
theorem Same.put {H H1 : Hp} {p : Addr} {o : HO} (s : Same H H1) (h : H p = none) : Same H (upd H1 p o) := fun b u e => by
  rw [upd_ne (ne_of_none e h)]; exact s b u e
theorem Same.tup {K : PySem.W.Frag} {H H' : Hp} {a : Addr} {xs : List V} (e : Same H H') (h : SqT K H a xs) : SqT K H' a xs := by
  rcases h with (h | ⟨o, h⟩) | h
  · exact .inl (.inl (e _ _ h))
  · exact .inl (.inr ⟨o, e _ _ h⟩)
  · exact .inr h
theorem len2 : 2 ≤ sizeLine := by decide
theorem len3 : 3 ≤ sizeLine := by decide
theorem len5 : 5 ≤ sizeLine := by decide
theorem small_of {n : Nat} (h : n ≤ 1000000) : n < sizeLine := Nat.lt_of_le_of_lt h (by decide)
end L2
namespace L2
theorem seq_at {t u : TS} {D : Ends} {σ : St} {H : Hp} (Pv : St → Hp → Prop) (h1 : ∀ M : St → Hp → Prop, (∀ σ' H', Pv σ' H' → M σ' H') → t { D with nx := M } σ H) (h2 : ∀ σ' H', Pv σ' H' → u D σ' H') : tSeq t u D σ H := h1 (u D) h2
theorem cut_all {xs : List V} {n : Nat} (h : xs.length ≤ n) : cutV xs none (some (n : Int)) = xs := by
  unfold cutV
  rw [HT.sIx_none, HT.sIx_nat, List.drop_zero, Nat.sub_zero, Nat.min_eq_right h, List.take_length]
theorem cut_1000 {xs : List V} (h : xs.length ≤ 1000) : cutV xs none (some 1000) = xs := cut_all (n := 1000) h
theorem kit_self {K : PySem.W.Frag} {T : String} : PySem.W.kitOne K (.type T) (.type T) = some true := if_pos (by simp)
end L2
namespace L2
open PySem PySem.Spec PyProof.Rows
/-! ### a def as the top has written it -/
structure FunAt (K : PySem.W.Frag) (x : Str) (st : Stmt) : Prop where
  ex : ∃ (f : Addr) (oc : Value) (od : Option Addr) (kV doc pm : Value) (an : Option Addr) (cdv ct : Value) (osl : Array (Option Value)), PySem.W.nsIn K mainGlobals x = some (some (.ref f)) ∧
    K.lookup f = some ⟨oc, od, .func (PySem.W.fnOf x x (defArgs st) (defBody st) (defScope st) .none kV doc pm an cdv ct), osl⟩ ∧ PySem.W.codeIn K cdv x = true ∧ PySem.W.keepIn K (.ref f) = true
theorem fun_at {K : PySem.W.Frag} {x : Str} {st : Stmt} {f : Addr} {oc : Value} {od : Option Addr} {kV doc pm : Value} {an : Option Addr} {cdv ct : Value} {osl : Array (Option Value)} (a : PySem.W.nsIn K mainGlobals x = some (some (.ref f)))
    (l : K.lookup f = some ⟨oc, od, .func (PySem.W.fnOf x x (defArgs st) (defBody st) (defScope st) .none kV doc pm an cdv ct), osl⟩) (c : PySem.W.codeIn K cdv x = true) (k : PySem.W.keepIn K (.ref f) = true) : FunAt K x st := ⟨f, oc, od, kV, doc, pm, an, cdv, ct, osl, a, l, c, k⟩
theorem FunAt.fn {P : Program} {w : World} {K : PySem.W.Frag} {mg : Str → Option Value} {base h : Heap} {x : Str} {st : Stmt} {j : Nat} {ps : List Str} {sp : Sp} (A : FunAt K x st) (X : K.In h) (G : h.Ns mainGlobals mg)
    (ok : ∀ f fd, Fun K x x st f fd → FnOk P w K mg base CX0 j f fd ps sp)
    (b : ∀ (kV doc pm : Value) (an : Option Addr) (cdv ct : Value) (us : List Value), us.length = ps.length → bindArgs (PySem.W.fnOf x x (defArgs st) (defBody st) (defScope st) .none kV doc pm an cdv ct) ⟨us, []⟩ = pure (ps.zip us)) : Fn P w K mg base j x ps sp := by
  obtain ⟨f, oc, od, kV, doc, pm, an, cdv, ct, osl, a, l, c, k⟩ := A.ex
  have F := fun_mk (st := st) l c k
  exact ⟨f, _, ok f _ F, PySem.W.mg_of X G a, k, F.binds b⟩
theorem FunAt.law {K : PySem.W.Frag} {mg : Str → Option Value} {h : Heap} {x y : Str} {st : Stmt} {fa : Addr} (A : FunAt K x st) (X : K.In h) (G : h.Ns mainGlobals mg) (e : mg x = some (.ref fa))
    (b : ∀ (kV doc pm : Value) (an : Option Addr) (cdv ct v : Value), bindArgs (PySem.W.fnOf x x (defArgs st) (defBody st) (defScope st) .none kV doc pm an cdv ct) ⟨[v], []⟩ = pure [(y, v)]) :
    ∃ fd : FuncData, (∀ (s : Shared) (v : Value), BindsTo s fd ⟨[v], []⟩ [(y, v)]) ∧ Fun K x x st fa fd := by
  obtain ⟨f, oc, od, kV, doc, pm, an, cdv, ct, osl, a, l, c, k⟩ := A.ex
  have e' := e.symm.trans (PySem.W.mg_of X G a)
  cases e'
  exact ⟨_, fun s v => .of_eq (b _ _ _ _ _ _ _), fun_mk (st := st) l c k⟩
end L2
namespace L2
theorem set_go {i : Nat} {v : V} {σ : St} {H : Hp} {Q : St → Hp → Prop} (h : Q (σ.set i (some v)) H) : gName i v σ H Q := h
end L2
namespace L2
open PySem PySem.Spec PyProof.Rows
/-! ### exceptions: how they lie, how they leave a frame -/
section
variable {P : Program} {w : World} {H : Hp} {h : Heap} {a : Addr} {o : HO}
theorem ObjOk.there (x : ObjOk P w H h a o) : ∃ ob, h.get? a = some ob := by
  cases o with
  | lst xs => obtain ⟨_, _, _, _, e⟩ := x; exact ⟨_, e⟩
  | tup xs => obtain ⟨_, _, _, _, e, _⟩ := x; exact ⟨_, e⟩
  | dK kvs => obtain ⟨_, _, _, _, _, _, _, e, _⟩ := x; exact ⟨_, e⟩
  | dT kvs => obtain ⟨_, _, _, _, _, _, _, e, _⟩ := x; exact ⟨_, e⟩
  | set S n => obtain ⟨_, _, _, _, e, _⟩ := x; exact ⟨_, e⟩
  | ins C dx fs => obtain ⟨_, _, _, e, _⟩ := x; exact ⟨_, e⟩
  | own y => exact x
  | xd fs => obtain ⟨_, ⟨_, _, _, e, _⟩, _⟩ := x; exact ⟨_, e⟩
  | rng lo hi => obtain ⟨_, _, _, e⟩ := x; exact ⟨_, e⟩
  | frz ob u => obtain ⟨e, _⟩ := x; exact ⟨_, e⟩
  | tbl ps => exact ⟨_, (show h.get? a = some _ from x)⟩
  | met f y => exact ⟨_, (show h.get? a = some _ from x)⟩
  | ext φ => obtain ⟨_, e, _⟩ := x; exact e
end
def ExcAt (N : Addr → Prop) (h : Heap) (e : Addr) (C : Value) : Prop :=
  N e ∧ ∃ oe vs a0, h.get? e = some oe ∧ oe.cls = C ∧ oe.data = .fields vs ∧ vs[0]? = some a0 ∧
    (vs[1]? = some .none ∨ ∃ T oT ts, vs[1]? = some (.ref T) ∧ T ≠ e ∧ N T ∧ h.get? T = some oT ∧ oT.data = .fields ts ∧ ts[3]? = some .none)
theorem ExcAt.mono {N N' : Addr → Prop} {h : Heap} {e : Addr} {C : Value} (x : ExcAt N h e C) (k : ∀ b, N b → (∃ o, h.get? b = some o) → N' b) : ExcAt N' h e C := by
  obtain ⟨n, oe, vs, a0, h1, h2, h3, h4, h5⟩ := x
  refine ⟨k e n ⟨oe, h1⟩, oe, vs, a0, h1, h2, h3, h4, h5.imp id ?_⟩
  rintro ⟨T, oT, ts, q1, q2, q3, q4, q5⟩
  exact ⟨T, oT, ts, q1, q2, k T q3 ⟨oT, q4⟩, q4, q5⟩
structure KeptX (fr : List Addr) (N : Addr → Prop) (h h' : Heap) : Prop where
  keep : ∀ b o, h.get? b = some o → b ∉ fr → (¬ N b ∨ ∀ vs, o.data ≠ .fields vs) → h'.get? b = some o
  slot : ∀ b o, h.get? b = some o → b ∈ fr → ∃ sl, h'.get? b = some { o with slots := sl }
section
variable {M : Model} {A : Around} {E : Value → Shared → Prop} {s : Shared} {base : Heap} {env : Env} {outer : List Env} {L e : Addr} {C : Value} {N : Addr → Prop} {Q : Unit → Shared → Prop}
end
end L2
namespace L2
open PySem PySem.Spec PyProof.Rows
/-! ### comprehensions -/
theorem wpAny_pure_then {M : Model} {A : Around} {α : Type} {E E' : Value → Shared → Prop} {s : Shared} {t : Sem Unit} {u : Sem α} {P : Unit → Shared → Prop} {Q : α → Shared → Prop} (e : t = pure ()) (h : wpAny M A t P E s) (k : P () s → wpAny M A u Q E' s) : wpAny M A u Q E' s := by
  subst e
  exact fun Γ p hΓ => k (h Γ p hΓ) Γ p hΓ
abbrev Cx.blk (X : Cx) (scope : Scope) (N' : List Str) (cl : List (Str × Addr)) (C : Addr) (fp : List Addr) (s3 : Shared) (H3 : Hp) : Cx :=
  { X with N := N', s₀ := s3, H₀ := H3, env := compEnvC scope cl C X.env, outer := X.stack, stack := X.stack, ex := fp, fn := fun _ => false, pn := [], xe := fun _ _ => False }
def FvOk (X : Cx) (scope : Scope) (cl : List (Str × Addr)) : List Str → List Nat → Prop
  | [], [] => True
  | y :: r, j :: q => (X.N[j]? = some y ∧ X.env.scope.names.lookup y = some .cell ∧ ((relabel scope X.env).names.lookup y = some .cell ∨ (relabel scope X.env).names.lookup y = some .free) ∧ cl.lookup y = X.env.cells.lookup y) ∧ FvOk X scope cl r q
  | _, _ => False
def ClIn (cells : List (Str × Addr)) : List (Str × Addr) → Prop
  | [] => True
  | p :: r => cells.lookup p.1 = some p.2 ∧ ClIn cells r
theorem ClIn.look {cells : List (Str × Addr)} : ∀ {cl : List (Str × Addr)}, ClIn cells cl → ∀ {x : Str} {c : Addr}, cl.lookup x = some c → cells.lookup x = some c
  | [], _, _, _, e => by simp at e
  | (y, d) :: r, h, x, c, e => by
    rw [List.lookup_cons] at e
    cases q : x == y with
    | true => rw [q] at e; rw [beq_iff_eq.mp q]; exact h.1.trans e
    | false => rw [q] at e; exact ClIn.look h.2 e
theorem FvOk.get {X : Cx} {scope : Scope} {cl : List (Str × Addr)} : ∀ {fv : List Str} {js : List Nat}, FvOk X scope cl fv js → ∀ {i : Nat} {y : Str}, fv[i]? = some y → ∃ j, js[i]? = some j ∧ X.N[j]? = some y ∧ X.env.scope.names.lookup y = some .cell ∧ ((relabel scope X.env).names.lookup y = some .cell ∨ (relabel scope X.env).names.lookup y = some .free) ∧ cl.lookup y = X.env.cells.lookup y
  | [], [], _, i, y, e => by simp at e
  | z :: r, j :: q, h, 0, y, e => by simp at e; subst e; exact ⟨j, rfl, h.1⟩
  | z :: r, j :: q, h, i + 1, y, e => by
    obtain ⟨j', h1, h2⟩ := FvOk.get h.2 (i := i) (y := y) (by simpa using e)
    exact ⟨j', by simpa using h1, h2⟩
  | [], _ :: _, h, _, _, _ => False.elim h
  | _ :: _, [], h, _, _, _ => False.elim h
theorem FvOk.len {X : Cx} {scope : Scope} {cl : List (Str × Addr)} : ∀ {fv : List Str} {js : List Nat}, FvOk X scope cl fv js → fv.length = js.length
  | [], [], _ => rfl
  | _ :: _, _ :: _, h => by simp [FvOk.len h.2]
  | [], _ :: _, h => False.elim h
  | _ :: _, [], h => False.elim h
def startC (σ : St) (js : List Nat) : St := none :: js.map fun j => (σ[j]?).join
structure CompOk (X : Cx) (scope : Scope) (x : Str) (fv : List Str) (js : List Nat) (cl : List (Str × Addr)) : Prop where
  clos : closureFor scope X.env = pure cl
  kind : scope.kind = .function
  cell : ∀ y ∈ scope.names, y.2 ≠ .cell
  names : ∀ y ∈ scope.names, y.2 = .local → scope.names.lookup y.1 = some .local
  loc : scope.names.lookup x = some .local
  fvs : FvOk X scope cl fv js
  sub : ClIn X.env.cells cl
  has : ((relabel scope X.env).names.all fun p => (p.2 != .cell && p.2 != .free) || (cl.lookup p.1).isSome) = true
  nd : (x :: fv).Nodup
theorem lookup_mem {α : Type} : ∀ {l : List (Str × α)} {x : Str} {k : α}, l.lookup x = some k → (x, k) ∈ l
  | [], _, _, e => by simp at e
  | (y, d) :: r, x, k, e => by
    rw [List.lookup_cons] at e
    cases q : x == y with
    | true => rw [q] at e; cases e; rw [beq_iff_eq.mp q]; exact List.mem_cons_self
    | false => rw [q] at e; exact List.mem_cons_of_mem _ (lookup_mem e)
section
variable {X : Cx} {scope : Scope} {x : Str} {fv : List Str} {js : List Nat} {cl : List (Str × Addr)} {pins : List (Addr × Obj)} {σ : St} {H : Hp} {s : Shared} {fp : List Addr}
theorem blk_ok (c : CompOk X scope x fv js cl) (I : Inv X pins σ H s) (hf : ∀ b ∈ fp, FpOk X pins H b) (ho : ∀ b ∈ fp, ∃ o, s.heap.get? b = some o) : (X.blk scope (x :: fv) cl s.heap.objs.size fp s H).Ok where
  mod := I.ok.mod
  kind := c.kind
  glob := I.ok.glob
  blt := I.ok.blt
  above := Nat.le_refl _
  inj := fun x y d h1 h2 => I.ok.inj x y d (c.sub.look h1) (c.sub.look h2)
  has := fun y hy => by
    have hy' : ∃ k, (relabel scope X.env).names.lookup y = some k ∧ (k = .cell ∨ k = .free) := by
      rcases hy with h | h
      · exact ⟨_, h, .inl rfl⟩
      · exact ⟨_, h, .inr rfl⟩
    obtain ⟨k, h1, h2⟩ := hy'
    have := List.all_eq_true.mp c.has (y, k) (lookup_mem h1)
    show ∃ c, cl.lookup y = some c
    rcases h2 with rfl | rfl <;> exact Option.isSome_iff_exists.mp (by simpa using this)
  cab := fun _ _ h => by cases h
  hd := I.ok.hd
  frames := I.ok.frames
  stk := .inl rfl
  exf := fun b hb => ⟨fun z => by
    obtain ⟨o, q⟩ := ho b hb
    have := Heap.lt_size q
    rw [show b = s.heap.objs.size from z] at this
    exact absurd this (Nat.lt_irrefl _), fun y d h => (hf b hb).2.2.2.2.1 y d (c.sub.look h)⟩
  bs := I.bs
  bsz := Nat.le_trans I.ok.bsz I.sz
  noex := fun b o q hb => by
    rcases (hf b hb).2.2.2.1 with z | z
    · exact I.ok.noex b o q z
    · exact absurd (Nat.lt_of_lt_of_le (Heap.lt_size q) (Nat.le_trans I.ok.bsz z)) (Nat.lt_irrefl _)
  exfs := fun b hb z => by
    rcases List.mem_cons.mp (I.stkSub b z) with z | z
    · exact (hf b hb).2.1 z
    · exact (hf b hb).2.2.1 z
  funs := I.stack
  frf := I.stkFree
theorem blk_inv (c : CompOk X scope x fv js cl) (I : Inv X pins σ H s) (hf : ∀ b ∈ fp, FpOk X pins H b) (ho : ∀ b ∈ fp, ∃ o, s.heap.get? b = some o) {h1 : Heap} {tk : Nat} {m : Str → Option Value} (hn : h1.Ns s.heap.objs.size m)
    (kp : ∀ b o, s.heap.get? b = some o → h1.get? b = some o) : Inv (X.blk scope (x :: fv) cl s.heap.objs.size fp s H) [] (startC σ js) H { s with heap := h1, toks := tk } := by
  refine ⟨blk_ok c I hf ho, rfl, I.bare, Un.kept kp, ⟨m, hn, fun i y v e1 e2 _ => ?_⟩, fun y d h => ?_, I.hok.fresh (Nat.le_refl _), fun y d h => I.freeC y d (c.sub.look h), fun p hp => (by cases hp), I.hok.kept kp, ?_⟩
  · cases i with
    | zero => cases e2
    | succ i =>
      have e1' : fv[i]? = some y := by simpa using e1
      obtain ⟨j, g1, g2, g3, g4, g5⟩ := c.fvs.get e1'
      have e2' : (js.map fun j => (σ[j]?).join)[i]? = some (some v) := by simpa [startC] using e2
      rw [List.getElem?_map, g1] at e2'
      replace e2' : some ((σ[j]?).join) = some (some v) := e2'
      have e3 : σ[j]? = some (some v) := by
        cases q : σ[j]? with
        | none => rw [q] at e2'; cases e2'
        | some w => rw [q] at e2'; exact e2'
      obtain ⟨m0, hn0, hl⟩ := I.loc
      obtain ⟨u, ru, l⟩ := hl j y v g2 e3 (.inr (.inl g3))
      refine ⟨u, ru, .inr ⟨g4, ?_⟩⟩
      rcases l with ⟨l, _⟩ | ⟨_, d, l1, o, l2, l3⟩
      · have : X.env.kindOf y = some .cell := g3
        rw [l] at this; cases this
      · exact ⟨d, g5.trans l1, o, kp _ _ l2, l3⟩
  · obtain ⟨v, o, q1, q2⟩ := I.cell y d (c.sub.look h)
    exact ⟨v, o, kp _ _ q1, q2⟩
  · show (startC σ js).length = (x :: fv).length
    simp [startC, c.fvs.len]
end
def CompW (J : It) (p : Addr) (σ0 : St) (H0 : Hp) (tc : TT) (te : TE) (Q : VK) : Prop := ∃ W : Nat → Nat → St → Hp → Prop, (∃ m, W 0 m σ0 H0) ∧ ∀ i m σ' H', W i m σ' H' →
  (J.stop i H' ∧ Q (.ref p) H') ∨ (J.go i H' ∧ ∀ x H'', J.yld i H' x H'' → tc (σ'.set 0 (some x)) H'' fun b H3 => if b = true then te (σ'.set 0 (some x)) H3 fun y H4 => ∃ ys, H4 p = some (.lst ys) ∧ ys.length < sizeLine ∧ ∃ m', m' < m ∧ W (i + 1) m' (σ'.set 0 (some x)) (upd H4 p (.lst (ys ++ [y])))
    else ∃ m', m' < m ∧ W (i + 1) m' (σ'.set 0 (some x)) H3)
def tComp (js : List Nat) (wi : TI) (tc : TT) (te : TE) : TE := fun σ H Q => wi σ H fun J H1 => ∀ p, H1 p = none → CompW J p (startC σ js) (upd H1 p (.lst [])) tc te Q
def tTrue : TT := fun _ H Q => Q true H
def PTs (X : Cx) (ifs : List Expr) (tc : TT) : Prop := (ifs = [] ∧ tc = tTrue) ∨ ∃ c, ifs = [c] ∧ PT X c tc
section
variable {X : Cx} {scope : Scope} {x y : Str} {fv : List Str} {js : List Nat} {cl : List (Str × Addr)} {elt iter : Expr} {ifs : List Expr} {px py pos spos : Pos} {wi : TI} {tc : TT} {te : TE} {i : Nat}
theorem comp_run {use : Option (Value → Sem Unit)} {R : Value → Shared → Prop} (hc : X.calm = true) (c : CompOk X scope x fv js cl) (hi : PI X (.Name x px) iter wi)
    (ht : ∀ C fp s3 H3, PTs (X.blk scope (x :: fv) cl C fp s3 H3) ifs tc) (he : ∀ C fp s3 H3, PE (X.blk scope (x :: fv) cl C fp s3 H3) elt te)
    {pins : List (Addr × Obj)} {s : Shared} {σ : St} {H : Hp} {Q : VK} (I : Inv X pins σ H s) (h : tComp js wi tc te σ H Q)
    (fin : ∀ p H' C s', Inv X pins σ H' s' → Q (.ref p) H' → H' C = none → C ≠ X.env.locals → X.s₀.heap.objs.size ≤ C → (∀ z d, X.env.cells.lookup z = some d → d ≠ C) → (∀ p ∈ X.pn ++ pins, p.1 ≠ C) → (∃ m, s'.heap.Ns C m) → compPost (model X.prog X.w) X.A X.xe use R (.ref p) C (.ok .next) s')
    (hs : ∀ x, foldedSetIterable iter X.env x = pure x) :
    wpAny (model X.prog X.w) X.A (comprehension (.ListComp elt [⟨.Name x px, iter, ifs, 0⟩] scope pos) scope X.env (firstIterPos [⟨.Name x px, iter, ifs, 0⟩] pos) (newList []) false (eval iter X.env) use) R X.xe s := by
  refine wpAny_comprehension_free rfl hs c.clos c.kind c.names (thn (hi pins s σ H _ I h) fun v s1 h1 => thn h1 fun itv s2 h2 => ?_)
  obtain ⟨it, fp, tn, J, H2, e, I2, T, st2, f2, h2⟩ := h2
  subst e
  refine wpAny_newObj_type ?_
  have I3 := I2.lnew (t' := s2.toks) (ys := []) (its := []) .nil (Nat.zero_le _)
  have hp := I2.fresh
  obtain ⟨W, ⟨m0, w0⟩, turn⟩ := h2 _ hp
  have nfp : ∀ b ∈ fp, b ≠ s2.heap.objs.size := fun b hb z => by
    obtain ⟨o, q, _⟩ := T.obj _ _ st2 b hb
    have := Heap.lt_size q
    rw [z] at this; exact absurd this (Nat.lt_irrefl _)
  have f3 : ∀ b ∈ fp, FpOk X pins (upd H2 s2.heap.objs.size (.lst [])) b := fun b hb => ⟨by rw [upd_ne (nfp b hb)]; exact (f2 b hb).1, (f2 b hb).2⟩
  have k3 : ∀ b o, s2.heap.get? b = some o → (s2.heap.push { cls := .type "list", data := .seq ([] : List Value).toArray }).get? b = some o := fun b o q => Heap.get?_push_of_some _ q
  have st3 := T.keep _ _ _ st2 fun b _ o q => k3 b o q
  have o3 : ∀ b ∈ fp, ∃ o, (s2.heap.push { cls := .type "list", data := .seq ([] : List Value).toArray }).get? b = some o := fun b hb => by
    obtain ⟨o, q, _⟩ := T.obj _ _ st3 b hb
    exact ⟨o, q⟩
  generalize hH3 : upd H2 s2.heap.objs.size (.lst []) = H3 at I3 w0 f3
  generalize hs3 : ({ s2 with heap := s2.heap.push { cls := .type "list", data := .seq ([] : List Value).toArray }, toks := s2.toks } : Shared) = s3 at I3
  have hs3h : s3.heap = s2.heap.push { cls := .type "list", data := .seq ([] : List Value).toArray } := by rw [← hs3]
  rw [← hs3h] at st3 o3
  show wpAny (model X.prog X.w) X.A (newFunctionEnv scope X.env.globals cl [] X.env.qual none .none (some X.env)) _ X.xe _
  refine wpAny_newFunctionEnv c.cell (by intro y hy; simp at hy) (fun h4 hn4 hs4 => ?_) c.kind
  have k4 : ∀ b o, s3.heap.get? b = some o → h4.get? b = some o := fun b o q => hs4.extBut b o (Nat.ne_of_lt (Heap.lt_size q)) (Heap.get?_push_of_some _ q)
  have I4 := blk_inv (fp := fp) (tk := s3.toks + ([] : List (Str × Value)).length) c I3 f3 o3 hn4 k4
  have st4 := T.keep _ _ _ st3 fun b _ o q => k4 b o q
  have stat : ∀ {H' : Hp}, (∀ b ∈ fp, H' b = none) → ∀ b ∈ fp, FpOk (X.blk scope (x :: fv) cl s3.heap.objs.size fp s3 H3) [] H' b := fun hn b hb =>
    ⟨hn b hb, (I4.ok.exf b hb).1, I4.ok.exfs b hb, .inl hb, (I4.ok.exf b hb).2, fun p hp => by cases hp⟩
  have hcl : X.calm = true := hc
  -- the loop
  have loop : ∀ s5 : Shared, s5 = { s3 with heap := h4, toks := s3.toks + ([] : List (Str × Value)).length } → codeAny (model X.prog X.w) X.A (.compLoop (.ListComp elt [⟨.Name x px, iter, ifs, 0⟩] scope pos) 0 (.ref it) (.ref s2.heap.objs.size) (compEnvC scope cl s3.heap.objs.size X.env))
      (compPost (model X.prog X.w) X.A X.xe use R (.ref s2.heap.objs.size) s3.heap.objs.size) s5 := by
    rintro s5 rfl
    refine codeAny_compLoop_tests (fun n s' => ∃ i σ' H', Inv (X.blk scope (x :: fv) cl s3.heap.objs.size fp s3 H3) [] σ' H' s' ∧ tn i s'.heap ∧ (∀ b ∈ fp, H' b = none) ∧ W i n σ' H') ?_ m0 ⟨0, startC σ js, H3, I4, st4, fun b hb => (f3 b hb).1, w0⟩
    rintro n s5 ⟨i, σ5, H5, I5, st5, fr5, w5⟩
    rcases turn i n σ5 H5 w5 with ⟨stop, qn⟩ | ⟨go, step⟩
    · refine wpAny_mono (T.done (X.blk scope (x :: fv) cl s3.heap.objs.size fp s3 H3) rfl rfl rfl hcl i [] s5 σ5 H5 (fun _ _ => False) I5 (stat fr5) st5 stop) (fun r s6 ⟨hr, I6⟩ => ?_) fun _ _ z => z.elim
      subst hr
      have chk : ∀ b ∈ fp, (b ∈ X.ex ∨ X.s₀.heap.objs.size ≤ b) ∧ b ≠ X.env.locals ∧ (∀ z d, X.env.cells.lookup z = some d → d ≠ b) ∧ ∀ p ∈ X.pn ++ pins, p.1 ≠ b := fun b hb => ⟨(f3 b hb).2.2.2.1, (f3 b hb).2.1, (f3 b hb).2.2.2.2.1, (f3 b hb).2.2.2.2.2⟩
      have un : Un (frs X.stack) fp H3 H5 s3.heap s6.heap := I6.base
      obtain ⟨m6, hn6, _⟩ := I6.loc
      refine fin s2.heap.objs.size H5 s3.heap.objs.size s6 (I3.call' I6.os un I6.hok I6.bare chk) qn I6.free (fun z => ?_) I3.sz (fun z d hz => ?_) (fun p hp => ?_) ⟨m6, hn6⟩
      · have := I3.lt
        rw [← z] at this; exact absurd this (Nat.lt_irrefl _)
      · obtain ⟨v, o, q, _⟩ := I3.cell z d hz
        exact Nat.ne_of_lt (Heap.lt_size q)
      · exact Nat.ne_of_lt (Heap.lt_size (I3.pin p hp).1)
    · refine wpAny_mono (T.item (X.blk scope (x :: fv) cl s3.heap.objs.size fp s3 H3) rfl rfl rfl hcl i [] s5 σ5 H5 (fun _ _ => False) I5 (stat fr5) st5 go) (fun r s6 ⟨u, hr, h6⟩ => ?_) fun _ _ z => z.elim
      subst hr
      refine wpAny_pure_then rfl h6 fun ⟨v, H6, I6, r6, y6, st6, fr6⟩ => ?_
      have I6' := I6.pinned (stat fr6) (T.obj _ _ st6)
      have hg := pg_name (X := X.blk scope (x :: fv) cl s3.heap.objs.size fp s3 H3) (i := 0) (x := x) (pos := px) c.nd rfl (.inl (lookup_relabel_local c.loc)) (.inr (lookup_relabel_local c.loc))
      refine wpAny_mono (hg _ s6 σ5 H6 v u (fun σ' H' => σ' = σ5.set 0 (some v) ∧ H' = H6) I6' r6 ⟨rfl, rfl⟩) (fun _ s7 ⟨σ7, H7, I7, e7, e7'⟩ => ?_) fun _ _ z => z.elim
      subst e7 e7'
      have st := step v _ y6
      have tst : wpAny (model X.prog X.w) X.A (forIn ifs true fun c r => if r = true then do let ok ← isTrue c (compEnvC scope cl s3.heap.objs.size X.env) (eval c (compEnvC scope cl s3.heap.objs.size X.env)); pure (ForInStep.yield ok) else pure (ForInStep.yield r))
          (TP (X.blk scope (x :: fv) cl s3.heap.objs.size fp s3 H3) ([] ++ pinsAt fp s6.heap) (σ5.set 0 (some v)) fun b H3 => if b = true then te (σ5.set 0 (some v)) H3 fun y H4 => ∃ ys, H4 s2.heap.objs.size = some (.lst ys) ∧ ys.length < sizeLine ∧ ∃ m', m' < n ∧ W (i + 1) m' (σ5.set 0 (some v)) (upd H4 s2.heap.objs.size (.lst (ys ++ [y]))) else ∃ m', m' < n ∧ W (i + 1) m' (σ5.set 0 (some v)) H3) (fun _ _ => False) s7 := by
        rcases ht s3.heap.objs.size fp s3 H3 with ⟨e1, e2⟩ | ⟨cc, e1, e2⟩
        · subst e1
          rw [e2] at st
          exact wpAny_tests_nil ⟨_, I7, st⟩
        · subst e1
          exact wpAny_tests_one (e2 _ s7 _ _ _ I7 st)
      have again : ∀ {H8 : Hp} {s8 : Shared} {m'}, Inv (X.blk scope (x :: fv) cl s3.heap.objs.size fp s3 H3) ([] ++ pinsAt fp s6.heap) (σ5.set 0 (some v)) H8 s8 → m' < n → W (i + 1) m' (σ5.set 0 (some v)) H8 →
          ∃ m, m < n ∧ ∃ i σ' H', Inv (X.blk scope (x :: fv) cl s3.heap.objs.size fp s3 H3) [] σ' H' s8 ∧ tn i s8.heap ∧ (∀ b ∈ fp, H' b = none) ∧ W i m σ' H' := fun {H8 s8 m'} I8 hm w8 => by
        refine ⟨m', hm, i + 1, _, H8, I8.unpinned, T.keep _ _ _ st6 fun b hb o e => (I8.pin (b, o) (mem_pinsAt hb e)).1, fun b hb => ?_, w8⟩
        obtain ⟨o, e, _⟩ := T.obj _ _ st6 b hb
        exact (I8.pin (b, o) (mem_pinsAt hb e)).2.1
      refine wpAny_mono tst (fun ok s8 ⟨H8, I8, q8⟩ => ?_) fun _ _ z => z.elim
      cases ok with
      | false =>
        rw [if_neg Bool.false_ne_true] at q8 ⊢
        obtain ⟨m', hm, w8⟩ := q8
        exact again I8 hm w8
      | true =>
        rw [if_pos rfl] at q8 ⊢
        refine wpAny_mono (he s3.heap.objs.size fp s3 H3 _ s8 _ H8 _ I8 q8) (fun z s9 ⟨y9, H9, I9, r9, ys, g1, g2, m', hm, w9⟩ => ?_) fun _ _ z => z.elim
        refine wpAny_mono (mt_append (X := X.blk scope (x :: fv) cl s3.heap.objs.size fp s3 H3) _ s9 _ H9 (.ref s2.heap.objs.size) [y9] (.ref s2.heap.objs.size) [z] (fun _ H' => H' = upd H9 s2.heap.objs.size (.lst (ys ++ [y9]))) I9 rfl (.cons r9 .nil) ⟨_, ys, y9, rfl, rfl, g1, g2, rfl⟩) (fun _ s10 ⟨_, H10, I10, _, e10⟩ => ?_) fun _ _ z => z.elim
        subst e10
        exact again I10 hm w9
  exact codeAny_compStart_list (loop _ rfl) (T.self _ 0 _ _ _ st4 (loop _ rfl))
theorem pe_comp (hc : X.calm = true) (c : CompOk X scope x fv js cl) (hi : PI X (.Name x px) iter wi) (ht : ∀ C fp s3 H3, PTs (X.blk scope (x :: fv) cl C fp s3 H3) ifs tc) (he : ∀ C fp s3 H3, PE (X.blk scope (x :: fv) cl C fp s3 H3) elt te)
    (hs : ∀ x, foldedSetIterable iter X.env x = pure x := by intro _; rfl) : PE X (.ListComp elt [⟨.Name x px, iter, ifs, 0⟩] scope pos) (tComp js wi tc te) := by
  intro pins s σ H Q I h
  rw [eval_ListComp]
  exact comp_run (use := none) hc c hi ht he I h (fun p H' C s' I' q n0 n1 n2 n3 n4 ⟨m, hn⟩ => ⟨m, hn, fun h' hs' => ⟨.ref p, H', I'.turned (t' := s'.toks) (fun b o hb e => (hs'.2 b hb).trans e) n0 n1 (.inr n2) n3 n4, rfl, q⟩⟩) hs
theorem ps_setComp (hc : X.calm = true) (c : CompOk X scope x fv js cl) (hi : PI X (.Name x px) iter wi) (ht : ∀ C fp s3 H3, PTs (X.blk scope (x :: fv) cl C fp s3 H3) ifs tc) (he : ∀ C fp s3 H3, PE (X.blk scope (x :: fv) cl C fp s3 H3) elt te)
    (hN : X.N.Nodup) (hi' : X.N[i]? = some y) (hx : Loc X.env.scope y) (hsw : swapsWith (.ListComp elt [⟨.Name x px, iter, ifs, 0⟩] scope pos) (some (.Name y py)) spos.line X.env = pure true) (hf : X.fn y = true ∨ X.env.scope.names.lookup y = some .local := by first | exact .inl rfl | exact .inr rfl)
    (hs : ∀ x, foldedSetIterable iter X.env x = pure x := by intro _; rfl) : PS X (.Assign [.Name y py] (.ListComp elt [⟨.Name x px, iter, ifs, 0⟩] scope pos) spos) (tAsg (tComp js wi tc te) (gName i)) := by
  intro pins s σ H D I h
  rw [exec_Assign_Name_used _ _ _ _ hsw]
  refine wpAny_bind (wpAny_standAt (wpAny_bind ?_))
  show wpAny _ X.A (do let _ ← comprehension (.ListComp elt [⟨.Name x px, iter, ifs, 0⟩] scope pos) scope X.env _ (newList []) false (eval iter X.env) (some (assign (.Name y py) X.env))) _ _ s
  refine wpAny_bind (wpAny_mono (comp_run (use := some (assign (.Name y py) X.env)) (R := fun _ s' => ∃ σ' H', Inv X pins σ' H' s' ∧ D.nx σ' H') hc c hi ht he I h (fun p H' C s' I' q n0 n1 n2 n3 n4 ⟨m, hn⟩ => ?_) hs) (fun _ s' q => wpAny_pure (wpAny_pure q)) fun _ _ z => z)
  show wpAny _ X.A (assign (.Name y py) X.env (.ref p)) _ _ s'
  refine wpAny_assign_Name (store_ok2 I' hN hi' hx (v := .ref p) rfl (fun s2 I2 hb => ?_) hf)
  obtain ⟨a, hsb, ha⟩ := hb
  have nC : C ≠ a := by
    rcases ha with rfl | ha
    · exact n1
    · exact (n3 _ _ ha).symm
  exact ⟨m, hn.sameBut hsb nC, fun h' hs' => ⟨_, H', I2.turned (t' := s2.toks) (fun b o hb e => (hs'.2 b hb).trans e) n0 n1 (.inr n2) n3 n4, q⟩⟩
end
end L2
namespace L2
open PySem PySem.Spec PyProof.Rows
/-! ### more operations: texts, equal lists, index -/
abbrev TupsAt (H : Hp) : List V → List (List V) → Prop := Paired fun v vs => ∃ a, v = .ref a ∧ H a = some (.tup vs)
theorem TupsAt.same {H H' : Hp} (e : Same H H') {rs : List V} {vss : List (List V)} (h : TupsAt H rs vss) : TupsAt H' rs vss := Paired.mapP h fun _ _ ⟨a, h1, h2⟩ => ⟨a, h1, e _ _ h2⟩
theorem TupsAt.get {H : Hp} : ∀ {rs : List V} {vss : List (List V)} {i : Nat} {v : V}, TupsAt H rs vss → rs[i]? = some v → ∃ a vs, v = .ref a ∧ H a = some (.tup vs) ∧ vss[i]? = some vs
  | _, _, _, _, .nil, e => by simp at e
  | _, _, 0, _, .cons ⟨a, h1, h2⟩ _, e => by simp at e; subst e; exact ⟨a, _, h1, h2, rfl⟩
  | _, _, i + 1, v, .cons _ t, e => by
    obtain ⟨a, vs, h1, h2, h3⟩ := TupsAt.get (i := i) (v := v) t (by simpa using e)
    exact ⟨a, vs, h1, h2, by simpa using h3⟩
theorem TupsAt.at {H : Hp} : ∀ {rs : List V} {vss : List (List V)} {i : Nat} {vs : List V}, TupsAt H rs vss → vss[i]? = some vs → ∃ a, rs[i]? = some (.ref a) ∧ H a = some (.tup vs)
  | _, _, _, _, .nil, e => by simp at e
  | _, _, 0, _, .cons ⟨a, h1, h2⟩ _, e => by simp at e; subst e h1; exact ⟨a, rfl, h2⟩
  | _, _, i + 1, vs, .cons _ t, e => by
    obtain ⟨a, h1, h2⟩ := TupsAt.at (i := i) (vs := vs) t (by simpa using e)
    exact ⟨a, by simpa using h1, h2⟩
theorem TupsAt.len {H : Hp} {rs : List V} {vss : List (List V)} (h : TupsAt H rs vss) : rs.length = vss.length := Paired.length h
theorem TupsAt.append {H : Hp} : ∀ {rs ts : List V} {vss wss : List (List V)}, TupsAt H rs vss → TupsAt H ts wss → TupsAt H (rs ++ ts) (vss ++ wss)
  | _, _, _, _, .nil, h => h
  | _, _, _, _, .cons a t, h => .cons a (TupsAt.append t h)
theorem TupsAt.take {H : Hp} : ∀ {rs : List V} {vss : List (List V)} (n : Nat), TupsAt H rs vss → TupsAt H (rs.take n) (vss.take n)
  | _, _, 0, _ => .nil
  | _, _, _ + 1, .nil => .nil
  | _, _, n + 1, .cons a t => .cons a (TupsAt.take n t)
theorem TupsAt.drop {H : Hp} : ∀ {rs : List V} {vss : List (List V)} (n : Nat), TupsAt H rs vss → TupsAt H (rs.drop n) (vss.drop n)
  | _, _, 0, h => h
  | _, _, _ + 1, .nil => .nil
  | _, _, n + 1, .cons _ t => TupsAt.drop n t
def isv : V → Bool
  | .int _ => true
  | .str _ => true
  | _ => false
theorem flat_isv {v : V} (h : isv v = true) : flatV v = true := by cases v <;> first | rfl | cases h
theorem eqV_isv {a b : V} (ha : isv a = true) (hb : isv b = true) : eqV a b = decide (a = b) := by
  cases a <;> cases ha <;> cases b <;> cases hb
  · rename_i i j; show (i == j) = _; rw [dec_int]
  · exact (decide_eq_false (fun z => by cases z)).symm
  · exact (decide_eq_false (fun z => by cases z)).symm
  · rename_i i j; show (i == j) = _; rw [dec_str]
section
variable {X : Cx} {pins : List (Addr × Obj)} {σ : St} {H : Hp} {s : Shared} {A : Around}
theorem all_range {α : Type} [DecidableEq α] : ∀ (xs ys : List α), ((List.range (min xs.length ys.length)).all (fun j => decide (xs[j]? = ys[j]?)) && xs.length == ys.length) = decide (xs = ys) := by
  intro xs ys
  rw [Bool.eq_iff_iff]
  simp only [Bool.and_eq_true, List.all_eq_true, List.mem_range, decide_eq_true_eq, beq_iff_eq]
  constructor
  · rintro ⟨h1, h2⟩
    apply List.ext_getElem?
    intro i
    by_cases hi : i < xs.length
    · exact h1 i (by omega)
    · rw [List.getElem?_eq_none (by omega), List.getElem?_eq_none (by omega)]
  · rintro rfl
    exact ⟨fun _ _ => rfl, rfl⟩
theorem eqAt_tup {a b : Addr} {vs ws : List V} (I : Inv X pins σ H s) (ha : H a = some (.tup vs)) (hb : H b = some (.tup ws)) (fv : vs.all isv = true) (fw : ws.all isv = true) (hu : A.units < cLine) : SeqAt.EqAt A s (.ref a) (.ref b) (decide (vs = ws)) := by
  by_cases e : a = b
  · subst e
    rw [ha] at hb; cases hb
    rw [decide_eq_true rfl]
    exact SeqAt.EqAt.same _
  · obtain ⟨its, r1, p1, _⟩ := I.tuple (SqT.of (K := X.K) ha)
    obtain ⟨its2, r2, p2, _⟩ := I.tuple (SqT.of (K := X.K) hb)
    have l1 := r1.length
    have l2 := r2.length
    refine SeqAt.EqAt.of_refs e ?_
    have key := SeqAt.RcAt.tuples (A := A) (s := s) (e := fun j => decide (vs[j]? = ws[j]?)) p1 p2 hu fun j h1 h2 => ?_
    · rw [List.size_toArray, List.size_toArray, ← l1, ← l2, all_range] at key
      exact key
    · rw [List.size_toArray] at h1 h2
      have g1 : vs[j]? = some vs[j] := List.getElem?_eq_getElem (by omega)
      have g2 : ws[j]? = some ws[j] := List.getElem?_eq_getElem (by omega)
      obtain ⟨u1, q1, ru1⟩ := r1.get g1
      obtain ⟨u2, q2, ru2⟩ := r2.get g2
      have i1 := List.all_eq_true.mp fv _ (List.mem_of_getElem? g1)
      have i2 := List.all_eq_true.mp fw _ (List.mem_of_getElem? g2)
      have e1 : its.toArray[j] = u1 := by
        rw [List.getElem?_eq_getElem (by omega)] at q1
        simpa using Option.some.inj q1
      have e2 : its2.toArray[j] = u2 := by
        rw [List.getElem?_eq_getElem (by omega)] at q2
        simpa using Option.some.inj q2
      show SeqAt.EqAt A.in1 s its.toArray[j] its2.toArray[j] (decide (vs[j]? = ws[j]?))
      have e3 : (decide (vs[j]? = ws[j]?)) = eqV vs[j] ws[j] := by
        rw [eqV_isv i1 i2, g1, g2]
        exact decide_eq_decide.mpr ⟨Option.some.inj, congrArg some⟩
      rw [e1, e2, e3]
      exact eqAt_V ru1 ru2 (flat_isv i1) (flat_isv i2)
def rEqT (K : PySem.W.Frag) (neg : Bool) : R2 := fun x y H Q => ∃ a b rs ts vss wss, x = .ref a ∧ y = .ref b ∧ SqL K H a rs ∧ SqL K H b ts ∧ TupsAt H rs vss ∧ TupsAt H ts wss ∧ (∀ vs ∈ vss, vs.all isv = true) ∧ (∀ vs ∈ wss, vs.all isv = true) ∧ Q (.bl (if neg then !decide (vss = wss) else decide (vss = wss))) H
theorem lists_eqAt {a b : Addr} {rs ts : List V} {vss wss : List (List V)} {its its2 : List Value} (I : Inv X pins σ H s) (r1 : Vals rs its) (r2 : Vals ts its2) (t1 : TupsAt H rs vss) (t2 : TupsAt H ts wss)
    (f1 : ∀ vs ∈ vss, vs.all isv = true) (f2 : ∀ vs ∈ wss, vs.all isv = true) (hu : A.units + 1 < cLine) (j : Nat) (h1 : j < its.toArray.size) (h2 : j < its2.toArray.size) : SeqAt.EqAt A.in1 s its.toArray[j] its2.toArray[j] (decide (vss[j]? = wss[j]?)) := by
  have l1 := r1.length
  have l2 := r2.length
  have l3 := t1.len
  have l4 := t2.len
  rw [List.size_toArray] at h1 h2
  have g1 : rs[j]? = some rs[j] := List.getElem?_eq_getElem (by omega)
  have g2 : ts[j]? = some ts[j] := List.getElem?_eq_getElem (by omega)
  obtain ⟨u1, q1, ru1⟩ := r1.get g1
  obtain ⟨u2, q2, ru2⟩ := r2.get g2
  obtain ⟨p, vs, z1, z2, z3⟩ := t1.get g1
  obtain ⟨q, ws, y1, y2, y3⟩ := t2.get g2
  rw [z1] at ru1
  rw [y1] at ru2
  cases ru1
  cases ru2
  have e1 : its.toArray[j] = Value.ref p := by
    rw [List.getElem?_eq_getElem (by omega)] at q1
    simpa using Option.some.inj q1
  have e2 : its2.toArray[j] = Value.ref q := by
    rw [List.getElem?_eq_getElem (by omega)] at q2
    simpa using Option.some.inj q2
  have e3 : (decide (vss[j]? = wss[j]?)) = decide (vs = ws) := by
    rw [z3, y3]
    exact decide_eq_decide.mpr ⟨Option.some.inj, congrArg some⟩
  rw [e1, e2, e3]
  exact eqAt_tup I z2 y2 (f1 vs (List.mem_of_getElem? z3)) (f2 ws (List.mem_of_getElem? y3)) (by show A.units + 1 < cLine; exact hu)
theorem op_eqL (hu : X.A.units + 1 < cLine) : OpR X (compareOp .Eq) (rEqT X.K false) := by
  intro pins s σ H x y v u Q I rx ry h
  obtain ⟨a, b, rs, ts, vss, wss, rfl, rfl, h1, h2, t1, t2, f1, f2, q⟩ := h
  cases rx
  cases ry
  obtain ⟨its, r1, p1, _⟩ := I.list h1
  obtain ⟨its2, r2, p2, _⟩ := I.list h2
  have l1 := r1.length
  have l2 := r2.length
  have l3 := t1.len
  have l4 := t2.len
  rw [if_neg (by decide)] at q
  by_cases hl : vss.length = wss.length
  · refine SeqAt.eq_listAt p1.isList p2.isList (by simp; omega) (by omega) (fun j z1 z2 => lists_eqAt (a := a) (b := b) I r1 r2 t1 t2 f1 f2 hu j z1 z2) ⟨.bl _, H, I, rfl, ?_⟩
    have e := all_range vss wss
    rw [hl, Nat.min_self, beq_self_eq_true, Bool.and_true] at e
    rw [List.size_toArray, show its.length = wss.length by omega, e]
    exact q
  · refine SeqAt.eq_list_lengthsAt p1.isList p2.isList (by simp; omega) (by omega) ⟨.bl _, H, I, rfl, ?_⟩
    rw [decide_eq_false (fun z => hl (by rw [z]))] at q
    exact q
def rEqE (K : PySem.W.Frag) (neg : Bool) : R2 := fun x y H Q => ∃ a b xs, x = .ref a ∧ y = .ref b ∧ SqL K H a xs ∧ SqL K H b [] ∧ Q (.bl (if neg then !xs.isEmpty else xs.isEmpty)) H
theorem op_neE (hu : X.A.units < cLine) : OpR X (compareOp .NotEq) (rEqE X.K true) := by
  intro pins s σ H x y v u Q I rx ry h
  obtain ⟨a, b, xs, rfl, rfl, h1, h2, q⟩ := h
  cases rx
  cases ry
  obtain ⟨its, r1, p1, _⟩ := I.list h1
  obtain ⟨its2, r2, p2, _⟩ := I.list h2
  have l1 := r1.length
  have l2 : its2 = [] := by cases r2; rfl
  subst l2
  cases xs with
  | nil =>
    have : its = [] := by cases r1; rfl
    subst this
    exact SeqAt.RcNeAt.lists (e := fun _ => true) p1.isList p2.isList rfl hu (fun j z1 _ => absurd z1 (by simp)) X.prog X.w X.xe _ ⟨.bl _, H, I, rfl, q⟩
  | cons z zs => exact SeqAt.RcNeAt.lists_lengths p1.isList p2.isList (by simp only [List.size_toArray, ← l1]; rfl) hu X.prog X.w X.xe _ ⟨.bl _, H, I, rfl, q⟩
def rIndex : V → List V → Hp → VK → Prop := fun x vs H Q => ∃ l xs y j, x = .ref l ∧ vs = [y] ∧ H l = some (.lst xs) ∧ flatV y = true ∧ xs.all flatV = true ∧ (∃ z, xs[j]? = some z ∧ eqV z y = true) ∧ (∀ i z, i < j → xs[i]? = some z → eqV z y = false) ∧ Q (.int (j : Nat)) H
theorem mt_index : MtR X "list.index" rIndex := by
  intro pins s σ H x vs v us Q I rx rv h
  obtain ⟨l, xs, y, j, rfl, rfl, hH, fy, fs, ⟨z, hz, ez⟩, hno, q⟩ := h
  cases rx
  obtain ⟨u, rfl, ru⟩ := rv.one
  obtain ⟨sz, its, n, r, hl, e⟩ := I.lstM hH
  obtain ⟨w, hw, rw'⟩ := r.get hz
  have hj : j < its.length := (List.getElem?_eq_some_iff.mp hw).1
  have at_ : ∀ i (hi : i < its.length) z', xs[i]? = some z' → eqU y its[i] = eqV z' y := fun i hi z' hz' => by
    obtain ⟨w', hw', rw2⟩ := r.get hz'
    rw [List.getElem?_eq_getElem hi] at hw'
    rw [Option.some.inj hw']
    exact eqU_of rw2 (List.all_eq_true.mp fs _ (List.mem_of_getElem? hz'))
  refine call_meets F.slot_list_index ⟨_, e, rfl⟩ F.entry_list_index (F.args_list_index_2 _ _) (SeqAt.list_indexAt l its.toArray n none #[] u (eqU y) j (by simpa using hj) ?_ ?_ ?_) ⟨e, fun w' hw' => mem_eqAt ru fy r fs w' (by simpa using hw'), ?_⟩
  · have := line63; omega
  · show eqU y its.toArray[j] = true
    rw [List.getElem_toArray, at_ j hj z hz]; exact ez
  · intro m hm hmj
    have hm' : m < its.length := by simpa using hm
    show eqU y its.toArray[m] = false
    have g : xs[m]? = some xs[m] := List.getElem?_eq_getElem (by omega)
    rw [List.getElem_toArray, at_ m hm' _ g]
    exact hno m _ hmj g
  · exact ⟨.int j, H, I.tok _, ⟨_, rfl⟩, q⟩
def rMulS : R2 := fun x y H Q => ∃ z n, x = .str z ∧ y = .int n ∧ 1 < n ∧ n ≤ 1000 ∧ 1 ≤ z.length ∧ z.length ≤ 1000 ∧ ∀ t : Str, t.length ≤ 1000000 → Q (.str t) H
theorem foldl_size (l : List (Array Nat)) : ∀ acc : Array Nat, (l.foldl (· ++ ·) acc).size = acc.size + (l.map (·.size)).sum := by
  induction l with
  | nil => intro acc; simp
  | cons a r ih => intro acc; rw [List.foldl_cons, ih]; simp; omega
theorem op_mul_str : OpR X (binaryOp .Mult) rMulS := by
  intro pins s σ H x y v u Q I rx ry h
  obtain ⟨z, n, rfl, rfl, n1, n2, z1, z2, q⟩ := h
  obtain ⟨t, rfl⟩ := rx
  obtain ⟨t', rfl⟩ := ry
  have hc : (n == 1 || z.length == 0) = false := by
    rw [Bool.or_eq_false_iff]
    exact ⟨by simp; omega, by simp; omega⟩
  have hm : z.length * n.toNat ≤ 1000000 := Nat.le_trans (Nat.mul_le_mul z2 (show n.toNat ≤ 1000 by omega)) (by decide)
  have hlen : (⟨(List.replicate n.toNat z.cps).foldl (· ++ ·) #[]⟩ : Str).length = z.length * n.toNat := by
    show ((List.replicate n.toNat z.cps).foldl (· ++ ·) #[]).size = _
    rw [foldl_size]
    simp [List.map_replicate, List.sum_replicate_nat]
    exact Nat.mul_comm _ _
  refine P.mul_str ?_ (fun _ _ => ?_) (fun _ _ => ?_) ?_
  · rw [Bool.or_eq_false_iff]
    exact ⟨decide_eq_false (by omega), decide_eq_false (by omega)⟩
  · have h1 : (z.length : Int) ≤ (2 ^ 63 - 1) / n := by
      refine Int.le_ediv_of_mul_le (by omega) ?_
      have h2 : (z.length : Int) * n = ((z.length * n.toNat : Nat) : Int) := by
        rw [Int.natCast_mul, Int.toNat_of_nonneg (by omega)]
      rw [h2]
      omega
    omega
  · unfold Builtin.Str.tooLong
    exact decide_eq_false (by have : (sizeLine : Nat) = 16777216 := rfl; omega)
  · rw [if_neg (by omega), if_neg (by rw [hc]; decide)]
    refine ⟨by rw [hlen]; exact Nat.le_of_lt (small_of hm), ⟨.str _, H, I.tok _, ⟨_, rfl⟩, q _ (by rw [hlen]; exact hm)⟩⟩
def rSlS : V → Option Int → Option Int → Hp → VK → Prop := fun x _ _ H Q => ∃ z, x = .str z ∧ z.length ≤ sizeLine ∧ ∀ t : Str, t.length ≤ z.length → Q (.str t) H
theorem sl_str : SlR X rSlS := by
  intro pins s σ H x v vl vu lo hi sl Q I rx hs pl pu h
  obtain ⟨z, rfl, hz, q⟩ := h
  obtain ⟨t, rfl⟩ := rx
  have part : ∀ {v : Value} {o : Option Int}, IsPart v o → ∃ p, v = partValue p := fun {v o} p => by
    cases p with
    | none => exact ⟨none, rfl⟩
    | int i t => exact ⟨some (i, t), rfl⟩
  obtain ⟨l, rfl⟩ := part pl
  obtain ⟨r, rfl⟩ := part pu
  refine ⟨"str", _, F.slot_str_getitem.lookup, typeIs_str _ _ _, wpAny_getItem_str_slice (l := l) (u := r) (st := none) hs rfl ?_⟩
  unfold sliceMade
  have len : (if ((((none : Option (Int × Tok)).map (·.1)).getD 1 == 1 && (slicePicked z l r none).length == z.length) = true) then z else (⟨((slicePicked z l r none).filterMap (z.cps[·]?)).toArray⟩ : Str)).length ≤ z.length := by
    split
    · exact Nat.le_refl _
    · show ((slicePicked z l r none).filterMap (z.cps[·]?)).toArray.size ≤ _
      rw [List.size_toArray]
      exact Nat.le_trans (List.length_filterMap_le _ _) (sliceIndices_le _ _ _)
  exact post_val_or_str ⟨Nat.le_trans len hz, fun t' k => ⟨.str _, H, I.tok _, ⟨_, rfl⟩, q _ len⟩⟩
def Its (x : Str) : It := ⟨fun i _ => i < x.length, fun i H v H' => H' = H ∧ ∃ c, x.cps[i]? = some c ∧ v = .str ⟨#[c]⟩, fun i _ => x.length ≤ i⟩
theorem turn_str {P : Program} {w : World} {K : PySem.W.Frag} {tg : Expr} (x : Str) (t : Tok) (it : Addr) : Turn P w K tg (Its x) [it] it (fun i h => h.IsStrIter it "str_ascii_iterator" x t i) where
  mem := by simp
  obj := fun i h st b hb => by
    have e : b = it := by simpa using hb
    subst e
    obtain ⟨o, e, c, d⟩ := st
    exact ⟨o, e, fun v z => by rw [d] at z; cases z⟩
  keep := fun i h h' st k => let ⟨o, e, r⟩ := st; ⟨o, k it (by simp) o e, r⟩
  item := by
    intro X hP hw hK hc i pins s σ H E I hf st hg
    subst hP hw hK
    have hi : i < x.cps.size := hg
    obtain ⟨f0, f1, f2, f3, f4, f5⟩ := hf it (by simp)
    refine wpAny_pyNext_ascii_item st (c := x.cps[i]) (Array.getElem?_eq_getElem hi) fun h' st' sb => ?_
    have I1 : Inv X pins σ H { s with heap := h', toks := s.toks + 1 } := I.turned (fun b o hb e => (sb.2 b hb).trans e) f0 f1 f3 f4 f5
    obtain ⟨o, e, c, d⟩ := id st'
    exact ⟨_, rfl, go_of (s := { s with heap := h', toks := s.toks + 1 }) e c d (by decide) ⟨.str ⟨#[x.cps[i]]⟩, H, I1, ⟨_, rfl⟩, ⟨rfl, _, Array.getElem?_eq_getElem hi, rfl⟩, st', fun b hb => (hf b hb).1⟩⟩
  done := by
    intro X hP hw hK hc i pins s σ H E I hf st hg
    subst hP hw hK
    have hi : x.cps.size ≤ i := hg
    obtain ⟨f0, f1, f2, f3, f4, f5⟩ := hf it (by simp)
    exact wpAny_pyNext_ascii_end (I.ok.hd hc) st (Array.getElem?_eq_none hi) fun h' eb => ⟨rfl, I.turned (t' := s.toks) (fun b o hb e => eb b o hb e) f0 f1 f3 f4 f5⟩
  self := fun _ _ _ _ _ st h => wpAny_pyIter_striter_ascii st h
def iStr (x : Str) : TI := fun _ H R => R (Its x) H
theorem pi_strC {tg : Expr} {x : Str} {j} {pos : Pos} (ha : x.cps.all (· < 128) = true) : PI X tg (.Constant (.str x) j pos) (iStr x) := by
  intro pins s σ H R I h
  refine thn (pe_str (X := X) (x := x) (j := j) (pos := pos) pins s σ H (fun v H' => v = .str x ∧ H' = H) I ⟨rfl, rfl⟩) fun v s1 ⟨y, H1, I1, r1, e1, e2⟩ => ?_
  subst e1 e2
  obtain ⟨t, rfl⟩ := r1
  refine wpAny_pyIter_ascii ha ?_
  refine ⟨s1.heap.objs.size, [s1.heap.objs.size], _, _, _, rfl, I1.kept (t' := s1.toks) fun b o e => Heap.get?_push_of_some _ e, turn_str x t _, ⟨_, Heap.get?_push_size _ rfl, rfl, rfl⟩, fun b hb => ?_, h⟩
  have e : b = s1.heap.objs.size := by simpa using hb
  subst e
  exact I1.fpOk (Nat.le_refl _) (I1.hok.fresh (Nat.le_refl _))
end
end L2
namespace L2
open PySem PySem.Spec PyProof.Rows
/-! ### comprehensions in short -/
theorem comp_list {K : PySem.W.Frag} {a p : Addr} (xs : List V) {js : List Nat} {σ : St} {H : Hp} {tc : TT} {te : TE} {Q : VK} (Pv : Nat → St → Hp → Prop) (h0 : Pv 0 (startC σ js) (upd H p (.lst []))) (hl : ∀ i σ H, i ≤ xs.length → Pv i σ H → SqL K H a xs)
    (hs : ∀ i x σ' H', xs[i]? = some x → Pv i σ' H' → ∀ R : St → Hp → Prop, (∀ σ H, Pv (i + 1) σ H → R σ H) → tc (σ'.set 0 (some x)) H' fun b H3 => if b = true then te (σ'.set 0 (some x)) H3 fun y H4 => ∃ ys, H4 p = some (.lst ys) ∧ ys.length < sizeLine ∧ R (σ'.set 0 (some x)) (upd H4 p (.lst (ys ++ [y]))) else R (σ'.set 0 (some x)) H3)
    (hd : ∀ σ H, Pv xs.length σ H → Q (.ref p) H) :
    CompW (Itl K a) p (startC σ js) (upd H p (.lst [])) tc te Q := by
  refine ⟨fun i m σ H => m = xs.length - i ∧ i ≤ xs.length ∧ Pv i σ H, ⟨xs.length, by simp, Nat.zero_le _, h0⟩, ?_⟩
  rintro i m σ' H' ⟨rfl, hi, hP⟩
  have hL := hl i σ' H' hi hP
  by_cases e : i = xs.length
  · subst e
    exact .inl ⟨⟨xs, hL, Nat.le_refl _⟩, hd σ' H' hP⟩
  · have hlt : i < xs.length := by omega
    refine .inr ⟨⟨xs, xs[i], hL, List.getElem?_eq_getElem hlt⟩, ?_⟩
    rintro x H'' ⟨rfl, hx⟩
    exact hs i x σ' _ (hx xs hL) hP (fun σ2 H2 => ∃ m', m' < xs.length - i ∧ m' = xs.length - (i + 1) ∧ i + 1 ≤ xs.length ∧ Pv (i + 1) σ2 H2) fun σ2 H2 q => ⟨xs.length - (i + 1), by omega, rfl, by omega, q⟩
theorem comp_pure {K : PySem.W.Frag} {a p : Addr} {xs : List V} {js : List Nat} {σ : St} {H : Hp} {tc : TT} {te : TE} {Q : VK} (b : V → Bool) (f : V → V) (hL : SqL K H a xs) (hp : H p = none) (hz : xs.length ≤ 1000000)
    (ht : ∀ x ∈ xs, ∀ H', Same H H' → ∀ R : Bool → Hp → Prop, R (b x) H' → tc (some x :: js.map fun j => (σ[j]?).join) H' R) (he : ∀ x ∈ xs, ∀ H', Same H H' → ∀ R : VK, R (f x) H' → te (some x :: js.map fun j => (σ[j]?).join) H' R)
    (hd : Q (.ref p) (upd H p (.lst ((xs.filter b).map f)))) :
    CompW (Itl K a) p (startC σ js) (upd H p (.lst [])) tc te Q := by
  refine comp_list xs (fun i σ' H' => (∃ v, σ' = v :: js.map fun j => (σ[j]?).join) ∧ H' = upd H p (.lst (((xs.take i).filter b).map f))) ⟨⟨none, rfl⟩, rfl⟩ (fun i σ' H' _ h => ?_) ?_ ?_
  · rw [h.2]; exact (Same.new hp).seq hL
  · rintro i x σ' H' hx ⟨⟨v, rfl⟩, rfl⟩ R hR
    have hlt : i < xs.length := (List.getElem?_eq_some_iff.mp hx).1
    have hm := List.mem_of_getElem? hx
    have htk : xs.take (i + 1) = xs.take i ++ [x] := by rw [List.take_add_one, hx]; rfl
    refine ht x hm _ (Same.new hp) _ ?_
    cases e : b x with
    | false =>
      rw [if_neg Bool.false_ne_true]
      exact hR _ _ ⟨⟨_, rfl⟩, by rw [htk, List.filter_append]; simp [e]⟩
    | true =>
      rw [if_pos rfl]
      refine he x hm _ (Same.new hp) _ ⟨_, upd_same, ?_, hR _ _ ⟨⟨_, rfl⟩, ?_⟩⟩
      · rw [List.length_map]
        refine small_of (Nat.le_trans (List.length_filter_le _ _) ?_)
        rw [List.length_take]; omega
      · rw [upd_upd, htk, List.filter_append]; simp [e]
  · rintro σ' H' ⟨_, rfl⟩
    rw [List.take_length]
    exact hd
end L2
namespace RW
open PySem L2
/-! ### the book, mirrored -/
structure Bkg where
  name : Str
  room : Int
  start : Int
  stop : Int
  weeks : Int
  deriving DecidableEq
def Bkg.vs (r : Bkg) : List V := [.str r.name, .int r.room, .int r.start, .int r.stop, .int r.weeks]
theorem Bkg.isv (r : Bkg) : r.vs.all L2.isv = true := rfl
def Bkg.hours (r : Bkg) : List Int := hrs r.start r.stop r.weeks
def noSpan (r : Bkg) : Bool := decide (r.start < 0) || (decide (r.stop ≤ r.start) || (decide (168 < r.stop - r.start) || decide (r.weeks < 1)))
def clash (m r : Bkg) : Bool := decide (r.room = m.room) && meetB r.start r.stop r.weeks m.start m.stop m.weeks
inductive Deed where
  | book (m : Bkg)
  | cancel (n : Str)
  | move (n : Str) (room start : Int)
def Deed.vs : Deed → List V
  | .book m => .str "book" :: m.vs
  | .cancel n => [.str "cancel", .str n]
  | .move n room beg => [.str "move", .str n, .int room, .int beg]
def named (rows : List Bkg) (n : Str) : Bool := rows.any fun r => decide (r.name = n)
def others (rows : List Bkg) (spot : Nat) (m : Bkg) : Bool := (List.range rows.length).any fun k => decide (k ≠ spot) && (match rows[k]? with | some r => clash m r | none => false)
def settle (rows : List Bkg) (spot : Nat) (m : Bkg) : Str × List Bkg := if others rows spot m then ("taken", rows) else ("done", rows.take spot ++ [m] ++ rows.drop (spot + 1))
def movedRow (rows : List Bkg) (i : Nat) (n : Str) (room start : Int) : Bkg :=
  match rows[i]? with
  | some r => ⟨n, room, start, start + r.stop - r.start, r.weeks⟩
  | none => ⟨n, room, start, start, 0⟩
def judge (rows : List Bkg) : Deed → Str × List Bkg
  | .book m => if noSpan m then ("no span", rows) else if named rows m.name then ("same name", rows) else settle rows rows.length m
  | .cancel n => if named rows n then ("done", rows.filter fun r => !decide (r.name = n)) else ("no name", rows)
  | .move n room beg => match rows.findIdx? fun r => decide (r.name = n) with
    | none => ("no name", rows)
    | some i => let m := movedRow rows i n room beg
      if noSpan m then ("no span", rows) else settle rows i m
def RowOk (r : Bkg) : Prop := noSpan r = false ∧ r.start ≤ 1000 ∧ r.weeks ≤ 100
def RowsOk (rows : List Bkg) : Prop := ∀ r ∈ rows, RowOk r
def DeedOk : Deed → Prop
  | .book m => m.start ≤ 1000 ∧ m.weeks ≤ 100
  | .cancel _ => True
  | .move _ _ beg => beg ≤ 1000
theorem noSpan_no {r : Bkg} (h : noSpan r = false) : 0 ≤ r.start ∧ r.start < r.stop ∧ r.stop - r.start ≤ 168 ∧ 1 ≤ r.weeks := by
  unfold noSpan at h
  simp only [Bool.or_eq_false_iff, decide_eq_false_iff_not] at h
  omega
theorem RowOk.bd {r : Bkg} (h : RowOk r) : (-(2 ^ 62) ≤ r.start ∧ r.start < 2 ^ 62 ∧ -(2 ^ 62) ≤ r.stop ∧ r.stop < 2 ^ 62) ∧ (-(2 ^ 62) ≤ r.weeks ∧ r.weeks < 2 ^ 62) ∧ r.weeks.toNat * (r.stop - r.start).toNat ≤ 16800 := by
  obtain ⟨h1, h2, h3⟩ := h
  obtain ⟨g1, g2, g3, g4⟩ := noSpan_no h1
  refine ⟨⟨by omega, by omega, by omega, by omega⟩, ⟨by omega, by omega⟩, ?_⟩
  exact Nat.le_trans (Nat.mul_le_mul (show r.weeks.toNat ≤ 100 by omega) (show (r.stop - r.start).toNat ≤ 168 by omega)) (by decide)
end RW
namespace RW
open PySem PySem.Spec PyProof.Rows L2
def KeysAre (kvs : List (Key × V)) (hs : List Int) : Prop := ∀ h : Int, (valV kvs (Sum.inl h : Key)).isSome = decide (h ∈ hs)
theorem KeysAre.nil : KeysAre [] [] := fun h => by rw [valV_nil]; simp
theorem KeysAre.put {kvs : List (Key × V)} {hs : List Int} (k : KeysAre kvs hs) (h : Int) (v : V) : KeysAre (putK kvs (Sum.inl h) v) (hs ++ [h]) := fun j => by
  rw [valV_put]
  by_cases e : j = h
  · subst e; rw [if_pos rfl]; simp
  · rw [if_neg (fun z => e (Sum.inl.inj z)), k j]
    simp [e]
theorem get_ints {ns : List Int} {i : Nat} {x : V} (h : (ns.map V.int)[i]? = some x) : ∃ n, x = .int n ∧ ns.take (i + 1) = ns.take i ++ [n] ∧ n ∈ ns ∧ i < ns.length := by
  rw [List.getElem?_map] at h
  cases e : ns[i]? with
  | none => rw [e] at h; cases h
  | some n =>
    rw [e] at h
    refine ⟨n, (Option.some.inj h).symm, ?_, List.mem_of_getElem? e, (List.getElem?_eq_some_iff.mp e).1⟩
    rw [List.take_add_one, e]
    rfl
theorem atI_ints {ns : List Int} {k : Nat} (h : k < ns.length) : atI (ns.map V.int) (k : Int) = some (.int (ns.getD k 0)) := by
  refine atI_nat ?_
  rw [List.getElem?_map, List.getElem?_eq_getElem h, List.getD_eq_getElem?_getD, List.getElem?_eq_getElem h]
  rfl
def fstOf (H : Hp) : V → V
  | .ref r => (match H r with | some (.tup (v :: _)) => v | _ => .non)
  | _ => .non
theorem fst_rows {H : Hp} : ∀ {rs : List V} {rows : List Bkg}, TupsAt H rs (rows.map Bkg.vs) → rs.map (fstOf H) = rows.map fun r => V.str r.name
  | _, [], h => by cases h; rfl
  | _, r :: rows, h => by
    cases h with
    | cons h t =>
      obtain ⟨a, rfl, ha⟩ := h
      rw [List.map_cons, List.map_cons, fst_rows t]
      have : fstOf H (.ref a) = .str r.name := by
        show (match H a with | some (.tup (v :: _)) => v | _ => .non) = _
        rw [ha]; rfl
      rw [this]
theorem row_at {H : Hp} {rs : List V} {rows : List Bkg} {i : Nat} {v : V} (t : TupsAt H rs (rows.map Bkg.vs)) (h : rs[i]? = some v) : ∃ a r, v = .ref a ∧ H a = some (.tup r.vs) ∧ rows[i]? = some r := by
  obtain ⟨a, vs, h1, h2, h3⟩ := t.get h
  rw [List.getElem?_map] at h3
  cases e : rows[i]? with
  | none => rw [e] at h3; cases h3
  | some r => rw [e] at h3; cases h3; exact ⟨a, r, h1, h2, rfl⟩
theorem row_of {H : Hp} {rs : List V} {rows : List Bkg} {i : Nat} {r : Bkg} (t : TupsAt H rs (rows.map Bkg.vs)) (h : rows[i]? = some r) : ∃ a, rs[i]? = some (.ref a) ∧ H a = some (.tup r.vs) := t.at (by rw [List.getElem?_map, h]; rfl)
theorem inV_names (rows : List Bkg) (n : Str) : inV (.str n) (rows.map fun r => V.str r.name) = named rows n := by
  unfold inV named
  rw [List.any_map]
  refine congrArg (fun f => rows.any f) (funext fun r => ?_)
  show (r.name == n) = decide (r.name = n)
  by_cases e : r.name = n
  · rw [decide_eq_true e, e, beq_self_eq_true]
  · rw [decide_eq_false e]; exact beq_eq_false_iff_ne.mpr e
theorem flat_names (rows : List Bkg) : (rows.map fun r => V.str r.name).all flatV = true := by
  rw [List.all_map]; exact List.all_eq_true.mpr fun _ _ => rfl
theorem idx_named {rows : List Bkg} {n : Str} (h : named rows n = true) : ∃ i r, rows.findIdx? (fun r => decide (r.name = n)) = some i ∧ rows[i]? = some r ∧ r.name = n ∧ ∀ k q, k < i → rows[k]? = some q → q.name ≠ n := by
  obtain ⟨r, hr, e⟩ := List.any_eq_true.mp h
  cases q : rows.findIdx? (fun r => decide (r.name = n)) with
  | none =>
    have := List.findIdx?_eq_none_iff.mp q r hr
    rw [e] at this; cases this
  | some i =>
    obtain ⟨hi, h1, h2⟩ := List.findIdx?_eq_some_iff_getElem.mp q
    refine ⟨i, rows[i], rfl, List.getElem?_eq_getElem hi, of_decide_eq_true h1, fun k x hk hx z => ?_⟩
    obtain ⟨hk', rfl⟩ := List.getElem?_eq_some_iff.mp hx
    exact absurd (decide_eq_true z) (h2 k hk)
theorem idx_none {rows : List Bkg} {n : Str} (h : named rows n = false) : rows.findIdx? (fun r => decide (r.name = n)) = none :=
  List.findIdx?_eq_none_iff.mpr fun r hr => by
    have := List.any_eq_false.mp h r hr
    simpa using this
end RW
namespace L2
theorem len1 : 1 ≤ PySem.sizeLine := by decide
theorem len4 : 4 ≤ PySem.sizeLine := by decide
theorem len6 : 6 ≤ PySem.sizeLine := by decide
theorem len8 : 8 ≤ PySem.sizeLine := by decide
theorem cut_take {xs : List V} {n : Nat} : cutV xs none (some (n : Int)) = xs.take n := by
  unfold cutV
  rw [HT.sIx_none, HT.sIx_nat, List.drop_zero, Nat.sub_zero]
  by_cases h : n ≤ xs.length
  · rw [Nat.min_eq_left h]
  · rw [Nat.min_eq_right (by omega), List.take_length, List.take_of_length_le (by omega)]
theorem cut_drop {xs : List V} {n : Nat} {i : Int} (e : i = (n : Int)) : cutV xs (some i) none = xs.drop n := by
  subst e
  unfold cutV
  rw [HT.sIx_none, HT.sIx_nat]
  by_cases h : n ≤ xs.length
  · rw [Nat.min_eq_left h, ← List.length_drop, List.take_length]
  · rw [Nat.min_eq_right (by omega), List.drop_of_length_le (Nat.le_refl _), List.drop_of_length_le (by omega), List.take_nil]
end L2
namespace RW
open PySem L2
theorem filter_rows {H : Hp} {n : Str} : ∀ {rs : List V} {rows : List Bkg}, TupsAt H rs (rows.map Bkg.vs) → TupsAt H (rs.filter fun x => !decide (fstOf H x = .str n)) ((rows.filter fun r => !decide (r.name = n)).map Bkg.vs)
  | _, [], h => by cases h; exact .nil
  | _, r :: rows, h => by
    cases h with
    | cons h t =>
      obtain ⟨a, rfl, ha⟩ := h
      have e : fstOf H (.ref a) = .str r.name := by
        show (match H a with | some (.tup (v :: _)) => v | _ => .non) = _
        rw [ha]; rfl
      have ih := filter_rows (n := n) t
      rw [List.filter_cons, List.filter_cons, e]
      by_cases z : r.name = n
      · rw [decide_eq_true (show V.str r.name = V.str n by rw [z]), decide_eq_true z]
        exact ih
      · rw [decide_eq_false (show ¬ V.str r.name = V.str n from fun q => z (V.str.inj q)), decide_eq_false z]
        exact .cons ⟨a, rfl, ha⟩ ih
end RW
namespace L2
theorem ix_tupK {X : Cx} {K : PySem.W.Frag} (e : X.K = K := by rfl) : IxR X (rIxT K) := by subst e; exact ix_tup
end L2
namespace RW
open PySem L2
theorem judge_book (rows : List Bkg) (m : Bkg) : judge rows (.book m) = if noSpan m then (("no span" : Str), rows) else if named rows m.name then (("same name" : Str), rows) else RW.settle rows rows.length m := rfl
theorem judge_cancel (rows : List Bkg) (n : Str) : judge rows (.cancel n) = if named rows n then (("done" : Str), rows.filter fun r => !decide (r.name = n)) else (("no name" : Str), rows) := rfl
theorem judge_move0 {rows : List Bkg} {n : Str} {room beg : Int} (h : rows.findIdx? (fun r => decide (r.name = n)) = none) : judge rows (.move n room beg) = (("no name" : Str), rows) := by
  simp only [judge, h]
theorem judge_move1 {rows : List Bkg} {n : Str} {room beg : Int} {i : Nat} (h : rows.findIdx? (fun r => decide (r.name = n)) = some i) : judge rows (.move n room beg) = if noSpan (movedRow rows i n room beg) then (("no span" : Str), rows) else RW.settle rows i (movedRow rows i n room beg) := by
  simp only [judge, h]
end RW
namespace L2
open PySem
theorem atI_map {α : Type} (f : α → V) (l : List α) (j : Int) (h0 : 0 ≤ j) (h1 : j < l.length) : ∃ x, x ∈ l ∧ atI (l.map f) j = some (f x) := by
  have hj : j.toNat < l.length := by omega
  refine ⟨l[j.toNat], List.getElem_mem hj, ?_⟩
  have h := atI_nat (xs := l.map f) (j := j.toNat) (v := f l[j.toNat]) (by rw [List.getElem?_map, List.getElem?_eq_getElem hj]; rfl)
  rw [show ((j.toNat : Nat) : Int) = j by omega] at h
  exact h
theorem comp_str {x : Str} {p : Addr} {js : List Nat} {σ : St} {H : Hp} {tc : TT} {te : TE} {Q : VK} (hp : H p = none) (hz : x.length ≤ 1000) (ht : tc = tTrue)
    (he : ∀ c : Str, c.length = 1 → ∀ H', Same H H' → ∀ R : VK, (∀ t : Str, R (.str t) H') → te (some (.str c) :: js.map fun j => (σ[j]?).join) H' R)
    (hd : ∀ ss : List Str, ss.length = x.length → Q (.ref p) (upd H p (.lst (ss.map V.str)))) : CompW (Its x) p (startC σ js) (upd H p (.lst [])) tc te Q := by
  subst ht
  refine ⟨fun i m σ' H' => m = x.length - i ∧ i ≤ x.length ∧ (∃ v, σ' = v :: js.map fun j => (σ[j]?).join) ∧ ∃ ss : List Str, ss.length = i ∧ H' = upd H p (.lst (ss.map V.str)), ⟨x.length, by simp, Nat.zero_le _, ⟨none, rfl⟩, [], rfl, rfl⟩, ?_⟩
  rintro i m σ' H' ⟨rfl, hi, ⟨v, rfl⟩, ss, hs, rfl⟩
  by_cases e : i = x.length
  · exact .inl ⟨by show x.length ≤ i; omega, hd ss (by omega)⟩
  · refine .inr ⟨by show i < x.length; omega, ?_⟩
    rintro y H'' ⟨rfl, c, hc, rfl⟩
    unfold tTrue
    dsimp only
    rw [if_pos rfl]
    exact (he _ rfl _ (Same.new hp) _ fun t => ⟨_, upd_same, by rw [List.length_map]; exact small_of (by omega), x.length - (i + 1), by omega, rfl, by omega, ⟨_, rfl⟩, ss ++ [t], by rw [List.length_append, hs]; rfl, by rw [upd_upd, List.map_append]; rfl⟩)
end L2
namespace RW
open PySem L2
theorem TupsAt.over {H : Hp} {p : Addr} {xs : List V} {o : HO} (h : H p = some (.lst xs)) {rs : List V} {vss : List (List V)} (t : TupsAt H rs vss) : TupsAt (upd H p o) rs vss :=
  Paired.mapP t fun _ _ ⟨a, h1, h2⟩ => ⟨a, h1, by
    rw [upd_ne (fun e => by rw [e, h] at h2; cases h2)]; exact h2⟩
theorem app_tup {H1 H4 : Hp} {pa pt : Addr} {rs : List V} {vss : List (List V)} {vs : List V} (h1 : H1 pa = none) (s : Same H1 H4) (lp : H4 pa = some (.lst rs)) (tp : TupsAt H4 rs vss) (hpt : H4 pt = none) :
    Same H1 (upd (upd H4 pt (.tup vs)) pa (.lst (rs ++ [.ref pt]))) ∧ TupsAt (upd (upd H4 pt (.tup vs)) pa (.lst (rs ++ [.ref pt]))) (rs ++ [.ref pt]) (vss ++ [vs]) := by
  have ne : pt ≠ pa := fun e => by rw [e, lp] at hpt; cases hpt
  refine ⟨(s.put (s.free hpt)).put h1, TupsAt.append ?_ (.cons ⟨pt, rfl, ?_⟩ .nil)⟩
  · exact TupsAt.over ((Same.new hpt) _ _ lp) (tp.same (Same.new hpt))
  · rw [upd_ne ne, upd_same]
end RW
namespace L2
open PySem PySem.Spec PyProof.Rows
theorem kit_int_bool {K : PySem.W.Frag} : PySem.W.kitOne K (.type "int") (.type "bool") = some false := by rfl
def plainV : V → Bool
  | .int _ => true
  | .str _ => true
  | _ => false
inductive Lks (H : Hp) : List V → List V → Nat → Prop where
  | nil : Lks H [] [] 0
  | flat {xs ys : List V} {n : Nat} {v : V} (t : Lks H xs ys n) (h : plainV v = true) : Lks H (xs ++ [v]) (ys ++ [v]) (n + 1)
  | tup {xs ys : List V} {n : Nat} {a b : Addr} {vs : List V} (t : Lks H xs ys n) (ha : H a = some (.tup vs)) (hb : H b = some (.tup vs)) (h : vs.all plainV = true) : Lks H (xs ++ [.ref a]) (ys ++ [.ref b]) (n + (vs.length + 1))
theorem Lks.same {H H' : Hp} (s : Same H H') {xs ys : List V} {n : Nat} (t : Lks H xs ys n) : Lks H' xs ys n := by
  induction t with
  | nil => exact .nil
  | flat _ h ih => exact ih.flat h
  | tup _ ha hb h ih => exact ih.tup (s _ _ ha) (s _ _ hb) h
theorem Lks.len {H : Hp} {xs ys : List V} {n : Nat} (t : Lks H xs ys n) : xs.length = ys.length ∧ xs.length ≤ n := by
  induction t with
  | nil => exact ⟨rfl, Nat.le_refl _⟩
  | flat _ h ih => simp only [List.length_append, List.length_singleton]; omega
  | tup _ ha hb h ih => simp only [List.length_append, List.length_singleton]; omega
end L2
namespace RW
open PySem L2
def run (rows : List Bkg) : List Deed → List Str × List Bkg
  | [] => ([], rows)
  | d :: ds => ((judge rows d).1 :: (run (judge rows d).2 ds).1, (run (judge rows d).2 ds).2)
theorem run_snoc : ∀ (ds : List Deed) (rows : List Bkg) (d : Deed), run rows (ds ++ [d]) = ((run rows ds).1 ++ [(judge (run rows ds).2 d).1], (judge (run rows ds).2 d).2)
  | [], _, _ => rfl
  | e :: ds, rows, d => by
    rw [List.cons_append, run, run_snoc ds, run]
    rfl
theorem run_at {ds : List Deed} {rows : List Bkg} {i : Nat} (h : i < ds.length) (d : Deed) (hd : ds[i]? = some d) : (run rows ds).1[i]? = some (judge (run rows (ds.take i)).2 d).1 ∧ (run rows (ds.take (i + 1))).2 = (judge (run rows (ds.take i)).2 d).2 := by
  have e : ds.take (i + 1) = ds.take i ++ [d] := by rw [List.take_add_one, hd]; rfl
  refine ⟨?_, by rw [e, run_snoc]⟩
  induction ds generalizing rows i with
  | nil => cases hd
  | cons x xs ih =>
    cases i with
    | zero => cases hd; rfl
    | succ i =>
      rw [run]
      show (run (judge rows x).2 xs).1[i]? = _
      have := ih (rows := (judge rows x).2) (i := i) (by rw [List.length_cons] at h; omega) hd (by rw [List.take_succ_cons, List.take_succ_cons, List.cons_append] at e; exact (List.cons.inj e).2)
      rw [this, List.take_succ_cons, run]
/-! ### what the book keeps -/
def OneName (rows : List Bkg) : Prop := (rows.map Bkg.name).Nodup
def NoClash (rows : List Bkg) : Prop := rows.Pairwise fun r q => clash r q = false
theorem clash_comm (r q : Bkg) : clash r q = clash q r := by
  unfold clash
  rw [meetB_comm]
  by_cases e : q.room = r.room
  · rw [decide_eq_true e, decide_eq_true e.symm]
  · rw [decide_eq_false e, decide_eq_false fun z => e z.symm]
end RW
namespace RW
open PySem L2
theorem others_no {rows : List Bkg} {spot : Nat} {m : Bkg} (h : others rows spot m = false) {k : Nat} {r : Bkg} (hk : k ≠ spot) (hr : rows[k]? = some r) : clash m r = false := by
  unfold others at h
  have := List.any_eq_false.mp h k (List.mem_range.mpr (List.getElem?_eq_some_iff.mp hr).1)
  rw [hr, decide_eq_true hk, Bool.true_and] at this
  exact Bool.eq_false_iff.mpr this
theorem settled {rows : List Bkg} {spot : Nat} {m : Bkg} (Pr : List Bkg → Prop) (h0 : Pr rows) (h1 : others rows spot m = false → Pr (rows.take spot ++ [m] ++ rows.drop (spot + 1))) : Pr (RW.settle rows spot m).2 := by
  unfold RW.settle
  cases e : others rows spot m with
  | true => exact h0
  | false => exact h1 e
theorem judged {rows : List Bkg} {d : Deed} (Pr : List Bkg → Prop) (h0 : Pr rows)
    (hB : ∀ m, d = .book m → noSpan m = false → named rows m.name = false → others rows rows.length m = false → Pr (rows.take rows.length ++ [m] ++ rows.drop (rows.length + 1)))
    (hC : ∀ n, d = .cancel n → Pr (rows.filter fun r => !decide (r.name = n)))
    (hM : ∀ n room beg i r, d = .move n room beg → rows[i]? = some r → r.name = n → noSpan ⟨n, room, beg, beg + r.stop - r.start, r.weeks⟩ = false → others rows i ⟨n, room, beg, beg + r.stop - r.start, r.weeks⟩ = false → Pr (rows.take i ++ [⟨n, room, beg, beg + r.stop - r.start, r.weeks⟩] ++ rows.drop (i + 1))) : Pr (judge rows d).2 := by
  cases d with
  | book m =>
    rw [judge_book]
    cases e1 : noSpan m with
    | true => exact h0
    | false =>
      cases e2 : named rows m.name with
      | true => exact h0
      | false => exact settled Pr h0 fun e3 => hB m rfl e1 e2 e3
  | cancel n =>
    rw [judge_cancel]
    cases e : named rows n with
    | true => exact hC n rfl
    | false => exact h0
  | move n room beg =>
    cases e : named rows n with
    | false => rw [judge_move0 (idx_none e)]; exact h0
    | true =>
      obtain ⟨i, r, i1, i2, i3, _⟩ := idx_named e
      rw [judge_move1 i1, show movedRow rows i n room beg = ⟨n, room, beg, beg + r.stop - r.start, r.weeks⟩ by unfold movedRow; rw [i2]]
      cases e1 : noSpan ⟨n, room, beg, beg + r.stop - r.start, r.weeks⟩ with
      | true => exact h0
      | false => exact settled Pr h0 fun e3 => hM n room beg i r rfl i2 i3 e1 e3
theorem judge_rows {rows : List Bkg} {d : Deed} (h : RowsOk rows) (hd : DeedOk d) : RowsOk (judge rows d).2 := by
  refine judged RowsOk h ?_ ?_ ?_
  · rintro m rfl e1 e2 e3 r hr
    rcases List.mem_append.mp hr with hr | hr
    · rcases List.mem_append.mp hr with hr | hr
      · exact h r (List.mem_of_mem_take hr)
      · rw [List.mem_singleton.mp hr]; exact ⟨e1, hd.1, hd.2⟩
    · exact h r (List.mem_of_mem_drop hr)
  · rintro n rfl r hr
    exact h r (List.mem_filter.mp hr).1
  · rintro n room beg i q rfl hq e0 e1 e3 r hr
    rcases List.mem_append.mp hr with hr | hr
    · rcases List.mem_append.mp hr with hr | hr
      · exact h r (List.mem_of_mem_take hr)
      · rw [List.mem_singleton.mp hr]; exact ⟨e1, hd, (h q (List.mem_of_getElem? hq)).2.2⟩
    · exact h r (List.mem_of_mem_drop hr)
theorem judge_len {rows : List Bkg} {d : Deed} : (judge rows d).2.length ≤ rows.length + 1 := by
  refine judged (fun x => x.length ≤ rows.length + 1) (by omega) ?_ ?_ ?_
  · intro m _ _ _ _
    simp only [List.length_append, List.length_take, List.length_drop, List.length_singleton]; omega
  · intro n _
    exact Nat.le_trans (List.length_filter_le _ _) (by omega)
  · intro n room beg i r _ _ _ _ _
    simp only [List.length_append, List.length_take, List.length_drop, List.length_singleton]; omega
theorem run_ok : ∀ {ds : List Deed} {rows : List Bkg}, RowsOk rows → (∀ d ∈ ds, DeedOk d) → RowsOk (run rows ds).2
  | [], _, h, _ => h
  | d :: ds, _, h, hd => run_ok (ds := ds) (judge_rows h (hd d List.mem_cons_self)) fun x hx => hd x (List.mem_cons_of_mem _ hx)
theorem run_rows : ∀ {ds : List Deed} {rows : List Bkg}, (run rows ds).2.length ≤ rows.length + ds.length
  | [], _ => Nat.le_refl _
  | d :: ds, rows => Nat.le_trans (run_rows (ds := ds)) (by have := judge_len (rows := rows) (d := d); rw [List.length_cons]; omega)
theorem no_clash {rows : List Bkg} {d : Deed} (h : NoClash rows) : NoClash (judge rows d).2 := by
  have put : ∀ (spot : Nat) (m : Bkg), others rows spot m = false → NoClash (rows.take spot ++ [m] ++ rows.drop (spot + 1)) := by
    intro spot m hm
    have hs : NoClash (rows.take spot ++ rows.drop (spot + 1)) := by
      rw [← List.eraseIdx_eq_take_drop_succ]
      exact List.Pairwise.sublist (List.eraseIdx_sublist rows spot) h
    have hx : ∀ r ∈ rows.take spot ++ rows.drop (spot + 1), clash m r = false := by
      intro r hr
      rw [← List.eraseIdx_eq_take_drop_succ] at hr
      obtain ⟨k, hk, e⟩ := List.mem_eraseIdx_iff_getElem?.mp hr
      exact others_no hm hk e
    obtain ⟨p1, p2, p3⟩ := List.pairwise_append.mp hs
    rw [NoClash, List.append_assoc]
    refine List.pairwise_append.mpr ⟨p1, List.pairwise_cons.mpr ⟨fun r hr => hx r (List.mem_append_right _ hr), p2⟩, fun r hr q hq => ?_⟩
    rcases List.mem_cons.mp hq with rfl | hq
    · rw [clash_comm]; exact hx r (List.mem_append_left _ hr)
    · exact p3 r hr q hq
  refine judged NoClash h ?_ ?_ ?_
  · intro m _ _ _ e3
    exact put _ _ e3
  · intro n _
    exact List.Pairwise.sublist List.filter_sublist h
  · intro n room beg i r _ _ _ _ e3
    exact put _ _ e3
theorem run_clash : ∀ {ds : List Deed} {rows : List Bkg}, NoClash rows → NoClash (run rows ds).2
  | [], _, h => h
  | _ :: ds, _, h => run_clash (ds := ds) (no_clash h)
end RW
namespace RW
open PySem L2
theorem deed_at {H : Hp} {rs : List V} {ds : List Deed} {i : Nat} {d : Deed} (t : TupsAt H rs (ds.map Deed.vs)) (h : ds[i]? = some d) : ∃ a, rs[i]? = some (.ref a) ∧ H a = some (.tup d.vs) := t.at (by rw [List.getElem?_map, h]; rfl)
theorem Deed.plain (d : Deed) : d.vs.all plainV = true ∧ d.vs.length ≤ 9 := by
  cases d with
  | book m => exact ⟨rfl, by show 6 ≤ 9; decide⟩
  | cancel n => exact ⟨rfl, by show 2 ≤ 9; decide⟩
  | move n room beg => exact ⟨rfl, by show 4 ≤ 9; decide⟩
end RW
namespace RW
open PySem PySem.Spec PyProof.Rows L2
def NamesAre (kvs : List (Key × V)) (ns : List Str) : Prop := ∀ n : Str, (valV kvs (Sum.inr n : Key)).isSome = decide (n ∈ ns)
theorem NamesAre.nil : NamesAre [] [] := fun h => by rw [valV_nil]; simp
theorem NamesAre.put {kvs : List (Key × V)} {ns : List Str} (k : NamesAre kvs ns) (n : Str) (v : V) : NamesAre (putK kvs (Sum.inr n) v) (ns ++ [n]) := fun j => by
  rw [valV_put]
  by_cases e : j = n
  · subst e; rw [if_pos rfl]; simp
  · rw [if_neg (fun z => e (Sum.inr.inj z)), k j]
    simp [e]
def keyP (p : Int × Int) : List Key := [Sum.inl p.1, Sum.inl p.2]
theorem keyP_inj {p q : Int × Int} (h : keyP p = keyP q) : p = q := by
  cases p; cases q
  simp only [keyP, List.cons.injEq, Sum.inl.injEq, and_true] at h
  rw [h.1, h.2]
def PairsAre (kvs : List (List Key × V)) (ps : List (Int × Int)) : Prop := ∀ p : Int × Int, (valV kvs (keyP p)).isSome = decide (p ∈ ps)
theorem PairsAre.nil : PairsAre [] [] := fun h => by rw [valV_nil]; simp
theorem PairsAre.put {kvs : List (List Key × V)} {ps : List (Int × Int)} (k : PairsAre kvs ps) (p : Int × Int) (v : V) : PairsAre (putK kvs (keyP p) v) (ps ++ [p]) := fun j => by
  rw [valV_put]
  by_cases e : j = p
  · subst e; rw [if_pos rfl]; simp
  · rw [if_neg (fun z => e (keyP_inj z)), k j]
    simp [e]
theorem putK_len {κ : Type} [DecidableEq κ] (kvs : List (κ × V)) (k : κ) (v : V) : (putK kvs k v).length ≤ kvs.length + 1 := by
  unfold putK
  split
  · rw [List.length_map]; omega
  · rw [List.length_append, List.length_singleton]; omega
def Bkg.pairs (r : Bkg) : List (Int × Int) := r.hours.map fun h => (r.room, h)
def hadOf (rows : List Bkg) : List (Int × Int) := rows.flatMap Bkg.pairs
theorem len_hours {r : Bkg} (h : RowOk r) : r.hours.length ≤ 16800 := by
  rw [Bkg.hours, len_hrs]; exact h.bd.2.2
end RW
namespace RW
open PySem PySem.Spec PyProof.Rows L2
theorem cut_some (ns : List Int) (lo hi : Option Int) : ∃ ms : List Int, cutV (ns.map V.int) lo hi = ms.map V.int ∧ ms.length ≤ ns.length := by
  unfold cutV
  refine ⟨_, by rw [← List.map_drop, ← List.map_take], ?_⟩
  rw [List.length_take, List.length_drop]; omega
def hold (rows : List Bkg) (room h : Int) : V := match rows.find? (fun r => decide (r.room = room) && hasB r.start r.stop r.weeks h) with
  | some r => .str r.name
  | none => .non
def ValsAre (kvs : List (List Key × V)) (L : List ((Int × Int) × Str)) : Prop := (∀ p v, valV kvs (keyP p) = some v → ∃ n, (p, n) ∈ L ∧ v = .str n) ∧ ∀ p n, (p, n) ∈ L → (valV kvs (keyP p)).isSome = true
theorem ValsAre.nil : ValsAre [] [] := ⟨fun p v h => (by rw [valV_nil] at h; cases h), fun p n h => (by cases h)⟩
theorem ValsAre.put {kvs : List (List Key × V)} {L : List ((Int × Int) × Str)} (k : ValsAre kvs L) (p : Int × Int) (n : Str) : ValsAre (putK kvs (keyP p) (.str n)) (L ++ [(p, n)]) := by
  refine ⟨fun q v h => ?_, fun q m h => ?_⟩
  · rw [valV_put] at h
    by_cases e : keyP q = keyP p
    · rw [if_pos e] at h
      cases h
      exact ⟨n, by rw [keyP_inj e]; simp, rfl⟩
    · rw [if_neg e] at h
      obtain ⟨m, h1, h2⟩ := k.1 q v h
      exact ⟨m, List.mem_append_left _ h1, h2⟩
  · rw [valV_put]
    by_cases e : keyP q = keyP p
    · rw [if_pos e]; rfl
    · rw [if_neg e]
      rcases List.mem_append.mp h with h | h
      · exact k.2 q m h
      · rw [List.mem_singleton] at h; cases h; exact absurd rfl e
def Bkg.named' (r : Bkg) : List ((Int × Int) × Str) := r.hours.map fun h => ((r.room, h), r.name)
def namedOf (rows : List Bkg) : List ((Int × Int) × Str) := rows.flatMap Bkg.named'
end RW
namespace RW
open PySem PySem.Spec PyProof.Rows L2
def rng (p : Int × Int) : List Int := (List.range (p.2 - p.1).toNat).map fun (j : Nat) => p.1 + (j : Int)
theorem mem_rng {p : Int × Int} {h : Int} : h ∈ rng p ↔ p.1 ≤ h ∧ h < p.2 := by
  unfold rng
  rw [List.mem_map]
  constructor
  · rintro ⟨j, hj, rfl⟩
    have := List.mem_range.mp hj
    omega
  · rintro ⟨h1, h2⟩
    exact ⟨(h - p.1).toNat, List.mem_range.mpr (by omega), by omega⟩
theorem rng_take {p : Int × Int} {j : Nat} (h : j < (p.2 - p.1).toNat) : (rng p).take (j + 1) = (rng p).take j ++ [p.1 + (j : Int)] := by
  rw [List.take_add_one]
  have : (rng p)[j]? = some (p.1 + (j : Int)) := by
    unfold rng
    rw [List.getElem?_map, List.getElem?_range h]; rfl
  rw [this]; rfl
theorem rng_len (p : Int × Int) : (rng p).length = (p.2 - p.1).toNat := by unfold rng; rw [List.length_map, List.length_range]
def pairVs (p : Int × Int) : List V := [.int p.1, .int p.2]
def Chained (stop : Int) : Int → List (Int × Int) → Prop
  | _, [] => True
  | last, p :: ps => last < p.1 ∧ p.1 < p.2 ∧ p.2 ≤ stop ∧ Chained stop p.2 ps
def busy (rows : List Bkg) (room h : Int) : Prop := ∃ r ∈ rows, r.room = room ∧ h ∈ r.hours
def GapsOk (rows : List Bkg) (room start stop : Int) (ps : List (Int × Int)) : Prop := Chained stop (start - 1) ps ∧ ∀ h, start ≤ h → h < stop → ((∃ p ∈ ps, p.1 ≤ h ∧ h < p.2) ↔ ¬ busy rows room h)
def lastOf (start : Int) (ps : List (Int × Int)) : Int := (ps.getLast?.map Prod.snd).getD (start - 1)
theorem lastOf_nil (start : Int) : lastOf start [] = start - 1 := rfl
theorem lastOf_snoc (start : Int) (ps : List (Int × Int)) (p : Int × Int) : lastOf start (ps ++ [p]) = p.2 := by
  unfold lastOf; rw [List.getLast?_concat]; rfl
theorem chain_at {stop start : Int} : ∀ {ps qs : List (Int × Int)} {p : Int × Int} {last : Int}, Chained stop last (ps ++ p :: qs) → (ps.getLast?.map Prod.snd).getD last < p.1 ∧ p.1 < p.2 ∧ p.2 ≤ stop
  | [], _, _, _, h => ⟨h.1, h.2.1, h.2.2.1⟩
  | [q], _, _, _, h => ⟨h.2.2.2.1, h.2.2.2.2.1, h.2.2.2.2.2.1⟩
  | q :: r :: ps, _, p, _, h => by
    have := chain_at (start := start) (ps := r :: ps) h.2.2.2
    rw [show (q :: r :: ps).getLast? = (r :: ps).getLast? by rw [List.getLast?_cons_cons]]
    cases e : (r :: ps).getLast? with
    | none => rw [List.getLast?_eq_none_iff] at e; cases e
    | some z => rw [e] at this; exact this
theorem pair_split {ps : List (Int × Int)} {i : Nat} {p : Int × Int} (h : ps[i]? = some p) : ps = ps.take i ++ p :: ps.drop (i + 1) := by
  have hi : i < ps.length := (List.getElem?_eq_some_iff.mp h).1
  conv => lhs; rw [← List.take_append_drop i ps]
  rw [List.drop_eq_getElem_cons hi, (List.getElem?_eq_some_iff.mp h).2]
theorem pair_at {H : Hp} {rs : List V} {ps : List (Int × Int)} {i : Nat} {v : V} (t : TupsAt H rs (ps.map pairVs)) (h : rs[i]? = some v) : ∃ a p, v = .ref a ∧ H a = some (.tup (pairVs p)) ∧ ps[i]? = some p := by
  obtain ⟨a, vs, h1, h2, h3⟩ := t.get h
  rw [List.getElem?_map] at h3
  cases e : ps[i]? with
  | none => rw [e] at h3; cases h3
  | some p => rw [e] at h3; cases h3; exact ⟨a, p, h1, h2, rfl⟩
def openOf (ps : List (Int × Int)) : List Int := ps.flatMap rng
theorem mem_openOf {ps : List (Int × Int)} {h : Int} : h ∈ openOf ps ↔ ∃ p ∈ ps, p.1 ≤ h ∧ h < p.2 := by
  unfold openOf
  rw [List.mem_flatMap]
  exact ⟨fun ⟨p, hp, e⟩ => ⟨p, hp, mem_rng.mp e⟩, fun ⟨p, hp, e⟩ => ⟨p, hp, mem_rng.mpr e⟩⟩
def hoursIn (room : Int) (rows : List Bkg) : List Int := rows.flatMap fun r => if r.room = room then r.hours else []
theorem mem_hoursIn {room : Int} {rows : List Bkg} {h : Int} : h ∈ hoursIn room rows ↔ busy rows room h := by
  unfold hoursIn busy
  rw [List.mem_flatMap]
  constructor
  · rintro ⟨r, hr, e⟩
    by_cases z : r.room = room
    · rw [if_pos z] at e; exact ⟨r, hr, z, e⟩
    · rw [if_neg z] at e; cases e
  · rintro ⟨r, hr, z, e⟩
    exact ⟨r, hr, by rw [if_pos z]; exact e⟩
end RW
namespace L2
open PySem PySem.Spec PyProof.Rows
/-! ### ranges of any size -/
section
variable {X : Cx} {tg : Expr}
def iRngA (ta : TA) : TI := fun σ H R => ta σ H fun vs H1 => ∃ i j : Int, vs = [.int i, .int j] ∧ R (Itr i (j - i).toNat) H1
end
end L2
namespace L2
open PySem
end L2
namespace L2
open PySem PySem.Spec PyProof.Rows
section
variable {X : Cx}
end
end L2
namespace L2
open PySem PySem.Spec PyProof.Rows
section
variable {X : Cx}
end
end L2
namespace RW
open PySem PySem.Spec PyProof.Rows L2
def inW (x : Int × Int) (h : Int) : Bool := decide (x.1 ≤ h) && decide (h < x.2)
def atW (ws : List (Int × Int)) (h : Int) (k : Nat) : Bool := match ws[k]? with | some x => inW x h | none => false
def placesN (ws : List (Int × Int)) (h : Int) (n : Nat) : List Nat := (List.range n).filter (atW ws h)
def places (ws : List (Int × Int)) (h : Int) : List Nat := placesN ws h ws.length
def cntN (ws : List (Int × Int)) (n : Nat) (h : Int) : Nat := (placesN ws h n).length
def Counts (kvs : List (Key × V)) (c : Int → Nat) : Prop := (∀ h : Int, valV kvs (Sum.inl h : Key) = if c h = 0 then none else some (.int (c h))) ∧ ∀ kv ∈ kvs, ∃ h : Int, kv.1 = Sum.inl h
theorem Counts.nil : Counts [] (fun _ => 0) := ⟨fun h => by rw [valV_nil]; rfl, fun kv h => by cases h⟩
theorem Counts.ext {kvs : List (Key × V)} {c d : Int → Nat} (k : Counts kvs c) (e : ∀ h, c h = d h) : Counts kvs d := ⟨fun h => by rw [← e]; exact k.1 h, k.2⟩
theorem Counts.put {kvs : List (Key × V)} {c : Int → Nat} (k : Counts kvs c) (h : Int) : Counts (putK kvs (Sum.inl h) (.int ((c h : Nat) + 1))) (fun j => if j = h then c j + 1 else c j) := by
  refine ⟨fun j => ?_, fun kv hkv => ?_⟩
  · rw [valV_put]
    show _ = if (if j = h then c j + 1 else c j) = 0 then none else some (V.int ((if j = h then c j + 1 else c j : Nat) : Int))
    by_cases e : j = h
    · subst e
      rw [if_pos rfl, if_pos rfl, if_neg (by omega)]
      rfl
    · rw [if_neg (fun z => e (Sum.inl.inj z)), if_neg e]
      exact k.1 j
  · unfold putK at hkv
    split at hkv
    · obtain ⟨q, hq, e⟩ := List.mem_map.mp hkv
      obtain ⟨z, hz⟩ := k.2 q hq
      split at e
      · subst e; exact ⟨z, hz⟩
      · subst e; exact ⟨z, hz⟩
    · rcases List.mem_append.mp hkv with hq | hq
      · exact k.2 kv hq
      · rw [List.mem_singleton.mp hq]; exact ⟨h, rfl⟩
theorem Counts.get {kvs : List (Key × V)} {c : Int → Nat} (k : Counts kvs c) (h : Int) : (valV kvs (Sum.inl h : Key)).getD (.int 0) = .int (c h) := by
  rw [k.1 h]
  by_cases e : c h = 0
  · rw [if_pos e, e]; rfl
  · rw [if_neg e]; rfl
def hourOf : Key → Int
  | .inl h => h
  | .inr _ => 0
theorem Counts.keys {kvs : List (Key × V)} {c : Int → Nat} (k : Counts kvs c) : kvs.map (fun kv => kV kv.1) = (kvs.map fun kv => hourOf kv.1).map V.int := by
  rw [List.map_map]
  refine List.map_congr_left fun kv hkv => ?_
  obtain ⟨h, e⟩ := k.2 kv hkv
  show kV kv.1 = V.int (hourOf kv.1)
  rw [e]; rfl
theorem valV_mem {kvs : List (Key × V)} {k : Key} : (valV kvs k).isSome = true ↔ ∃ kv ∈ kvs, kv.1 = k := by
  rw [← valV_any, List.any_eq_true]
  exact ⟨fun ⟨kv, h, e⟩ => ⟨kv, h, of_decide_eq_true e⟩, fun ⟨kv, h, e⟩ => ⟨kv, h, decide_eq_true e⟩⟩
theorem Counts.mem {kvs : List (Key × V)} {c : Int → Nat} (k : Counts kvs c) {h : Int} : h ∈ (kvs.map fun kv => hourOf kv.1) ↔ 0 < c h := by
  have e := valV_mem (kvs := kvs) (k := (Sum.inl h : Key))
  rw [k.1 h] at e
  rw [List.mem_map]
  constructor
  · rintro ⟨kv, hkv, rfl⟩
    obtain ⟨z, hz⟩ := k.2 kv hkv
    have hz' : hourOf kv.1 = z := by rw [hz]; rfl
    rw [hz'] at e ⊢
    have := e.mpr ⟨kv, hkv, hz⟩
    by_cases q : c z = 0
    · rw [if_pos q] at this; cases this
    · omega
  · intro hpos
    rw [if_neg (by omega)] at e
    obtain ⟨kv, hkv, e'⟩ := e.mp rfl
    exact ⟨kv, hkv, by rw [e']; rfl⟩
def partC (ws : List (Int × Int)) (k : Nat) (x : Int × Int) (j : Nat) (h : Int) : Nat := cntN ws k h + if x.1 ≤ h ∧ h < x.1 + (j : Int) then 1 else 0
def partP (ws : List (Int × Int)) (k : Nat) (x : Int × Int) (j : Nat) (h : Int) : List Nat := placesN ws h k ++ if x.1 ≤ h ∧ h < x.1 + (j : Int) then [k] else []
end RW
namespace L2
open PySem PyProof.Rows
/-! ### sorting lists of any length: what the order's test answers -/
def gallopS : Bool → Keyed → Array Keyed → Nat → Nat → Nat → StateT SortSt Sem (Option Nat) := sortPriv% PySem.Builtin.gallop
def mergeLoS : Array Keyed → Array Keyed → StateT SortSt Sem (Array Keyed) := sortPriv% PySem.Builtin.mergeLo
def mergeHiS : Array Keyed → Array Keyed → StateT SortSt Sem (Array Keyed) := sortPriv% PySem.Builtin.mergeHi
structure LtOk (M : Model) (A : Around) (E : Value → Shared → Prop) (s : Shared) (O : KeyOrd) (key : Keyed → O.α) (knd : SortKind) (D : Keyed → Prop) : Prop where
  lt : ∀ {x y : Keyed} {st : SortSt} {Q : Option Bool → SortSt → Prop}, D x → D y → kindOf st = knd → Q (some (O.blt (key x) (key y))) st → wpS M A E s (lt' x y) Q st
section
variable {M : Model} {A : Around} {E : Value → Shared → Prop} {s : Shared} {O : KeyOrd} {key : Keyed → O.α} {knd : SortKind} {D : Keyed → Prop}
theorem wpS_elemS {arr : Array Keyed} {i : Nat} {p : Keyed} {st : SortSt} {Q : Keyed → SortSt → Prop} (h : arr[i]? = some p) (q : Q p st) : wpS M A E s (elem' arr i) Q st := by
  rw [elem'_eq, h]
  exact wpS_pure q
theorem wpS_gallopS (hL : LtOk M A E s O key knd D) {left : Bool} {kk : Keyed} {arr : Array Keyed} {base n hint : Nat} {st : SortSt} {Q : Option Nat → SortSt → Prop} (hk : kindOf st = knd) (hD : ∀ i, i < n → ∃ x, arr[base + i]? = some x ∧ D x) (hkey : D kk) (hh : hint < n)
    (B : Nat → Bool) (hB : ∀ i x, i < n → arr[base + i]? = some x → B i = if left then O.blt (key x) (key kk) else !O.blt (key kk) (key x)) (hm : ∀ i j, i ≤ j → j < n → B j = true → B i = true)
    (h : ∀ k, k ≤ n → (∀ i, i < k → B i = true) → (∀ i, k ≤ i → i < n → B i = false) → Q (some k) st) : wpS M A E s (gallopS left kk arr base n hint) Q st := by
  have hm' : ∀ i j, i ≤ j → j < n → B i = false → B j = false := fun i j h1 h2 h3 => by
    cases e : B j with
    | false => rfl
    | true => rw [hm i j h1 h2 e] at h3; cases h3
  have bey : ∀ (i : Nat) (R : Option Bool → SortSt → Prop), i < n → R (some (B i)) st → wpS M A E s (do let x ← elem' arr (base + i); if left = true then lt' x kk else do let r ← lt' kk x; pure (Option.map (fun x => !x) r)) R st := fun i R hi hR => by
    obtain ⟨x, hx, dx⟩ := hD i hi
    refine wpS_bind (wpS_elemS hx ?_)
    have hb := hB i x hi hx
    cases left with
    | true =>
      rw [if_pos rfl] at hb ⊢
      exact hL.lt dx hkey hk (by rw [← hb]; exact hR)
    | false =>
      rw [if_neg Bool.false_ne_true] at hb ⊢
      exact wpS_bind (hL.lt hkey dx hk (wpS_pure (by rw [hb] at hR; exact hR)))
  refine wpS_bind (bey hint _ hh ?_)
  dsimp only
  cases e : B hint with
  | true =>
    rw [if_pos rfl]
    refine wpS_bind (wpS_mono (wpS_forRange (I := fun x c st' => st' = st ∧ ∃ l o, c = (none, l, o) ∧ l < o ∧ x + 1 ≤ o ∧ hint + l < n ∧ B (hint + l) = true)
      (Q := fun c st' => st' = st ∧ ∃ l o, c = (none, l, o) ∧ l < o ∧ hint + l < n ∧ B (hint + l) = true ∧ (n - hint ≤ o ∨ (hint + o < n ∧ B (hint + o) = false))) ?_ ?_ ⟨rfl, 0, 1, rfl, by omega, by omega, by omega, e⟩) ?_)
    · rintro x c st' _ hx ⟨rfl, l, o, rfl, g1, g2, g3, g4⟩
      dsimp only
      by_cases z : o ≥ n - hint
      · rw [if_pos z]
        exact wpS_pure ⟨rfl, l, o, rfl, g1, g3, g4, .inl z⟩
      · rw [if_neg z]
        refine wpS_bind (bey _ _ (by omega) ?_)
        cases e2 : B (hint + o) with
        | true =>
          dsimp only
          rw [if_neg (by decide)]
          exact wpS_pure ⟨rfl, o, 2 * o + 1, rfl, by omega, by omega, by omega, e2⟩
        | false =>
          dsimp only
          rw [if_pos (by decide)]
          exact wpS_pure ⟨rfl, l, o, rfl, g1, g3, g4, .inr ⟨by omega, e2⟩⟩
    · rintro c st' ⟨rfl, l, o, rfl, g1, g2, g3, g4⟩
      exact ⟨rfl, l, o, rfl, g1, g3, g4, .inl (by omega)⟩
    · rintro c st' ⟨rfl, l, o, rfl, g1, g3, g4, g5⟩
      dsimp only
      have h1 : (hint + l + 1) ≤ (hint + min o (n - hint)) := by omega
      have h2 : (hint + min o (n - hint)) ≤ n := by omega
      have h3 : ∀ i, i < (hint + l + 1) → B i = true := fun i hi => hm i _ (by omega) g3 g4
      have h4 : ∀ i, (hint + min o (n - hint)) ≤ i → i < n → B i = false := fun i h1 h2 => by
        rcases g5 with g5 | ⟨g5, g6⟩
        · omega
        · exact hm' _ i (by omega) h2 g6
      generalize (hint + l + 1) = lo at h1 h3
      generalize (hint + min o (n - hint)) = hi at h1 h2 h4
      refine wpS_bind (wpS_mono (wpS_forRange (I := fun x c st2 => st2 = st' ∧ ∃ l r, c = (none, l, r) ∧ l ≤ r ∧ r ≤ n ∧ r - l ≤ n - x ∧ (∀ i, i < l → B i = true) ∧ (∀ i, r ≤ i → i < n → B i = false))
        (Q := fun c st2 => st2 = st' ∧ ∃ l, c = (none, l, l) ∧ l ≤ n ∧ (∀ i, i < l → B i = true) ∧ (∀ i, l ≤ i → i < n → B i = false)) ?_ ?_ ⟨rfl, lo, hi, rfl, h1, h2, by omega, h3, h4⟩) ?_)
      · rintro x c st2 _ hx ⟨rfl, l, r, rfl, g1, g2, g3, g4, g5⟩
        dsimp only
        by_cases z : l ≥ r
        · rw [if_pos z]
          have : r = l := by omega
          subst this
          exact wpS_pure ⟨rfl, r, rfl, g2, g4, g5⟩
        · rw [if_neg z]
          refine wpS_bind (bey _ _ (by omega) ?_)
          cases e : B (l + (r - l) / 2) with
          | true =>
            dsimp only
            rw [if_pos rfl]
            exact wpS_pure ⟨rfl, _, _, rfl, by omega, g2, by omega, fun i hi => hm i _ (by omega) (by omega) e, g5⟩
          | false =>
            dsimp only
            rw [if_neg Bool.false_ne_true]
            exact wpS_pure ⟨rfl, _, _, rfl, by omega, by omega, by omega, g4, fun i h5 h6 => hm' _ i (by omega) h6 e⟩
      · rintro c st2 ⟨rfl, l, r, rfl, g1, g2, g3, g4, g5⟩
        have : r = l := by omega
        subst this
        exact ⟨rfl, r, rfl, g2, g4, g5⟩
      · rintro c st2 ⟨rfl, l, rfl, g1, g2, g3⟩
        exact wpS_pure (h l g1 g2 g3)
  | false =>
    rw [if_neg Bool.false_ne_true]
    refine wpS_bind (wpS_mono (wpS_forRange (I := fun x c st' => st' = st ∧ ∃ l o, c = (none, l, o) ∧ l < o ∧ x + 1 ≤ o ∧ l ≤ hint ∧ B (hint - l) = false)
      (Q := fun c st' => st' = st ∧ ∃ l o, c = (none, l, o) ∧ l < o ∧ l ≤ hint ∧ B (hint - l) = false ∧ (hint + 1 ≤ o ∨ (o ≤ hint ∧ B (hint - o) = true))) ?_ ?_ ⟨rfl, 0, 1, rfl, by omega, by omega, by omega, e⟩) ?_)
    · rintro x c st' _ hx ⟨rfl, l, o, rfl, g1, g2, g3, g4⟩
      dsimp only
      by_cases z : o ≥ hint + 1
      · rw [if_pos z]
        exact wpS_pure ⟨rfl, l, o, rfl, g1, g3, g4, .inl z⟩
      · rw [if_neg z]
        refine wpS_bind (bey _ _ (by omega) ?_)
        cases e2 : B (hint - o) with
        | true =>
          dsimp only
          rw [if_pos rfl]
          exact wpS_pure ⟨rfl, l, o, rfl, g1, g3, g4, .inr ⟨by omega, e2⟩⟩
        | false =>
          dsimp only
          rw [if_neg Bool.false_ne_true]
          exact wpS_pure ⟨rfl, o, 2 * o + 1, rfl, by omega, by omega, by omega, e2⟩
    · rintro c st' ⟨rfl, l, o, rfl, g1, g2, g3, g4⟩
      exact ⟨rfl, l, o, rfl, g1, g3, g4, .inl (by omega)⟩
    · rintro c st' ⟨rfl, l, o, rfl, g1, g3, g4, g5⟩
      dsimp only
      have h1 : (hint + 1 - min o (hint + 1)) ≤ (hint - l) := by omega
      have h2 : (hint - l) ≤ n := by omega
      have h3 : ∀ i, i < (hint + 1 - min o (hint + 1)) → B i = true := fun i hi => by
        rcases g5 with g5 | ⟨g5, g6⟩
        · omega
        · exact hm i _ (by omega) (by omega) g6
      have h4 : ∀ i, (hint - l) ≤ i → i < n → B i = false := fun i h1 h2 => hm' _ i (by omega) h2 g4
      generalize (hint + 1 - min o (hint + 1)) = lo at h1 h3
      generalize (hint - l) = hi at h1 h2 h4
      refine wpS_bind (wpS_mono (wpS_forRange (I := fun x c st2 => st2 = st' ∧ ∃ l r, c = (none, l, r) ∧ l ≤ r ∧ r ≤ n ∧ r - l ≤ n - x ∧ (∀ i, i < l → B i = true) ∧ (∀ i, r ≤ i → i < n → B i = false))
        (Q := fun c st2 => st2 = st' ∧ ∃ l, c = (none, l, l) ∧ l ≤ n ∧ (∀ i, i < l → B i = true) ∧ (∀ i, l ≤ i → i < n → B i = false)) ?_ ?_ ⟨rfl, lo, hi, rfl, h1, h2, by omega, h3, h4⟩) ?_)
      · rintro x c st2 _ hx ⟨rfl, l, r, rfl, g1, g2, g3, g4, g5⟩
        dsimp only
        by_cases z : l ≥ r
        · rw [if_pos z]
          have : r = l := by omega
          subst this
          exact wpS_pure ⟨rfl, r, rfl, g2, g4, g5⟩
        · rw [if_neg z]
          refine wpS_bind (bey _ _ (by omega) ?_)
          cases e : B (l + (r - l) / 2) with
          | true =>
            dsimp only
            rw [if_pos rfl]
            exact wpS_pure ⟨rfl, _, _, rfl, by omega, g2, by omega, fun i hi => hm i _ (by omega) (by omega) e, g5⟩
          | false =>
            dsimp only
            rw [if_neg Bool.false_ne_true]
            exact wpS_pure ⟨rfl, _, _, rfl, by omega, by omega, by omega, g4, fun i h5 h6 => hm' _ i (by omega) h6 e⟩
      · rintro c st2 ⟨rfl, l, r, rfl, g1, g2, g3, g4, g5⟩
        have : r = l := by omega
        subst this
        exact ⟨rfl, r, rfl, g2, g4, g5⟩
      · rintro c st2 ⟨rfl, l, rfl, g1, g2, g3⟩
        exact wpS_pure (h l g1 g2 g3)
end
end L2
namespace L2
open PySem PyProof.Rows
/-! ### two sorted lists are merged -/
section
variable {O : KeyOrd} {key : Keyed → O.α}
abbrev leK (O : KeyOrd) (key : Keyed → O.α) (x y : Keyed) : Prop := O.blt (key y) (key x) = false
theorem leK_of {x y : Keyed} (h : O.blt (key x) (key y) = true) : leK O key x y := KeyOrd.kle_of_klt (O := O) h
theorem leK_trans {x y z : Keyed} (h1 : leK O key x y) (h2 : leK O key y z) : leK O key x z := KeyOrd.kle_trans (O := O) h1 h2
structure MI (O : KeyOrd) (key : Keyed → O.α) (A B o : List Keyed) (ia ib : Nat) : Prop where
  p : (o ++ (A.drop ia ++ B.drop ib)).Perm (A ++ B)
  s : o.Pairwise (leK O key)
  la : ∀ x ∈ o, ∀ y ∈ A.drop ia, leK O key x y
  lb : ∀ x ∈ o, ∀ y ∈ B.drop ib, leK O key x y
def Res (O : KeyOrd) (key : Keyed → O.α) (A B r : List Keyed) : Prop := r.Perm (A ++ B) ∧ r.Pairwise (leK O key)
variable {A B o : List Keyed} {ia ib : Nat}
theorem MI.takeA (m : MI O key A B o ia ib) (sA : A.Pairwise (leK O key)) (k : Nat) (h : ∀ x ∈ (A.drop ia).take k, ∀ y ∈ B.drop ib, leK O key x y) : MI O key A B (o ++ (A.drop ia).take k) (ia + k) ib := by
  have sp : A.drop ia = (A.drop ia).take k ++ A.drop (ia + k) := by
    rw [← List.drop_drop, List.take_append_drop]
  have sd : (A.drop ia).Pairwise (leK O key) := sA.sublist (List.drop_sublist _ _)
  have sd' := sd
  rw [sp, List.pairwise_append] at sd'
  refine ⟨?_, List.pairwise_append.mpr ⟨m.s, sd'.1, fun x hx y hy => m.la x hx y (List.mem_of_mem_take hy)⟩, fun x hx y hy => ?_, fun x hx y hy => ?_⟩
  · rw [List.append_assoc, ← List.append_assoc (List.take k _), ← sp]; exact m.p
  · rcases List.mem_append.mp hx with z | z
    · exact m.la x z y (by rw [sp]; exact List.mem_append_right _ hy)
    · exact sd'.2.2 x z y hy
  · rcases List.mem_append.mp hx with z | z
    · exact m.lb x z y hy
    · exact h x z y hy
theorem MI.takeB (m : MI O key A B o ia ib) (sB : B.Pairwise (leK O key)) (k : Nat) (h : ∀ x ∈ (B.drop ib).take k, ∀ y ∈ A.drop ia, leK O key x y) : MI O key A B (o ++ (B.drop ib).take k) ia (ib + k) := by
  have sp : B.drop ib = (B.drop ib).take k ++ B.drop (ib + k) := by
    rw [← List.drop_drop, List.take_append_drop]
  have sd : (B.drop ib).Pairwise (leK O key) := sB.sublist (List.drop_sublist _ _)
  have sd' := sd
  rw [sp, List.pairwise_append] at sd'
  refine ⟨?_, List.pairwise_append.mpr ⟨m.s, sd'.1, fun x hx y hy => m.lb x hx y (List.mem_of_mem_take hy)⟩, fun x hx y hy => ?_, fun x hx y hy => ?_⟩
  · refine List.Perm.trans ?_ m.p
    rw [List.append_assoc]
    refine List.Perm.append_left _ ?_
    conv => rhs; rw [sp]
    refine (List.perm_append_comm_assoc _ _ _).trans ?_
    exact List.Perm.refl _
  · rcases List.mem_append.mp hx with z | z
    · exact m.la x z y hy
    · exact h x z y hy
  · rcases List.mem_append.mp hx with z | z
    · exact m.lb x z y (by rw [sp]; exact List.mem_append_right _ hy)
    · exact sd'.2.2 x z y hy
theorem MI.endB (m : MI O key A B o ia ib) (sA : A.Pairwise (leK O key)) (h : B.length ≤ ib) : Res O key A B (o ++ A.drop ia ++ B.drop ib) := by
  refine ⟨by rw [List.append_assoc]; exact m.p, ?_⟩
  rw [List.drop_of_length_le h, List.append_nil]
  exact List.pairwise_append.mpr ⟨m.s, sA.sublist (List.drop_sublist _ _), m.la⟩
theorem MI.endA (m : MI O key A B o ia ib) (sB : B.Pairwise (leK O key)) (h : A.length ≤ ia) : Res O key A B (o ++ A.drop ia ++ B.drop ib) := by
  refine ⟨by rw [List.append_assoc]; exact m.p, ?_⟩
  rw [List.drop_of_length_le h, List.append_nil]
  exact List.pairwise_append.mpr ⟨m.s, sB.sublist (List.drop_sublist _ _), m.lb⟩
theorem MI.lastA (m : MI O key A B o ia ib) (sB : B.Pairwise (leK O key)) (sA : A.Pairwise (leK O key)) (h : ∀ x ∈ B, ∀ y ∈ A.drop ia, leK O key x y) : Res O key A B (o ++ B.drop ib ++ A.drop ia) := by
  refine ⟨?_, ?_⟩
  · refine List.Perm.trans ?_ m.p
    rw [List.append_assoc]
    exact List.Perm.append_left _ List.perm_append_comm
  · rw [List.append_assoc]
    refine List.pairwise_append.mpr ⟨m.s, List.pairwise_append.mpr ⟨sB.sublist (List.drop_sublist _ _), sA.sublist (List.drop_sublist _ _), fun x hx y hy => h x (List.mem_of_mem_drop hx) y hy⟩, fun x hx y hy => ?_⟩
    rcases List.mem_append.mp hy with z | z
    · exact m.lb x hx y z
    · exact m.la x hx y z
theorem MI.len (m : MI O key A B o ia ib) : o.length + ((A.length - ia) + (B.length - ib)) = A.length + B.length := by
  have := m.p.length_eq
  rw [List.length_append, List.length_append, List.length_append, List.length_drop, List.length_drop] at this
  exact this
theorem drop_one {l : List Keyed} {i : Nat} {x : Keyed} (h : l[i]? = some x) : (l.drop i).take 1 = [x] := by
  obtain ⟨hi, rfl⟩ := List.getElem?_eq_some_iff.mp h
  rw [List.drop_eq_getElem_cons hi]; rfl
theorem drop_ge {l : List Keyed} (s : l.Pairwise (leK O key)) {i : Nat} {x : Keyed} (h : l[i]? = some x) : ∀ y ∈ l.drop i, leK O key x y := by
  obtain ⟨hi, rfl⟩ := List.getElem?_eq_some_iff.mp h
  have sd : (l.drop i).Pairwise (leK O key) := s.sublist (List.drop_sublist _ _)
  rw [List.drop_eq_getElem_cons hi, List.pairwise_cons] at sd
  intro y hy
  rw [List.drop_eq_getElem_cons hi] at hy
  rcases List.mem_cons.mp hy with rfl | hy
  · exact O.irrefl _
  · exact sd.1 y hy
theorem mem_dropTake {l : List Keyed} {i k : Nat} {x : Keyed} (h : x ∈ (l.drop i).take k) : ∃ j, j < k ∧ l[i + j]? = some x := by
  obtain ⟨j, hj⟩ := List.getElem?_of_mem h
  have hl := (List.getElem?_eq_some_iff.mp hj).1
  rw [List.length_take] at hl
  rw [List.getElem?_take_of_lt (by omega), List.getElem?_drop] at hj
  exact ⟨j, by omega, hj⟩
theorem mem_dropAt {l : List Keyed} {i : Nat} {x : Keyed} (h : x ∈ l.drop i) : ∃ j, l[i + j]? = some x := by
  obtain ⟨j, hj⟩ := List.getElem?_of_mem h
  rw [List.getElem?_drop] at hj
  exact ⟨j, hj⟩
end
def SameG (st st' : SortSt) : Prop := kindOf st' = kindOf st ∧ arrOf st' = arrOf st ∧ pendingOf st' = pendingOf st ∧ failedOf st' = failedOf st
theorem SameG.refl (st : SortSt) : SameG st st := ⟨rfl, rfl, rfl, rfl⟩
theorem SameG.set {st st' : SortSt} (h : SameG st st') (g : Nat) : SameG st (SortSt.mk' (kindOf st') (arrOf st') (pendingOf st') g (failedOf st')) := h
section
variable {M : Model} {Ar : Around} {E : Value → Shared → Prop} {s : Shared} {O : KeyOrd} {key : Keyed → O.α} {knd : SortKind} {D : Keyed → Prop}
theorem arr_at {a : Array Keyed} {i : Nat} (h : i < a.size) : ∃ x, a[i]? = some x ∧ a.toList[i]? = some x ∧ x ∈ a.toList := ⟨a[i], Array.getElem?_eq_getElem h, by rw [Array.getElem?_toList]; exact Array.getElem?_eq_getElem h, by simp⟩
theorem wpS_gR (hL : LtOk M Ar E s O key knd D) {kk : Keyed} {arr : Array Keyed} {base n hint : Nat} {st : SortSt} {Q : Option Nat → SortSt → Prop} (hk : kindOf st = knd) (srt : arr.toList.Pairwise (leK O key)) (dA : ∀ x ∈ arr.toList, D x) (dk : D kk) (hn : base + n ≤ arr.size) (hh : hint < n)
    (h : ∀ k, k ≤ n → (∀ j x, j < k → arr.toList[base + j]? = some x → leK O key x kk) → (∀ j x, k ≤ j → j < n → arr.toList[base + j]? = some x → O.blt (key kk) (key x) = true) → Q (some k) st) : wpS M Ar E s (gallopS false kk arr base n hint) Q st := by
  refine wpS_gallopS hL hk (fun i hi => ?_) dk hh (fun i => match arr[base + i]? with | some x => !O.blt (key kk) (key x) | none => false) (fun i x hi hx => by rw [hx]; rfl) (fun i j hij hj hB => ?_) fun k k1 k2 k3 => ?_
  · obtain ⟨x, p1, _, p3⟩ := arr_at (a := arr) (i := base + i) (by omega)
    exact ⟨x, p1, dA _ p3⟩
  · obtain ⟨x, p1, p2, _⟩ := arr_at (a := arr) (i := base + i) (by omega)
    obtain ⟨x', p1', p2', _⟩ := arr_at (a := arr) (i := base + j) (by omega)
    rw [p1'] at hB
    rw [p1]
    have hB : (!O.blt (key kk) (key x')) = true := hB
    have t1 : leK O key x x' := drop_ge srt p2 x' (List.mem_of_getElem? (i := j - i) (by rw [List.getElem?_drop, show base + i + (j - i) = base + j by omega]; exact p2'))
    have t2 : leK O key x' kk := by simpa using hB
    have t3 : leK O key x kk := leK_trans t1 t2
    show (!O.blt (key kk) (key x)) = true
    rw [t3]; rfl
  · refine h k k1 (fun j x hj hx => ?_) fun j x hj hj2 hx => ?_
    · have := k2 j hj
      rw [← Array.getElem?_toList, hx] at this
      simpa using this
    · have := k3 j hj hj2
      rw [← Array.getElem?_toList, hx] at this
      simpa using this
theorem wpS_gL (hL : LtOk M Ar E s O key knd D) {kk : Keyed} {arr : Array Keyed} {base n hint : Nat} {st : SortSt} {Q : Option Nat → SortSt → Prop} (hk : kindOf st = knd) (srt : arr.toList.Pairwise (leK O key)) (dA : ∀ x ∈ arr.toList, D x) (dk : D kk) (hn : base + n ≤ arr.size) (hh : hint < n)
    (h : ∀ k, k ≤ n → (∀ j x, j < k → arr.toList[base + j]? = some x → O.blt (key x) (key kk) = true) → (∀ j x, k ≤ j → j < n → arr.toList[base + j]? = some x → leK O key kk x) → Q (some k) st) : wpS M Ar E s (gallopS true kk arr base n hint) Q st := by
  refine wpS_gallopS hL hk (fun i hi => ?_) dk hh (fun i => match arr[base + i]? with | some x => O.blt (key x) (key kk) | none => false) (fun i x hi hx => by rw [hx]; rfl) (fun i j hij hj hB => ?_) fun k k1 k2 k3 => ?_
  · obtain ⟨x, p1, _, p3⟩ := arr_at (a := arr) (i := base + i) (by omega)
    exact ⟨x, p1, dA _ p3⟩
  · obtain ⟨x, p1, p2, _⟩ := arr_at (a := arr) (i := base + i) (by omega)
    obtain ⟨x', p1', p2', _⟩ := arr_at (a := arr) (i := base + j) (by omega)
    rw [p1'] at hB
    rw [p1]
    have hB : O.blt (key x') (key kk) = true := hB
    have t1 : leK O key x x' := drop_ge srt p2 x' (List.mem_of_getElem? (i := j - i) (by rw [List.getElem?_drop, show base + i + (j - i) = base + j by omega]; exact p2'))
    exact KeyOrd.klt_of_kle_of_klt (O := O) t1 hB
  · refine h k k1 (fun j x hj hx => ?_) fun j x hj hj2 hx => ?_
    · have := k2 j hj
      rw [← Array.getElem?_toList, hx] at this
      exact this
    · have := k3 j hj hj2
      rw [← Array.getElem?_toList, hx] at this
      exact this
theorem wpS_mergeLoS (hL : LtOk M Ar E s O key knd D) {a b : Array Keyed} {st : SortSt} {Q : Array Keyed → SortSt → Prop} (hk : kindOf st = knd) (dA : ∀ x ∈ a.toList, D x) (dB : ∀ x ∈ b.toList, D x) (sA : a.toList.Pairwise (leK O key)) (sB : b.toList.Pairwise (leK O key))
    (a1 : 1 ≤ a.size) (b1 : 1 ≤ b.size) (hb : ∀ y, b.toList[0]? = some y → ∀ x ∈ a.toList, leK O key y x) (ha : ∀ y, a.toList[a.size - 1]? = some y → ∀ x ∈ b.toList, leK O key x y)
    (h : ∀ (r : Array Keyed) (st' : SortSt), SameG st st' → Res O key a.toList b.toList r.toList → Q r st') : wpS M Ar E s (mergeLoS a b) Q st := by
  have lA : a.toList.length = a.size := Array.length_toList
  have lB : b.toList.length = b.size := Array.length_toList
  -- the three ways out
  have out1 : ∀ {o : Array Keyed} {ia ib : Nat}, MI O key a.toList b.toList o.toList ia ib → ib = b.size → Res O key a.toList b.toList (o ++ a.extract ia a.size ++ b.extract ib b.size).toList := fun {o ia ib} m e => by
    simp only [Array.toList_append, Array.toList_extract, List.extract_eq_take_drop]
    rw [List.take_of_length_le (by rw [List.length_drop]; omega), List.take_of_length_le (by rw [List.length_drop]; omega)]
    exact m.endB sA (by omega)
  have out2 : ∀ {o : Array Keyed} {ia ib : Nat}, MI O key a.toList b.toList o.toList ia ib → ia = a.size → Res O key a.toList b.toList (o ++ a.extract ia a.size ++ b.extract ib b.size).toList := fun {o ia ib} m e => by
    simp only [Array.toList_append, Array.toList_extract, List.extract_eq_take_drop]
    rw [List.take_of_length_le (by rw [List.length_drop]; omega), List.take_of_length_le (by rw [List.length_drop]; omega)]
    exact m.endA sB (by omega)
  have out3 : ∀ {o : Array Keyed} {ia ib : Nat}, MI O key a.toList b.toList o.toList ia ib → ia + 1 = a.size → Res O key a.toList b.toList (o ++ b.extract ib b.size ++ a.extract ia a.size).toList := fun {o ia ib} m e => by
    simp only [Array.toList_append, Array.toList_extract, List.extract_eq_take_drop]
    rw [List.take_of_length_le (by rw [List.length_drop]; omega), List.take_of_length_le (by rw [List.length_drop]; omega)]
    refine m.lastA sB sA fun x hx y hy => ?_
    obtain ⟨j, hj⟩ := mem_dropAt hy
    have := (List.getElem?_eq_some_iff.mp hj).1
    exact ha y (by rw [show a.size - 1 = ia + j by omega]; exact hj) x hx
  -- pushes
  have pushA : ∀ {o : Array Keyed} {ia ib : Nat} {x : Keyed}, MI O key a.toList b.toList o.toList ia ib → a.toList[ia]? = some x → (∀ y ∈ b.toList.drop ib, leK O key x y) → MI O key a.toList b.toList (o.push x).toList (ia + 1) ib := fun {o ia ib x} m hx hy => by
    have := m.takeA sA 1 (by rw [drop_one hx]; intro z hz; rw [List.mem_singleton.mp hz]; exact hy)
    rw [drop_one hx] at this
    rw [Array.toList_push]; exact this
  have pushB : ∀ {o : Array Keyed} {ia ib : Nat} {x : Keyed}, MI O key a.toList b.toList o.toList ia ib → b.toList[ib]? = some x → (∀ y ∈ a.toList.drop ia, leK O key x y) → MI O key a.toList b.toList (o.push x).toList ia (ib + 1) := fun {o ia ib x} m hx hy => by
    have := m.takeB sB 1 (by rw [drop_one hx]; intro z hz; rw [List.mem_singleton.mp hz]; exact hy)
    rw [drop_one hx] at this
    rw [Array.toList_push]; exact this
  refine wpS_bind (wpS_lift (wpAny_rule ⟨rfl, ?_⟩))
  obtain ⟨b0, q1, q2, q3⟩ := arr_at (a := b) (i := 0) (by omega)
  refine wpS_bind (wpS_elemS q1 ?_)
  dsimp only
  have m0 : MI O key a.toList b.toList (#[b0] : Array Keyed).toList 0 1 := by
    have s0 : MI O key a.toList b.toList (#[] : Array Keyed).toList 0 0 := ⟨by simp, List.Pairwise.nil, fun x hx => by simp at hx, fun x hx => by simp at hx⟩
    exact pushB s0 q2 fun y hy => hb b0 q2 y (by simpa using hy)
  by_cases z1 : (1 == b.size) = true
  · rw [if_pos z1]
    exact wpS_pure (h _ _ (SameG.refl _) (out1 m0 (by simpa using z1)))
  rw [if_neg z1]
  have z1' : 1 < b.size := by
    have : ¬ 1 = b.size := by simpa using z1
    omega
  by_cases z2 : (0 + 1 == a.size) = true
  · rw [if_pos z2]
    exact wpS_pure (h _ _ (SameG.refl _) (out3 m0 (by simpa using z2)))
  rw [if_neg z2]
  have z2' : 0 + 1 < a.size := by
    have : ¬ 0 + 1 = a.size := by simpa using z2
    omega
  refine wpS_bind (wpS_get ?_)
  refine wpS_bind (wpS_mono (wpS_forRange (I := fun x c st' => SameG st st' ∧ ∃ (o : Array Keyed) (ia ib mg : Nat), c = (none, o, ia, ib, mg) ∧ MI O key a.toList b.toList o.toList ia ib ∧ ia + 1 < a.size ∧ ib < b.size ∧ 1 + x ≤ o.size)
    (Q := fun c st' => SameG st st' ∧ ∃ r, c.1 = some r ∧ Res O key a.toList b.toList r.toList) ?step ?fin ⟨SameG.refl _, _, _, _, _, rfl, m0, z2', z1', Nat.le_refl _⟩) ?post)
  case post =>
    rintro c st' ⟨g, r, e, hr⟩
    (try dsimp only)
    rw [e]
    exact wpS_pure (h _ _ g hr)
  case fin =>
    rintro c st' ⟨g, o, ia, ib, mg, rfl, m, h1, h2, h3⟩
    have := m.len
    rw [lA, lB, Array.length_toList] at this
    exfalso; omega
  case step =>
    rintro x c st' _ hx ⟨g, o, ia, ib, mg, rfl, m, h1, h2, h3⟩
    dsimp only
    refine wpS_bind (wpS_mono (wpS_forRange (I := fun y c st2 => SameG st st2 ∧ ∃ (o' : Array Keyed) (ia ib ac bc : Nat), c = (none, o', ia, ib, ac, bc) ∧ MI O key a.toList b.toList o'.toList ia ib ∧ ia + 1 < a.size ∧ ib < b.size ∧ o.size + y ≤ o'.size)
      (Q := fun c st2 => SameG st st2 ∧ ((∃ r, c.1 = some r ∧ Res O key a.toList b.toList r.toList) ∨ ∃ (o' : Array Keyed) (ia ib ac bc : Nat), c = (none, o', ia, ib, ac, bc) ∧ MI O key a.toList b.toList o'.toList ia ib ∧ ia + 1 < a.size ∧ ib < b.size ∧ o.size + 1 ≤ o'.size)) ?_ ?_ ⟨g, _, _, _, _, _, rfl, m, h1, h2, Nat.le_refl _⟩) ?_)
    · rintro y c st2 _ hy ⟨g2, o', ia, ib, ac, bc, rfl, m, h1, h2, h3⟩
      dsimp only
      obtain ⟨xb, e1, e2, e3⟩ := arr_at (a := b) h2
      obtain ⟨xa, f1, f2, f3⟩ := arr_at (a := a) (i := ia) (by omega)
      refine wpS_bind (wpS_elemS e1 (wpS_bind (wpS_elemS f1 (wpS_bind (hL.lt (dB _ e3) (dA _ f3) (g2.1.trans hk) ?_)))))
      cases w : O.blt (key xb) (key xa) with
      | true =>
        dsimp only
        rw [if_pos rfl]
        refine wpS_bind (wpS_elemS e1 ?_)
        have m' := pushB m e2 fun y hy => leK_trans (leK_of w) (drop_ge sA f2 y hy)
        (try dsimp only)
        by_cases z : (ib + 1 == b.size) = true
        · rw [if_pos z]
          exact wpS_pure ⟨g2, .inl ⟨_, rfl, out1 m' (by simpa using z)⟩⟩
        · rw [if_neg z]
          have z' : ib + 1 < b.size := by
            have : ¬ ib + 1 = b.size := by simpa using z
            omega
          by_cases v : bc + 1 ≥ mg
          · rw [if_pos v]
            exact wpS_pure ⟨g2, .inr ⟨_, _, _, _, _, rfl, m', h1, z', by rw [Array.size_push]; omega⟩⟩
          · rw [if_neg v]
            exact wpS_pure ⟨g2, _, _, _, _, _, rfl, m', h1, z', by rw [Array.size_push]; omega⟩
      | false =>
        dsimp only
        rw [if_neg Bool.false_ne_true]
        refine wpS_bind (wpS_elemS f1 ?_)
        have m' := pushA m f2 fun y hy => leK_trans w (drop_ge sB e2 y hy)
        (try dsimp only)
        by_cases z : (ia + 1 + 1 == a.size) = true
        · rw [if_pos z]
          exact wpS_pure ⟨g2, .inl ⟨_, rfl, out3 m' (by simpa using z)⟩⟩
        · rw [if_neg z]
          have z' : ia + 1 + 1 < a.size := by
            have : ¬ ia + 1 + 1 = a.size := by simpa using z
            omega
          by_cases v : ac + 1 ≥ mg
          · rw [if_pos v]
            exact wpS_pure ⟨g2, .inr ⟨_, _, _, _, _, rfl, m', z', h2, by rw [Array.size_push]; omega⟩⟩
          · rw [if_neg v]
            exact wpS_pure ⟨g2, _, _, _, _, _, rfl, m', z', h2, by rw [Array.size_push]; omega⟩
    · rintro c st2 ⟨g2, o', ia, ib, ac, bc, rfl, m, h1, h2, h3⟩
      exact ⟨g2, .inr ⟨_, _, _, _, _, rfl, m, h1, h2, by omega⟩⟩
    rintro c st2 ⟨g2, hc⟩
    rcases hc with ⟨r, e, hr⟩ | ⟨o', ia, ib, ac, bc, rfl, m, h1, h2, h4⟩
    · (try dsimp only)
      rw [e]
      exact wpS_pure ⟨g2, r, rfl, hr⟩
    dsimp only
    refine wpS_bind (wpS_lift (wpAny_rule ⟨rfl, ?_⟩))
    refine wpS_bind (wpS_mono (wpS_forRange (I := fun y c st3 => SameG st st3 ∧ ∃ (o2 : Array Keyed) (ia ib mg ac bc : Nat), c = (none, o2, ia, ib, mg, ac, bc) ∧ MI O key a.toList b.toList o2.toList ia ib ∧ ia + 1 < a.size ∧ ib < b.size ∧ o'.size ≤ o2.size)
      (Q := fun c st3 => SameG st st3 ∧ ((∃ r, c.1 = some r ∧ Res O key a.toList b.toList r.toList) ∨ ∃ (o2 : Array Keyed) (ia ib mg ac bc : Nat), c = (none, o2, ia, ib, mg, ac, bc) ∧ MI O key a.toList b.toList o2.toList ia ib ∧ ia + 1 < a.size ∧ ib < b.size ∧ o'.size ≤ o2.size)) ?_ ?_ ⟨g2, _, _, _, _, _, _, rfl, m, h1, h2, Nat.le_refl _⟩) ?_)
    · rintro y c st3 _ hy ⟨g3, o2, ia, ib, mg2, ac, bc, rfl, m, h1, h2, h5⟩
      dsimp only
      obtain ⟨xb, e1, e2, e3⟩ := arr_at (a := b) h2
      by_cases mgz : mg2 > 1
      · rw [if_pos mgz]
        refine wpS_bind (wpS_modify ?_)
        refine wpS_bind (wpS_elemS e1 (wpS_bind (wpS_gR hL (g3.1.trans hk) sA dA (dB _ e3) (by omega) (by omega) fun k k1 k2 k3 => ?_)))
        have g4 := g3.set (mg2 - 1)
        (try dsimp only)
        by_cases w : k > 0
        · rw [if_pos w]
          have mA : MI O key a.toList b.toList (o2 ++ a.extract ia (ia + k)).toList (ia + k) ib := by
            have := m.takeA sA k fun x hx y hy => by
              obtain ⟨j, hj1, hj2⟩ := mem_dropTake hx
              exact leK_trans (k2 j x hj1 hj2) (drop_ge sB e2 y hy)
            rw [Array.toList_append, Array.toList_extract, List.extract_eq_take_drop, show ia + k - ia = k by omega]
            exact this
          by_cases y1 : (ia + k + 1 == a.size) = true
          · rw [if_pos y1]
            exact wpS_pure ⟨g4, .inl ⟨_, rfl, out3 mA (by simpa using y1)⟩⟩
          · rw [if_neg y1]
            by_cases y2 : (ia + k == a.size) = true
            · rw [if_pos y2]
              exact wpS_pure ⟨g4, .inl ⟨_, rfl, out2 mA (by simpa using y2)⟩⟩
            · rw [if_neg y2]
              have y2' : ia + k + 1 < a.size := by
                have q1 : ¬ ia + k + 1 = a.size := by simpa using y1
                have q2 : ¬ ia + k = a.size := by simpa using y2
                omega
              clear y1 y2
              have szX : o'.size ≤ (o2 ++ a.extract ia (ia + k)).size := (by rw [Array.size_append]; omega)
              have h1X : (ia + k) + 1 < a.size := y2'
              refine wpS_bind (wpS_elemS e1 ?_)
              have m2 := pushB mA e2 (fun y hy => by obtain ⟨j, hj⟩ := mem_dropAt hy; exact leK_of (k3 (k + j) y (by omega) (by have := (List.getElem?_eq_some_iff.mp hj).1; omega) (by rw [← Nat.add_assoc]; exact hj)))
              (try dsimp only)
              by_cases z : (ib + 1 == b.size) = true
              · rw [if_pos z]
                exact wpS_pure ⟨g4, .inl ⟨_, rfl, out1 m2 (by simpa using z)⟩⟩
              · rw [if_neg z]
                have z' : ib + 1 < b.size := by
                  have : ¬ ib + 1 = b.size := by simpa using z
                  omega
                obtain ⟨xa, f1, f2, f3⟩ := arr_at (a := a) (i := (ia + k)) (by omega)
                refine wpS_bind (wpS_elemS f1 (wpS_bind (wpS_gL hL (g4.1.trans hk) sB dB (dA _ f3) (by omega) (by omega) fun k2 p1 p2 p3 => ?_)))
                (try dsimp only)
                by_cases v : k2 > 0
                · rw [if_pos v]
                  have mB : MI O key a.toList b.toList ((o2 ++ a.extract ia (ia + k)).push xb ++ b.extract (ib + 1) (ib + 1 + k2)).toList (ia + k) (ib + 1 + k2) := by
                    have := m2.takeB sB k2 fun x hx y hy => by
                      obtain ⟨j, hj1, hj2⟩ := mem_dropTake hx
                      exact leK_trans (leK_of (p2 j x hj1 hj2)) (drop_ge sA f2 y hy)
                    rw [Array.toList_append, Array.toList_extract, List.extract_eq_take_drop, show ib + 1 + k2 - (ib + 1) = k2 by omega]
                    exact this
                  by_cases y : (ib + 1 + k2 == b.size) = true
                  · rw [if_pos y]
                    exact wpS_pure ⟨g4, .inl ⟨_, rfl, out1 mB (by simpa using y)⟩⟩
                  · rw [if_neg y]
                    have v' : ib + 1 + k2 < b.size := by
                      have : ¬ ib + 1 + k2 = b.size := by simpa using y
                      omega
                    refine wpS_bind (wpS_elemS f1 ?_)
                    have m3 := pushA mB f2 (fun y hy => by obtain ⟨j, hj⟩ := mem_dropAt hy; exact p3 (k2 + j) y (by omega) (by have := (List.getElem?_eq_some_iff.mp hj).1; omega) (by rw [← Nat.add_assoc]; exact hj))
                    (try dsimp only)
                    by_cases u : ((ia + k) + 1 + 1 == a.size) = true
                    · rw [if_pos u]
                      exact wpS_pure ⟨g4, .inl ⟨_, rfl, out3 m3 (by simpa using u)⟩⟩
                    · rw [if_neg u]
                      have u' : (ia + k) + 1 + 1 < a.size := by
                        have : ¬ (ia + k) + 1 + 1 = a.size := by simpa using u
                        omega
                      have sz3 : o'.size ≤ (((o2 ++ a.extract ia (ia + k)).push xb ++ b.extract (ib + 1) (ib + 1 + k2)).push xa).size := by
                        rw [Array.size_push]
                        have : o'.size ≤ ((o2 ++ a.extract ia (ia + k)).push xb ++ b.extract (ib + 1) (ib + 1 + k2)).size := (by rw [Array.size_append, Array.size_push]; omega)
                        omega
                      by_cases t : (decide (k < 7) && decide (k2 < 7)) = true
                      · rw [if_pos t]
                        exact wpS_pure ⟨g4, .inr ⟨_, _, _, _, _, _, rfl, m3, u', v', sz3⟩⟩
                      · rw [if_neg t]
                        exact wpS_pure ⟨g4, _, _, _, _, _, _, rfl, m3, u', v', sz3⟩
                · rw [if_neg v]
                  have v0 : k2 = 0 := by omega
                  refine wpS_bind (wpS_elemS f1 ?_)
                  have m3 := pushA m2 f2 (fun y hy => by obtain ⟨j, hj⟩ := mem_dropAt hy; exact p3 j y (by omega) (by have := (List.getElem?_eq_some_iff.mp hj).1; omega) hj)
                  (try dsimp only)
                  by_cases u : ((ia + k) + 1 + 1 == a.size) = true
                  · rw [if_pos u]
                    exact wpS_pure ⟨g4, .inl ⟨_, rfl, out3 m3 (by simpa using u)⟩⟩
                  · rw [if_neg u]
                    have u' : (ia + k) + 1 + 1 < a.size := by
                      have : ¬ (ia + k) + 1 + 1 = a.size := by simpa using u
                      omega
                    have sz3 : o'.size ≤ (((o2 ++ a.extract ia (ia + k)).push xb).push xa).size := by
                      rw [Array.size_push]
                      have : o'.size ≤ ((o2 ++ a.extract ia (ia + k)).push xb).size := (by rw [Array.size_push]; omega)
                      omega
                    by_cases t : (decide (k < 7) && decide (k2 < 7)) = true
                    · rw [if_pos t]
                      exact wpS_pure ⟨g4, .inr ⟨_, _, _, _, _, _, rfl, m3, u', z', sz3⟩⟩
                    · rw [if_neg t]
                      exact wpS_pure ⟨g4, _, _, _, _, _, _, rfl, m3, u', z', sz3⟩
        · rw [if_neg w]
          have w0 : k = 0 := by omega
          have szX : o'.size ≤ o2.size := h5
          have h1X : ia + 1 < a.size := h1
          refine wpS_bind (wpS_elemS e1 ?_)
          have m2 := pushB m e2 (fun y hy => by obtain ⟨j, hj⟩ := mem_dropAt hy; exact leK_of (k3 j y (by omega) (by have := (List.getElem?_eq_some_iff.mp hj).1; omega) hj))
          (try dsimp only)
          by_cases z : (ib + 1 == b.size) = true
          · rw [if_pos z]
            exact wpS_pure ⟨g4, .inl ⟨_, rfl, out1 m2 (by simpa using z)⟩⟩
          · rw [if_neg z]
            have z' : ib + 1 < b.size := by
              have : ¬ ib + 1 = b.size := by simpa using z
              omega
            obtain ⟨xa, f1, f2, f3⟩ := arr_at (a := a) (i := ia) (by omega)
            refine wpS_bind (wpS_elemS f1 (wpS_bind (wpS_gL hL (g4.1.trans hk) sB dB (dA _ f3) (by omega) (by omega) fun k2 p1 p2 p3 => ?_)))
            (try dsimp only)
            by_cases v : k2 > 0
            · rw [if_pos v]
              have mB : MI O key a.toList b.toList (o2.push xb ++ b.extract (ib + 1) (ib + 1 + k2)).toList ia (ib + 1 + k2) := by
                have := m2.takeB sB k2 fun x hx y hy => by
                  obtain ⟨j, hj1, hj2⟩ := mem_dropTake hx
                  exact leK_trans (leK_of (p2 j x hj1 hj2)) (drop_ge sA f2 y hy)
                rw [Array.toList_append, Array.toList_extract, List.extract_eq_take_drop, show ib + 1 + k2 - (ib + 1) = k2 by omega]
                exact this
              by_cases y : (ib + 1 + k2 == b.size) = true
              · rw [if_pos y]
                exact wpS_pure ⟨g4, .inl ⟨_, rfl, out1 mB (by simpa using y)⟩⟩
              · rw [if_neg y]
                have v' : ib + 1 + k2 < b.size := by
                  have : ¬ ib + 1 + k2 = b.size := by simpa using y
                  omega
                refine wpS_bind (wpS_elemS f1 ?_)
                have m3 := pushA mB f2 (fun y hy => by obtain ⟨j, hj⟩ := mem_dropAt hy; exact p3 (k2 + j) y (by omega) (by have := (List.getElem?_eq_some_iff.mp hj).1; omega) (by rw [← Nat.add_assoc]; exact hj))
                (try dsimp only)
                by_cases u : (ia + 1 + 1 == a.size) = true
                · rw [if_pos u]
                  exact wpS_pure ⟨g4, .inl ⟨_, rfl, out3 m3 (by simpa using u)⟩⟩
                · rw [if_neg u]
                  have u' : ia + 1 + 1 < a.size := by
                    have : ¬ ia + 1 + 1 = a.size := by simpa using u
                    omega
                  have sz3 : o'.size ≤ ((o2.push xb ++ b.extract (ib + 1) (ib + 1 + k2)).push xa).size := by
                    rw [Array.size_push]
                    have : o'.size ≤ (o2.push xb ++ b.extract (ib + 1) (ib + 1 + k2)).size := (by rw [Array.size_append, Array.size_push]; omega)
                    omega
                  by_cases t : (decide (k < 7) && decide (k2 < 7)) = true
                  · rw [if_pos t]
                    exact wpS_pure ⟨g4, .inr ⟨_, _, _, _, _, _, rfl, m3, u', v', sz3⟩⟩
                  · rw [if_neg t]
                    exact wpS_pure ⟨g4, _, _, _, _, _, _, rfl, m3, u', v', sz3⟩
            · rw [if_neg v]
              have v0 : k2 = 0 := by omega
              refine wpS_bind (wpS_elemS f1 ?_)
              have m3 := pushA m2 f2 (fun y hy => by obtain ⟨j, hj⟩ := mem_dropAt hy; exact p3 j y (by omega) (by have := (List.getElem?_eq_some_iff.mp hj).1; omega) hj)
              (try dsimp only)
              by_cases u : (ia + 1 + 1 == a.size) = true
              · rw [if_pos u]
                exact wpS_pure ⟨g4, .inl ⟨_, rfl, out3 m3 (by simpa using u)⟩⟩
              · rw [if_neg u]
                have u' : ia + 1 + 1 < a.size := by
                  have : ¬ ia + 1 + 1 = a.size := by simpa using u
                  omega
                have sz3 : o'.size ≤ ((o2.push xb).push xa).size := by
                  rw [Array.size_push]
                  have : o'.size ≤ (o2.push xb).size := (by rw [Array.size_push]; omega)
                  omega
                by_cases t : (decide (k < 7) && decide (k2 < 7)) = true
                · rw [if_pos t]
                  exact wpS_pure ⟨g4, .inr ⟨_, _, _, _, _, _, rfl, m3, u', z', sz3⟩⟩
                · rw [if_neg t]
                  exact wpS_pure ⟨g4, _, _, _, _, _, _, rfl, m3, u', z', sz3⟩
      · rw [if_neg mgz]
        refine wpS_bind (wpS_modify ?_)
        refine wpS_bind (wpS_elemS e1 (wpS_bind (wpS_gR hL (g3.1.trans hk) sA dA (dB _ e3) (by omega) (by omega) fun k k1 k2 k3 => ?_)))
        have g4 := g3.set mg2
        (try dsimp only)
        by_cases w : k > 0
        · rw [if_pos w]
          have mA : MI O key a.toList b.toList (o2 ++ a.extract ia (ia + k)).toList (ia + k) ib := by
            have := m.takeA sA k fun x hx y hy => by
              obtain ⟨j, hj1, hj2⟩ := mem_dropTake hx
              exact leK_trans (k2 j x hj1 hj2) (drop_ge sB e2 y hy)
            rw [Array.toList_append, Array.toList_extract, List.extract_eq_take_drop, show ia + k - ia = k by omega]
            exact this
          by_cases y1 : (ia + k + 1 == a.size) = true
          · rw [if_pos y1]
            exact wpS_pure ⟨g4, .inl ⟨_, rfl, out3 mA (by simpa using y1)⟩⟩
          · rw [if_neg y1]
            by_cases y2 : (ia + k == a.size) = true
            · rw [if_pos y2]
              exact wpS_pure ⟨g4, .inl ⟨_, rfl, out2 mA (by simpa using y2)⟩⟩
            · rw [if_neg y2]
              have y2' : ia + k + 1 < a.size := by
                have q1 : ¬ ia + k + 1 = a.size := by simpa using y1
                have q2 : ¬ ia + k = a.size := by simpa using y2
                omega
              clear y1 y2
              have szX : o'.size ≤ (o2 ++ a.extract ia (ia + k)).size := (by rw [Array.size_append]; omega)
              have h1X : (ia + k) + 1 < a.size := y2'
              refine wpS_bind (wpS_elemS e1 ?_)
              have m2 := pushB mA e2 (fun y hy => by obtain ⟨j, hj⟩ := mem_dropAt hy; exact leK_of (k3 (k + j) y (by omega) (by have := (List.getElem?_eq_some_iff.mp hj).1; omega) (by rw [← Nat.add_assoc]; exact hj)))
              (try dsimp only)
              by_cases z : (ib + 1 == b.size) = true
              · rw [if_pos z]
                exact wpS_pure ⟨g4, .inl ⟨_, rfl, out1 m2 (by simpa using z)⟩⟩
              · rw [if_neg z]
                have z' : ib + 1 < b.size := by
                  have : ¬ ib + 1 = b.size := by simpa using z
                  omega
                obtain ⟨xa, f1, f2, f3⟩ := arr_at (a := a) (i := (ia + k)) (by omega)
                refine wpS_bind (wpS_elemS f1 (wpS_bind (wpS_gL hL (g4.1.trans hk) sB dB (dA _ f3) (by omega) (by omega) fun k2 p1 p2 p3 => ?_)))
                (try dsimp only)
                by_cases v : k2 > 0
                · rw [if_pos v]
                  have mB : MI O key a.toList b.toList ((o2 ++ a.extract ia (ia + k)).push xb ++ b.extract (ib + 1) (ib + 1 + k2)).toList (ia + k) (ib + 1 + k2) := by
                    have := m2.takeB sB k2 fun x hx y hy => by
                      obtain ⟨j, hj1, hj2⟩ := mem_dropTake hx
                      exact leK_trans (leK_of (p2 j x hj1 hj2)) (drop_ge sA f2 y hy)
                    rw [Array.toList_append, Array.toList_extract, List.extract_eq_take_drop, show ib + 1 + k2 - (ib + 1) = k2 by omega]
                    exact this
                  by_cases y : (ib + 1 + k2 == b.size) = true
                  · rw [if_pos y]
                    exact wpS_pure ⟨g4, .inl ⟨_, rfl, out1 mB (by simpa using y)⟩⟩
                  · rw [if_neg y]
                    have v' : ib + 1 + k2 < b.size := by
                      have : ¬ ib + 1 + k2 = b.size := by simpa using y
                      omega
                    refine wpS_bind (wpS_elemS f1 ?_)
                    have m3 := pushA mB f2 (fun y hy => by obtain ⟨j, hj⟩ := mem_dropAt hy; exact p3 (k2 + j) y (by omega) (by have := (List.getElem?_eq_some_iff.mp hj).1; omega) (by rw [← Nat.add_assoc]; exact hj))
                    (try dsimp only)
                    by_cases u : ((ia + k) + 1 + 1 == a.size) = true
                    · rw [if_pos u]
                      exact wpS_pure ⟨g4, .inl ⟨_, rfl, out3 m3 (by simpa using u)⟩⟩
                    · rw [if_neg u]
                      have u' : (ia + k) + 1 + 1 < a.size := by
                        have : ¬ (ia + k) + 1 + 1 = a.size := by simpa using u
                        omega
                      have sz3 : o'.size ≤ (((o2 ++ a.extract ia (ia + k)).push xb ++ b.extract (ib + 1) (ib + 1 + k2)).push xa).size := by
                        rw [Array.size_push]
                        have : o'.size ≤ ((o2 ++ a.extract ia (ia + k)).push xb ++ b.extract (ib + 1) (ib + 1 + k2)).size := (by rw [Array.size_append, Array.size_push]; omega)
                        omega
                      by_cases t : (decide (k < 7) && decide (k2 < 7)) = true
                      · rw [if_pos t]
                        exact wpS_pure ⟨g4, .inr ⟨_, _, _, _, _, _, rfl, m3, u', v', sz3⟩⟩
                      · rw [if_neg t]
                        exact wpS_pure ⟨g4, _, _, _, _, _, _, rfl, m3, u', v', sz3⟩
                · rw [if_neg v]
                  have v0 : k2 = 0 := by omega
                  refine wpS_bind (wpS_elemS f1 ?_)
                  have m3 := pushA m2 f2 (fun y hy => by obtain ⟨j, hj⟩ := mem_dropAt hy; exact p3 j y (by omega) (by have := (List.getElem?_eq_some_iff.mp hj).1; omega) hj)
                  (try dsimp only)
                  by_cases u : ((ia + k) + 1 + 1 == a.size) = true
                  · rw [if_pos u]
                    exact wpS_pure ⟨g4, .inl ⟨_, rfl, out3 m3 (by simpa using u)⟩⟩
                  · rw [if_neg u]
                    have u' : (ia + k) + 1 + 1 < a.size := by
                      have : ¬ (ia + k) + 1 + 1 = a.size := by simpa using u
                      omega
                    have sz3 : o'.size ≤ (((o2 ++ a.extract ia (ia + k)).push xb).push xa).size := by
                      rw [Array.size_push]
                      have : o'.size ≤ ((o2 ++ a.extract ia (ia + k)).push xb).size := (by rw [Array.size_push]; omega)
                      omega
                    by_cases t : (decide (k < 7) && decide (k2 < 7)) = true
                    · rw [if_pos t]
                      exact wpS_pure ⟨g4, .inr ⟨_, _, _, _, _, _, rfl, m3, u', z', sz3⟩⟩
                    · rw [if_neg t]
                      exact wpS_pure ⟨g4, _, _, _, _, _, _, rfl, m3, u', z', sz3⟩
        · rw [if_neg w]
          have w0 : k = 0 := by omega
          have szX : o'.size ≤ o2.size := h5
          have h1X : ia + 1 < a.size := h1
          refine wpS_bind (wpS_elemS e1 ?_)
          have m2 := pushB m e2 (fun y hy => by obtain ⟨j, hj⟩ := mem_dropAt hy; exact leK_of (k3 j y (by omega) (by have := (List.getElem?_eq_some_iff.mp hj).1; omega) hj))
          (try dsimp only)
          by_cases z : (ib + 1 == b.size) = true
          · rw [if_pos z]
            exact wpS_pure ⟨g4, .inl ⟨_, rfl, out1 m2 (by simpa using z)⟩⟩
          · rw [if_neg z]
            have z' : ib + 1 < b.size := by
              have : ¬ ib + 1 = b.size := by simpa using z
              omega
            obtain ⟨xa, f1, f2, f3⟩ := arr_at (a := a) (i := ia) (by omega)
            refine wpS_bind (wpS_elemS f1 (wpS_bind (wpS_gL hL (g4.1.trans hk) sB dB (dA _ f3) (by omega) (by omega) fun k2 p1 p2 p3 => ?_)))
            (try dsimp only)
            by_cases v : k2 > 0
            · rw [if_pos v]
              have mB : MI O key a.toList b.toList (o2.push xb ++ b.extract (ib + 1) (ib + 1 + k2)).toList ia (ib + 1 + k2) := by
                have := m2.takeB sB k2 fun x hx y hy => by
                  obtain ⟨j, hj1, hj2⟩ := mem_dropTake hx
                  exact leK_trans (leK_of (p2 j x hj1 hj2)) (drop_ge sA f2 y hy)
                rw [Array.toList_append, Array.toList_extract, List.extract_eq_take_drop, show ib + 1 + k2 - (ib + 1) = k2 by omega]
                exact this
              by_cases y : (ib + 1 + k2 == b.size) = true
              · rw [if_pos y]
                exact wpS_pure ⟨g4, .inl ⟨_, rfl, out1 mB (by simpa using y)⟩⟩
              · rw [if_neg y]
                have v' : ib + 1 + k2 < b.size := by
                  have : ¬ ib + 1 + k2 = b.size := by simpa using y
                  omega
                refine wpS_bind (wpS_elemS f1 ?_)
                have m3 := pushA mB f2 (fun y hy => by obtain ⟨j, hj⟩ := mem_dropAt hy; exact p3 (k2 + j) y (by omega) (by have := (List.getElem?_eq_some_iff.mp hj).1; omega) (by rw [← Nat.add_assoc]; exact hj))
                (try dsimp only)
                by_cases u : (ia + 1 + 1 == a.size) = true
                · rw [if_pos u]
                  exact wpS_pure ⟨g4, .inl ⟨_, rfl, out3 m3 (by simpa using u)⟩⟩
                · rw [if_neg u]
                  have u' : ia + 1 + 1 < a.size := by
                    have : ¬ ia + 1 + 1 = a.size := by simpa using u
                    omega
                  have sz3 : o'.size ≤ ((o2.push xb ++ b.extract (ib + 1) (ib + 1 + k2)).push xa).size := by
                    rw [Array.size_push]
                    have : o'.size ≤ (o2.push xb ++ b.extract (ib + 1) (ib + 1 + k2)).size := (by rw [Array.size_append, Array.size_push]; omega)
                    omega
                  by_cases t : (decide (k < 7) && decide (k2 < 7)) = true
                  · rw [if_pos t]
                    exact wpS_pure ⟨g4, .inr ⟨_, _, _, _, _, _, rfl, m3, u', v', sz3⟩⟩
                  · rw [if_neg t]
                    exact wpS_pure ⟨g4, _, _, _, _, _, _, rfl, m3, u', v', sz3⟩
            · rw [if_neg v]
              have v0 : k2 = 0 := by omega
              refine wpS_bind (wpS_elemS f1 ?_)
              have m3 := pushA m2 f2 (fun y hy => by obtain ⟨j, hj⟩ := mem_dropAt hy; exact p3 j y (by omega) (by have := (List.getElem?_eq_some_iff.mp hj).1; omega) hj)
              (try dsimp only)
              by_cases u : (ia + 1 + 1 == a.size) = true
              · rw [if_pos u]
                exact wpS_pure ⟨g4, .inl ⟨_, rfl, out3 m3 (by simpa using u)⟩⟩
              · rw [if_neg u]
                have u' : ia + 1 + 1 < a.size := by
                  have : ¬ ia + 1 + 1 = a.size := by simpa using u
                  omega
                have sz3 : o'.size ≤ ((o2.push xb).push xa).size := by
                  rw [Array.size_push]
                  have : o'.size ≤ (o2.push xb).size := (by rw [Array.size_push]; omega)
                  omega
                by_cases t : (decide (k < 7) && decide (k2 < 7)) = true
                · rw [if_pos t]
                  exact wpS_pure ⟨g4, .inr ⟨_, _, _, _, _, _, rfl, m3, u', z', sz3⟩⟩
                · rw [if_neg t]
                  exact wpS_pure ⟨g4, _, _, _, _, _, _, rfl, m3, u', z', sz3⟩
    · rintro c st3 ⟨g3, o2, ia, ib, mg2, ac, bc, rfl, m, h1, h2, h5⟩
      exact ⟨g3, .inr ⟨_, _, _, _, _, _, rfl, m, h1, h2, h5⟩⟩
    rintro c st3 ⟨g3, hc⟩
    rcases hc with ⟨r, e, hr⟩ | ⟨o2, ia, ib, mg2, ac, bc, rfl, m, h1, h2, h5⟩
    · (try dsimp only)
      rw [e]
      exact wpS_pure ⟨g3, r, rfl, hr⟩
    dsimp only
    exact wpS_bind (wpS_modify (wpS_pure ⟨g3.set _, _, _, _, _, rfl, m, h1, h2, by omega⟩))
end
end L2
namespace L2
open PySem PyProof.Rows
/-! ### .. from the right -/
section
variable {O : KeyOrd} {key : Keyed → O.α}
structure MH (O : KeyOrd) (key : Keyed → O.α) (A B r : List Keyed) (na nb : Nat) : Prop where
  p : (A.take na ++ B.take nb ++ r).Perm (A ++ B)
  s : r.Pairwise (leK O key)
  la : ∀ x ∈ A.take na, ∀ y ∈ r, leK O key x y
  lb : ∀ x ∈ B.take nb, ∀ y ∈ r, leK O key x y
variable {A B r : List Keyed} {na nb : Nat}
theorem cut_at {l : List Keyed} {n k : Nat} (h : k ≤ n) : l.take n = l.take k ++ (l.take n).drop k := by
  conv => lhs; rw [← List.take_append_drop k (l.take n)]
  rw [List.take_take, Nat.min_eq_left h]
theorem MH.takeA (m : MH O key A B r na nb) (sA : A.Pairwise (leK O key)) {k : Nat} (hk : k ≤ na) (h : ∀ x ∈ B.take nb, ∀ y ∈ (A.take na).drop k, leK O key x y) : MH O key A B ((A.take na).drop k ++ r) k nb := by
  have sp := cut_at (l := A) hk
  have sd : (A.take na).Pairwise (leK O key) := sA.sublist (List.take_sublist _ _)
  rw [sp, List.pairwise_append] at sd
  refine ⟨?_, List.pairwise_append.mpr ⟨sd.2.1, m.s, fun x hx y hy => m.la x (List.mem_of_mem_drop hx) y hy⟩, fun x hx y hy => ?_, fun x hx y hy => ?_⟩
  · refine List.Perm.trans ?_ m.p
    conv => rhs; rw [sp]
    rw [List.append_assoc, List.append_assoc, List.append_assoc]
    refine List.Perm.append_left _ ?_
    exact List.perm_append_comm_assoc _ _ _
  · rcases List.mem_append.mp hy with z | z
    · exact sd.2.2 x hx y z
    · exact m.la x (by rw [sp]; exact List.mem_append_left _ hx) y z
  · rcases List.mem_append.mp hy with z | z
    · exact h x hx y z
    · exact m.lb x hx y z
theorem MH.takeB (m : MH O key A B r na nb) (sB : B.Pairwise (leK O key)) {k : Nat} (hk : k ≤ nb) (h : ∀ x ∈ A.take na, ∀ y ∈ (B.take nb).drop k, leK O key x y) : MH O key A B ((B.take nb).drop k ++ r) na k := by
  have sp := cut_at (l := B) hk
  have sd : (B.take nb).Pairwise (leK O key) := sB.sublist (List.take_sublist _ _)
  rw [sp, List.pairwise_append] at sd
  refine ⟨?_, List.pairwise_append.mpr ⟨sd.2.1, m.s, fun x hx y hy => m.lb x (List.mem_of_mem_drop hx) y hy⟩, fun x hx y hy => ?_, fun x hx y hy => ?_⟩
  · refine List.Perm.trans ?_ m.p
    conv => rhs; rw [sp]
    rw [List.append_assoc, List.append_assoc, List.append_assoc]
  · rcases List.mem_append.mp hy with z | z
    · exact h x hx y z
    · exact m.la x hx y z
  · rcases List.mem_append.mp hy with z | z
    · exact sd.2.2 x hx y z
    · exact m.lb x (by rw [sp]; exact List.mem_append_left _ hx) y z
theorem MH.endA (m : MH O key A B r 0 nb) (sB : B.Pairwise (leK O key)) : Res O key A B (A.take 0 ++ B.take nb ++ r) := by
  refine ⟨m.p, ?_⟩
  rw [List.take_zero, List.nil_append]
  exact List.pairwise_append.mpr ⟨sB.sublist (List.take_sublist _ _), m.s, m.lb⟩
theorem MH.endB (m : MH O key A B r na 0) (sA : A.Pairwise (leK O key)) : Res O key A B (A.take na ++ B.take 0 ++ r) := by
  refine ⟨m.p, ?_⟩
  rw [List.take_zero, List.append_nil]
  exact List.pairwise_append.mpr ⟨sA.sublist (List.take_sublist _ _), m.s, m.la⟩
theorem MH.firstB (m : MH O key A B r na nb) (sA : A.Pairwise (leK O key)) (sB : B.Pairwise (leK O key)) (h : ∀ x ∈ B.take nb, ∀ y ∈ A, leK O key x y) : Res O key A B (B.take nb ++ A.take na ++ r) := by
  refine ⟨List.Perm.trans (List.Perm.append_right _ List.perm_append_comm) m.p, ?_⟩
  refine List.pairwise_append.mpr ⟨List.pairwise_append.mpr ⟨sB.sublist (List.take_sublist _ _), sA.sublist (List.take_sublist _ _), fun x hx y hy => h x hx y (List.mem_of_mem_take hy)⟩, m.s, fun x hx y hy => ?_⟩
  rcases List.mem_append.mp hx with z | z
  · exact m.lb x z y hy
  · exact m.la x z y hy
theorem MH.len (m : MH O key A B r na nb) (h1 : na ≤ A.length) (h2 : nb ≤ B.length) : na + nb + r.length = A.length + B.length := by
  have := m.p.length_eq
  rw [List.length_append, List.length_append, List.length_append, List.length_take, List.length_take] at this
  omega
theorem take_last {l : List Keyed} {n : Nat} {x : Keyed} (h0 : 0 < n) (h : l[n - 1]? = some x) : (l.take n).drop (n - 1) = [x] := by
  obtain ⟨hi, rfl⟩ := List.getElem?_eq_some_iff.mp h
  rw [List.drop_take, List.drop_eq_getElem_cons hi, show n - (n - 1) = 0 + 1 by omega, List.take_succ_cons, List.take_zero]
theorem take_le {l : List Keyed} (s : l.Pairwise (leK O key)) {n : Nat} {x : Keyed} (h : l[n - 1]? = some x) : ∀ y ∈ l.take n, leK O key y x := by
  intro y hy
  obtain ⟨j, hj⟩ := List.getElem?_of_mem hy
  have hl := (List.getElem?_eq_some_iff.mp hj).1
  rw [List.length_take] at hl
  rw [List.getElem?_take_of_lt (by omega)] at hj
  exact drop_ge s hj x (List.mem_of_getElem? (i := n - 1 - j) (by rw [List.getElem?_drop, show j + (n - 1 - j) = n - 1 by omega]; exact h))
theorem mem_takeAt {l : List Keyed} {n : Nat} {x : Keyed} (h : x ∈ l.take n) : ∃ j, j < n ∧ l[j]? = some x := by
  obtain ⟨j, hj⟩ := List.getElem?_of_mem h
  have hl := (List.getElem?_eq_some_iff.mp hj).1
  rw [List.length_take] at hl
  rw [List.getElem?_take_of_lt (by omega)] at hj
  exact ⟨j, by omega, hj⟩
theorem mem_takeDrop {l : List Keyed} {n k : Nat} {x : Keyed} (h : x ∈ (l.take n).drop k) : ∃ j, k ≤ j ∧ j < n ∧ l[j]? = some x := by
  obtain ⟨j, hj⟩ := List.getElem?_of_mem h
  rw [List.getElem?_drop] at hj
  have hl := (List.getElem?_eq_some_iff.mp hj).1
  rw [List.length_take] at hl
  rw [List.getElem?_take_of_lt (by omega)] at hj
  exact ⟨k + j, by omega, by omega, hj⟩
end
section
variable {M : Model} {Ar : Around} {E : Value → Shared → Prop} {s : Shared} {O : KeyOrd} {key : Keyed → O.α} {knd : SortKind} {D : Keyed → Prop}
theorem wpS_mergeHiS (hL : LtOk M Ar E s O key knd D) {a b : Array Keyed} {st : SortSt} {Q : Array Keyed → SortSt → Prop} (hk : kindOf st = knd) (dA : ∀ x ∈ a.toList, D x) (dB : ∀ x ∈ b.toList, D x) (sA : a.toList.Pairwise (leK O key)) (sB : b.toList.Pairwise (leK O key))
    (a1 : 1 ≤ a.size) (b1 : 1 ≤ b.size) (hb : ∀ y, b.toList[0]? = some y → ∀ x ∈ a.toList, leK O key y x) (ha : ∀ y, a.toList[a.size - 1]? = some y → ∀ x ∈ b.toList, leK O key x y)
    (h : ∀ (r : Array Keyed) (st' : SortSt), SameG st st' → Res O key a.toList b.toList r.toList → Q r st') : wpS M Ar E s (mergeHiS a b) Q st := by
  have lA : a.toList.length = a.size := Array.length_toList
  have lB : b.toList.length = b.size := Array.length_toList
  have tl : ∀ (c d o : Array Keyed) (n k : Nat), (c.extract 0 n ++ d.extract 0 k ++ o.reverse).toList = c.toList.take n ++ d.toList.take k ++ o.toList.reverse := fun c d o n k => by
    simp only [Array.toList_append, Array.toList_extract, List.extract_eq_take_drop, Array.toList_reverse, List.drop_zero, Nat.sub_zero]
  have out1 : ∀ {o : Array Keyed} {na nb : Nat}, MH O key a.toList b.toList o.toList.reverse na nb → na = 0 → Res O key a.toList b.toList (a.extract 0 na ++ b.extract 0 nb ++ o.reverse).toList := fun {o na nb} m e => by
    rw [tl]; subst e; exact m.endA sB
  have out2 : ∀ {o : Array Keyed} {na nb : Nat}, MH O key a.toList b.toList o.toList.reverse na nb → nb = 0 → Res O key a.toList b.toList (a.extract 0 na ++ b.extract 0 nb ++ o.reverse).toList := fun {o na nb} m e => by
    rw [tl]; subst e; exact m.endB sA
  have out3 : ∀ {o : Array Keyed} {na nb : Nat}, MH O key a.toList b.toList o.toList.reverse na nb → nb = 1 → Res O key a.toList b.toList (b.extract 0 nb ++ a.extract 0 na ++ o.reverse).toList := fun {o na nb} m e => by
    rw [tl]
    subst e
    refine m.firstB sA sB fun x hx y hy => ?_
    obtain ⟨j, hj1, hj2⟩ := mem_takeAt hx
    have : j = 0 := by omega
    subst this
    exact hb x hj2 y hy
  have pushA : ∀ {o : Array Keyed} {na nb : Nat} {x : Keyed}, MH O key a.toList b.toList o.toList.reverse na nb → 0 < na → a.toList[na - 1]? = some x → (∀ y ∈ b.toList.take nb, leK O key y x) → MH O key a.toList b.toList (o.push x).toList.reverse (na - 1) nb := fun {o na nb x} m h0 hx hy => by
    have := m.takeA sA (k := na - 1) (by omega) (by rw [take_last h0 hx]; intro z hz w hw; rw [List.mem_singleton.mp hw]; exact hy z hz)
    rw [take_last h0 hx] at this
    rw [Array.toList_push, List.reverse_append]; exact this
  have pushB : ∀ {o : Array Keyed} {na nb : Nat} {x : Keyed}, MH O key a.toList b.toList o.toList.reverse na nb → 0 < nb → b.toList[nb - 1]? = some x → (∀ y ∈ a.toList.take na, leK O key y x) → MH O key a.toList b.toList (o.push x).toList.reverse na (nb - 1) := fun {o na nb x} m h0 hx hy => by
    have := m.takeB sB (k := nb - 1) (by omega) (by rw [take_last h0 hx]; intro z hz w hw; rw [List.mem_singleton.mp hw]; exact hy z hz)
    rw [take_last h0 hx] at this
    rw [Array.toList_push, List.reverse_append]; exact this
  refine wpS_bind (wpS_lift (wpAny_rule ⟨rfl, ?_⟩))
  obtain ⟨al, q1, q2, q3⟩ := arr_at (a := a) (i := a.size - 1) (by omega)
  refine wpS_bind (wpS_elemS q1 ?_)
  (try dsimp only)
  have m0 : MH O key a.toList b.toList (#[al] : Array Keyed).toList.reverse (a.size - 1) b.size := by
    have s0 : MH O key a.toList b.toList (#[] : Array Keyed).toList.reverse a.size b.size := ⟨by rw [← lA, ← lB, List.take_length, List.take_length]; simp, by simp, fun x hx y hy => by simp at hy, fun x hx y hy => by simp at hy⟩
    exact pushA s0 (by omega) q2 fun y hy => ha al q2 y (List.mem_of_mem_take hy)
  by_cases z1 : (a.size - 1 == 0) = true
  · rw [if_pos z1]
    exact wpS_pure (h _ _ (SameG.refl _) (out1 m0 (by simpa using z1)))
  rw [if_neg z1]
  have z1' : 0 < a.size - 1 := by
    have : ¬ a.size - 1 = 0 := by simpa using z1
    omega
  by_cases z2 : (b.size == 1) = true
  · rw [if_pos z2]
    exact wpS_pure (h _ _ (SameG.refl _) (out3 m0 (by simpa using z2)))
  rw [if_neg z2]
  have z2' : 1 < b.size := by
    have : ¬ b.size = 1 := by simpa using z2
    omega
  clear z1 z2
  refine wpS_bind (wpS_get ?_)
  refine wpS_bind (wpS_mono (wpS_forRange (I := fun x c st' => SameG st st' ∧ ∃ (o : Array Keyed) (na nb mg : Nat), c = (none, na, nb, o, mg) ∧ MH O key a.toList b.toList o.toList.reverse na nb ∧ (0 < na ∧ na ≤ a.size) ∧ (1 < nb ∧ nb ≤ b.size) ∧ 1 + x ≤ o.size)
    (Q := fun c st' => SameG st st' ∧ ∃ r, c.1 = some r ∧ Res O key a.toList b.toList r.toList) ?step ?fin ⟨SameG.refl _, _, _, _, _, rfl, m0, ⟨z1', by omega⟩, ⟨z2', Nat.le_refl _⟩, Nat.le_refl _⟩) ?post)
  case post =>
    rintro c st' ⟨g, r, e, hr⟩
    (try dsimp only)
    rw [e]
    exact wpS_pure (h _ _ g hr)
  case fin =>
    rintro c st' ⟨g, o, na, nb, mg, rfl, m, h1, h2, h3⟩
    have := m.len (by omega) (by omega)
    rw [lA, lB, List.length_reverse, Array.length_toList] at this
    exfalso; omega
  case step =>
    rintro x c st' _ hx ⟨g, o, na, nb, mg, rfl, m, h1, h2, h3⟩
    (try dsimp only)
    refine wpS_bind (wpS_mono (wpS_forRange (I := fun y c st2 => SameG st st2 ∧ ∃ (o' : Array Keyed) (na nb ac bc : Nat), c = (none, na, nb, o', ac, bc) ∧ MH O key a.toList b.toList o'.toList.reverse na nb ∧ (0 < na ∧ na ≤ a.size) ∧ (1 < nb ∧ nb ≤ b.size) ∧ o.size + y ≤ o'.size)
      (Q := fun c st2 => SameG st st2 ∧ ((∃ r, c.1 = some r ∧ Res O key a.toList b.toList r.toList) ∨ ∃ (o' : Array Keyed) (na nb ac bc : Nat), c = (none, na, nb, o', ac, bc) ∧ MH O key a.toList b.toList o'.toList.reverse na nb ∧ (0 < na ∧ na ≤ a.size) ∧ (1 < nb ∧ nb ≤ b.size) ∧ o.size + 1 ≤ o'.size)) ?_ ?_ ⟨g, _, _, _, _, _, rfl, m, h1, h2, Nat.le_refl _⟩) ?_)
    · rintro y c st2 _ hy ⟨g2, o', na, nb, ac, bc, rfl, m, h1, h2, h3⟩
      (try dsimp only)
      obtain ⟨xb, e1, e2, e3⟩ := arr_at (a := b) (i := nb - 1) (by omega)
      obtain ⟨xa, f1, f2, f3⟩ := arr_at (a := a) (i := na - 1) (by omega)
      refine wpS_bind (wpS_elemS e1 (wpS_bind (wpS_elemS f1 (wpS_bind (hL.lt (dB _ e3) (dA _ f3) (g2.1.trans hk) ?_)))))
      cases w : O.blt (key xb) (key xa) with
      | true =>
        (try dsimp only)
        rw [if_pos rfl]
        refine wpS_bind (wpS_elemS f1 ?_)
        have m' := pushA m h1.1 f2 fun y hy => leK_trans (take_le sB e2 y hy) (leK_of w)
        (try dsimp only)
        by_cases z : (na - 1 == 0) = true
        · rw [if_pos z]
          exact wpS_pure ⟨g2, .inl ⟨_, rfl, out1 m' (by simpa using z)⟩⟩
        · rw [if_neg z]
          have z' : 0 < na - 1 := by
            have : ¬ na - 1 = 0 := by simpa using z
            omega
          by_cases v : ac + 1 ≥ mg
          · rw [if_pos v]
            exact wpS_pure ⟨g2, .inr ⟨_, _, _, _, _, rfl, m', ⟨z', by omega⟩, h2, by rw [Array.size_push]; omega⟩⟩
          · rw [if_neg v]
            exact wpS_pure ⟨g2, _, _, _, _, _, rfl, m', ⟨z', by omega⟩, h2, by rw [Array.size_push]; omega⟩
      | false =>
        (try dsimp only)
        rw [if_neg Bool.false_ne_true]
        refine wpS_bind (wpS_elemS e1 ?_)
        have m' := pushB m (by omega) e2 fun y hy => leK_trans (take_le sA f2 y hy) w
        (try dsimp only)
        by_cases z : (nb - 1 == 1) = true
        · rw [if_pos z]
          exact wpS_pure ⟨g2, .inl ⟨_, rfl, out3 m' (by simpa using z)⟩⟩
        · rw [if_neg z]
          have z' : 1 < nb - 1 := by
            have : ¬ nb - 1 = 1 := by simpa using z
            omega
          by_cases v : bc + 1 ≥ mg
          · rw [if_pos v]
            exact wpS_pure ⟨g2, .inr ⟨_, _, _, _, _, rfl, m', h1, ⟨z', by omega⟩, by rw [Array.size_push]; omega⟩⟩
          · rw [if_neg v]
            exact wpS_pure ⟨g2, _, _, _, _, _, rfl, m', h1, ⟨z', by omega⟩, by rw [Array.size_push]; omega⟩
    · rintro c st2 ⟨g2, o', na, nb, ac, bc, rfl, m, h1, h2, h3⟩
      exact ⟨g2, .inr ⟨_, _, _, _, _, rfl, m, h1, h2, by omega⟩⟩
    rintro c st2 ⟨g2, hc⟩
    rcases hc with ⟨r, e, hr⟩ | ⟨o', na, nb, ac, bc, rfl, m, h1, h2, h4⟩
    · (try dsimp only)
      rw [e]
      exact wpS_pure ⟨g2, r, rfl, hr⟩
    (try dsimp only)
    refine wpS_bind (wpS_lift (wpAny_rule ⟨rfl, ?_⟩))
    refine wpS_bind (wpS_mono (wpS_forRange (I := fun y c st3 => SameG st st3 ∧ ∃ (o2 : Array Keyed) (na nb mg ac bc : Nat), c = (none, na, nb, o2, mg, ac, bc) ∧ MH O key a.toList b.toList o2.toList.reverse na nb ∧ (0 < na ∧ na ≤ a.size) ∧ (1 < nb ∧ nb ≤ b.size) ∧ o'.size ≤ o2.size)
      (Q := fun c st3 => SameG st st3 ∧ ((∃ r, c.1 = some r ∧ Res O key a.toList b.toList r.toList) ∨ ∃ (o2 : Array Keyed) (na nb mg ac bc : Nat), c = (none, na, nb, o2, mg, ac, bc) ∧ MH O key a.toList b.toList o2.toList.reverse na nb ∧ (0 < na ∧ na ≤ a.size) ∧ (1 < nb ∧ nb ≤ b.size) ∧ o'.size ≤ o2.size)) ?_ ?_ ⟨g2, _, _, _, _, _, _, rfl, m, h1, h2, Nat.le_refl _⟩) ?_)
    · rintro y c st3 _ hy ⟨g3, o2, na, nb, mg2, ac, bc, rfl, m, h1, h2, h5⟩
      (try dsimp only)
      obtain ⟨xb, e1, e2, e3⟩ := arr_at (a := b) (i := nb - 1) (by omega)
      by_cases mgz : mg2 > 1
      · rw [if_pos mgz]
        refine wpS_bind (wpS_modify ?_)
        refine wpS_bind (wpS_elemS e1 (wpS_bind (wpS_gR hL (g3.1.trans hk) sA dA (dB _ e3) (by omega) (by omega) fun k k1 k2 k3 => ?_)))
        have g4 := g3.set (mg2 - 1)
        (try dsimp only)
        by_cases w : na - k > 0
        · rw [if_pos w]
          have mA : MH O key a.toList b.toList (o2 ++ (a.extract k na).reverse).toList.reverse k nb := by
            have := m.takeA sA k1 fun x hx y hy => by
              obtain ⟨j, hj1, hj2, hj3⟩ := mem_takeDrop hy
              exact leK_trans (take_le sB e2 x hx) (leK_of (k3 j y hj1 hj2 (by rw [Nat.zero_add]; exact hj3)))
            rw [Array.toList_append, Array.toList_reverse, List.reverse_append, List.reverse_reverse, Array.toList_extract, List.extract_eq_take_drop, ← List.drop_take]
            exact this
          by_cases y1 : (k == 0) = true
          · rw [if_pos y1]
            exact wpS_pure ⟨g4, .inl ⟨_, rfl, out1 mA (by simpa using y1)⟩⟩
          · rw [if_neg y1]
            have h0X : 0 < k := by
              have q1 : ¬ k = 0 := by simpa using y1
              omega
            clear y1
            have szX : o'.size ≤ (o2 ++ (a.extract k na).reverse).size := (by rw [Array.size_append]; omega)
            refine wpS_bind (wpS_elemS e1 ?_)
            have m2 := pushB mA (by omega) e2 (fun y hy => by obtain ⟨j, hj1, hj2⟩ := mem_takeAt hy; exact k2 j y hj1 (by rw [Nat.zero_add]; exact hj2))
            (try dsimp only)
            by_cases z : (nb - 1 == 1) = true
            · rw [if_pos z]
              exact wpS_pure ⟨g4, .inl ⟨_, rfl, out3 m2 (by simpa using z)⟩⟩
            · rw [if_neg z]
              have z' : 1 < nb - 1 := by
                have : ¬ nb - 1 = 1 := by simpa using z
                omega
              obtain ⟨xa, f1, f2, f3⟩ := arr_at (a := a) (i := k - 1) (by omega)
              refine wpS_bind (wpS_elemS f1 (wpS_bind (wpS_gL hL (g4.1.trans hk) sB dB (dA _ f3) (by omega) (by omega) fun k' p1 p2 p3 => ?_)))
              (try dsimp only)
              by_cases v : nb - 1 - k' > 0
              · rw [if_pos v]
                have mB : MH O key a.toList b.toList ((o2 ++ (a.extract k na).reverse).push xb ++ (b.extract k' (nb - 1)).reverse).toList.reverse k k' := by
                  have := m2.takeB sB p1 fun x hx y hy => by
                    obtain ⟨j, hj1, hj2, hj3⟩ := mem_takeDrop hy
                    exact leK_trans (take_le sA f2 x hx) (p3 j y hj1 hj2 (by rw [Nat.zero_add]; exact hj3))
                  rw [Array.toList_append, Array.toList_reverse, List.reverse_append, List.reverse_reverse, Array.toList_extract, List.extract_eq_take_drop, ← List.drop_take]
                  exact this
                by_cases y : (k' == 1) = true
                · rw [if_pos y]
                  exact wpS_pure ⟨g4, .inl ⟨_, rfl, out3 mB (by simpa using y)⟩⟩
                · rw [if_neg y]
                  by_cases y0 : (k' == 0) = true
                  · rw [if_pos y0]
                    exact wpS_pure ⟨g4, .inl ⟨_, rfl, out2 mB (by simpa using y0)⟩⟩
                  · rw [if_neg y0]
                    have v' : 1 < k' ∧ k' ≤ b.size := by
                      have q1 : ¬ k' = 1 := by simpa using y
                      have q2 : ¬ k' = 0 := by simpa using y0
                      omega
                    refine wpS_bind (wpS_elemS f1 ?_)
                    have m3 := pushA mB h0X f2 (fun y hy => by obtain ⟨j, hj1, hj2⟩ := mem_takeAt hy; exact leK_of (p2 j y hj1 (by rw [Nat.zero_add]; exact hj2)))
                    (try dsimp only)
                    by_cases u : (k - 1 == 0) = true
                    · rw [if_pos u]
                      exact wpS_pure ⟨g4, .inl ⟨_, rfl, out1 m3 (by simpa using u)⟩⟩
                    · rw [if_neg u]
                      have u' : 0 < k - 1 ∧ k - 1 ≤ a.size := by
                        have : ¬ k - 1 = 0 := by simpa using u
                        omega
                      have sz3 : o'.size ≤ (((o2 ++ (a.extract k na).reverse).push xb ++ (b.extract k' (nb - 1)).reverse).push xa).size := by
                        rw [Array.size_push]
                        have : o'.size ≤ ((o2 ++ (a.extract k na).reverse).push xb ++ (b.extract k' (nb - 1)).reverse).size := (by rw [Array.size_append, Array.size_push]; omega)
                        omega
                      by_cases t : (decide (na - k < 7) && decide (nb - 1 - k' < 7)) = true
                      · rw [if_pos t]
                        exact wpS_pure ⟨g4, .inr ⟨_, _, _, _, _, _, rfl, m3, u', v', sz3⟩⟩
                      · rw [if_neg t]
                        exact wpS_pure ⟨g4, _, _, _, _, _, _, rfl, m3, u', v', sz3⟩
              · rw [if_neg v]
                have v0 : k' = nb - 1 := by omega
                refine wpS_bind (wpS_elemS f1 ?_)
                have m3 := pushA m2 h0X f2 (fun y hy => by obtain ⟨j, hj1, hj2⟩ := mem_takeAt hy; exact leK_of (p2 j y (by omega) (by rw [Nat.zero_add]; exact hj2)))
                (try dsimp only)
                by_cases u : (k - 1 == 0) = true
                · rw [if_pos u]
                  exact wpS_pure ⟨g4, .inl ⟨_, rfl, out1 m3 (by simpa using u)⟩⟩
                · rw [if_neg u]
                  have u' : 0 < k - 1 ∧ k - 1 ≤ a.size := by
                    have : ¬ k - 1 = 0 := by simpa using u
                    omega
                  have sz3 : o'.size ≤ (((o2 ++ (a.extract k na).reverse).push xb).push xa).size := by
                    rw [Array.size_push]
                    have : o'.size ≤ ((o2 ++ (a.extract k na).reverse).push xb).size := (by rw [Array.size_push]; omega)
                    omega
                  by_cases t : (decide (na - k < 7) && decide (nb - 1 - k' < 7)) = true
                  · rw [if_pos t]
                    exact wpS_pure ⟨g4, .inr ⟨_, _, _, _, _, _, rfl, m3, u', ⟨z', by omega⟩, sz3⟩⟩
                  · rw [if_neg t]
                    exact wpS_pure ⟨g4, _, _, _, _, _, _, rfl, m3, u', ⟨z', by omega⟩, sz3⟩
        · rw [if_neg w]
          have w0 : k = na := by omega
          have h0X := h1.1
          have szX : o'.size ≤ o2.size := h5
          refine wpS_bind (wpS_elemS e1 ?_)
          have m2 := pushB m (by omega) e2 (fun y hy => by obtain ⟨j, hj1, hj2⟩ := mem_takeAt hy; exact k2 j y (by omega) (by rw [Nat.zero_add]; exact hj2))
          (try dsimp only)
          by_cases z : (nb - 1 == 1) = true
          · rw [if_pos z]
            exact wpS_pure ⟨g4, .inl ⟨_, rfl, out3 m2 (by simpa using z)⟩⟩
          · rw [if_neg z]
            have z' : 1 < nb - 1 := by
              have : ¬ nb - 1 = 1 := by simpa using z
              omega
            obtain ⟨xa, f1, f2, f3⟩ := arr_at (a := a) (i := na - 1) (by omega)
            refine wpS_bind (wpS_elemS f1 (wpS_bind (wpS_gL hL (g4.1.trans hk) sB dB (dA _ f3) (by omega) (by omega) fun k' p1 p2 p3 => ?_)))
            (try dsimp only)
            by_cases v : nb - 1 - k' > 0
            · rw [if_pos v]
              have mB : MH O key a.toList b.toList (o2.push xb ++ (b.extract k' (nb - 1)).reverse).toList.reverse na k' := by
                have := m2.takeB sB p1 fun x hx y hy => by
                  obtain ⟨j, hj1, hj2, hj3⟩ := mem_takeDrop hy
                  exact leK_trans (take_le sA f2 x hx) (p3 j y hj1 hj2 (by rw [Nat.zero_add]; exact hj3))
                rw [Array.toList_append, Array.toList_reverse, List.reverse_append, List.reverse_reverse, Array.toList_extract, List.extract_eq_take_drop, ← List.drop_take]
                exact this
              by_cases y : (k' == 1) = true
              · rw [if_pos y]
                exact wpS_pure ⟨g4, .inl ⟨_, rfl, out3 mB (by simpa using y)⟩⟩
              · rw [if_neg y]
                by_cases y0 : (k' == 0) = true
                · rw [if_pos y0]
                  exact wpS_pure ⟨g4, .inl ⟨_, rfl, out2 mB (by simpa using y0)⟩⟩
                · rw [if_neg y0]
                  have v' : 1 < k' ∧ k' ≤ b.size := by
                    have q1 : ¬ k' = 1 := by simpa using y
                    have q2 : ¬ k' = 0 := by simpa using y0
                    omega
                  refine wpS_bind (wpS_elemS f1 ?_)
                  have m3 := pushA mB h0X f2 (fun y hy => by obtain ⟨j, hj1, hj2⟩ := mem_takeAt hy; exact leK_of (p2 j y hj1 (by rw [Nat.zero_add]; exact hj2)))
                  (try dsimp only)
                  by_cases u : (na - 1 == 0) = true
                  · rw [if_pos u]
                    exact wpS_pure ⟨g4, .inl ⟨_, rfl, out1 m3 (by simpa using u)⟩⟩
                  · rw [if_neg u]
                    have u' : 0 < na - 1 ∧ na - 1 ≤ a.size := by
                      have : ¬ na - 1 = 0 := by simpa using u
                      omega
                    have sz3 : o'.size ≤ ((o2.push xb ++ (b.extract k' (nb - 1)).reverse).push xa).size := by
                      rw [Array.size_push]
                      have : o'.size ≤ (o2.push xb ++ (b.extract k' (nb - 1)).reverse).size := (by rw [Array.size_append, Array.size_push]; omega)
                      omega
                    by_cases t : (decide (na - k < 7) && decide (nb - 1 - k' < 7)) = true
                    · rw [if_pos t]
                      exact wpS_pure ⟨g4, .inr ⟨_, _, _, _, _, _, rfl, m3, u', v', sz3⟩⟩
                    · rw [if_neg t]
                      exact wpS_pure ⟨g4, _, _, _, _, _, _, rfl, m3, u', v', sz3⟩
            · rw [if_neg v]
              have v0 : k' = nb - 1 := by omega
              refine wpS_bind (wpS_elemS f1 ?_)
              have m3 := pushA m2 h0X f2 (fun y hy => by obtain ⟨j, hj1, hj2⟩ := mem_takeAt hy; exact leK_of (p2 j y (by omega) (by rw [Nat.zero_add]; exact hj2)))
              (try dsimp only)
              by_cases u : (na - 1 == 0) = true
              · rw [if_pos u]
                exact wpS_pure ⟨g4, .inl ⟨_, rfl, out1 m3 (by simpa using u)⟩⟩
              · rw [if_neg u]
                have u' : 0 < na - 1 ∧ na - 1 ≤ a.size := by
                  have : ¬ na - 1 = 0 := by simpa using u
                  omega
                have sz3 : o'.size ≤ ((o2.push xb).push xa).size := by
                  rw [Array.size_push]
                  have : o'.size ≤ (o2.push xb).size := (by rw [Array.size_push]; omega)
                  omega
                by_cases t : (decide (na - k < 7) && decide (nb - 1 - k' < 7)) = true
                · rw [if_pos t]
                  exact wpS_pure ⟨g4, .inr ⟨_, _, _, _, _, _, rfl, m3, u', ⟨z', by omega⟩, sz3⟩⟩
                · rw [if_neg t]
                  exact wpS_pure ⟨g4, _, _, _, _, _, _, rfl, m3, u', ⟨z', by omega⟩, sz3⟩
      · rw [if_neg mgz]
        refine wpS_bind (wpS_modify ?_)
        refine wpS_bind (wpS_elemS e1 (wpS_bind (wpS_gR hL (g3.1.trans hk) sA dA (dB _ e3) (by omega) (by omega) fun k k1 k2 k3 => ?_)))
        have g4 := g3.set mg2
        (try dsimp only)
        by_cases w : na - k > 0
        · rw [if_pos w]
          have mA : MH O key a.toList b.toList (o2 ++ (a.extract k na).reverse).toList.reverse k nb := by
            have := m.takeA sA k1 fun x hx y hy => by
              obtain ⟨j, hj1, hj2, hj3⟩ := mem_takeDrop hy
              exact leK_trans (take_le sB e2 x hx) (leK_of (k3 j y hj1 hj2 (by rw [Nat.zero_add]; exact hj3)))
            rw [Array.toList_append, Array.toList_reverse, List.reverse_append, List.reverse_reverse, Array.toList_extract, List.extract_eq_take_drop, ← List.drop_take]
            exact this
          by_cases y1 : (k == 0) = true
          · rw [if_pos y1]
            exact wpS_pure ⟨g4, .inl ⟨_, rfl, out1 mA (by simpa using y1)⟩⟩
          · rw [if_neg y1]
            have h0X : 0 < k := by
              have q1 : ¬ k = 0 := by simpa using y1
              omega
            clear y1
            have szX : o'.size ≤ (o2 ++ (a.extract k na).reverse).size := (by rw [Array.size_append]; omega)
            refine wpS_bind (wpS_elemS e1 ?_)
            have m2 := pushB mA (by omega) e2 (fun y hy => by obtain ⟨j, hj1, hj2⟩ := mem_takeAt hy; exact k2 j y hj1 (by rw [Nat.zero_add]; exact hj2))
            (try dsimp only)
            by_cases z : (nb - 1 == 1) = true
            · rw [if_pos z]
              exact wpS_pure ⟨g4, .inl ⟨_, rfl, out3 m2 (by simpa using z)⟩⟩
            · rw [if_neg z]
              have z' : 1 < nb - 1 := by
                have : ¬ nb - 1 = 1 := by simpa using z
                omega
              obtain ⟨xa, f1, f2, f3⟩ := arr_at (a := a) (i := k - 1) (by omega)
              refine wpS_bind (wpS_elemS f1 (wpS_bind (wpS_gL hL (g4.1.trans hk) sB dB (dA _ f3) (by omega) (by omega) fun k' p1 p2 p3 => ?_)))
              (try dsimp only)
              by_cases v : nb - 1 - k' > 0
              · rw [if_pos v]
                have mB : MH O key a.toList b.toList ((o2 ++ (a.extract k na).reverse).push xb ++ (b.extract k' (nb - 1)).reverse).toList.reverse k k' := by
                  have := m2.takeB sB p1 fun x hx y hy => by
                    obtain ⟨j, hj1, hj2, hj3⟩ := mem_takeDrop hy
                    exact leK_trans (take_le sA f2 x hx) (p3 j y hj1 hj2 (by rw [Nat.zero_add]; exact hj3))
                  rw [Array.toList_append, Array.toList_reverse, List.reverse_append, List.reverse_reverse, Array.toList_extract, List.extract_eq_take_drop, ← List.drop_take]
                  exact this
                by_cases y : (k' == 1) = true
                · rw [if_pos y]
                  exact wpS_pure ⟨g4, .inl ⟨_, rfl, out3 mB (by simpa using y)⟩⟩
                · rw [if_neg y]
                  by_cases y0 : (k' == 0) = true
                  · rw [if_pos y0]
                    exact wpS_pure ⟨g4, .inl ⟨_, rfl, out2 mB (by simpa using y0)⟩⟩
                  · rw [if_neg y0]
                    have v' : 1 < k' ∧ k' ≤ b.size := by
                      have q1 : ¬ k' = 1 := by simpa using y
                      have q2 : ¬ k' = 0 := by simpa using y0
                      omega
                    refine wpS_bind (wpS_elemS f1 ?_)
                    have m3 := pushA mB h0X f2 (fun y hy => by obtain ⟨j, hj1, hj2⟩ := mem_takeAt hy; exact leK_of (p2 j y hj1 (by rw [Nat.zero_add]; exact hj2)))
                    (try dsimp only)
                    by_cases u : (k - 1 == 0) = true
                    · rw [if_pos u]
                      exact wpS_pure ⟨g4, .inl ⟨_, rfl, out1 m3 (by simpa using u)⟩⟩
                    · rw [if_neg u]
                      have u' : 0 < k - 1 ∧ k - 1 ≤ a.size := by
                        have : ¬ k - 1 = 0 := by simpa using u
                        omega
                      have sz3 : o'.size ≤ (((o2 ++ (a.extract k na).reverse).push xb ++ (b.extract k' (nb - 1)).reverse).push xa).size := by
                        rw [Array.size_push]
                        have : o'.size ≤ ((o2 ++ (a.extract k na).reverse).push xb ++ (b.extract k' (nb - 1)).reverse).size := (by rw [Array.size_append, Array.size_push]; omega)
                        omega
                      by_cases t : (decide (na - k < 7) && decide (nb - 1 - k' < 7)) = true
                      · rw [if_pos t]
                        exact wpS_pure ⟨g4, .inr ⟨_, _, _, _, _, _, rfl, m3, u', v', sz3⟩⟩
                      · rw [if_neg t]
                        exact wpS_pure ⟨g4, _, _, _, _, _, _, rfl, m3, u', v', sz3⟩
              · rw [if_neg v]
                have v0 : k' = nb - 1 := by omega
                refine wpS_bind (wpS_elemS f1 ?_)
                have m3 := pushA m2 h0X f2 (fun y hy => by obtain ⟨j, hj1, hj2⟩ := mem_takeAt hy; exact leK_of (p2 j y (by omega) (by rw [Nat.zero_add]; exact hj2)))
                (try dsimp only)
                by_cases u : (k - 1 == 0) = true
                · rw [if_pos u]
                  exact wpS_pure ⟨g4, .inl ⟨_, rfl, out1 m3 (by simpa using u)⟩⟩
                · rw [if_neg u]
                  have u' : 0 < k - 1 ∧ k - 1 ≤ a.size := by
                    have : ¬ k - 1 = 0 := by simpa using u
                    omega
                  have sz3 : o'.size ≤ (((o2 ++ (a.extract k na).reverse).push xb).push xa).size := by
                    rw [Array.size_push]
                    have : o'.size ≤ ((o2 ++ (a.extract k na).reverse).push xb).size := (by rw [Array.size_push]; omega)
                    omega
                  by_cases t : (decide (na - k < 7) && decide (nb - 1 - k' < 7)) = true
                  · rw [if_pos t]
                    exact wpS_pure ⟨g4, .inr ⟨_, _, _, _, _, _, rfl, m3, u', ⟨z', by omega⟩, sz3⟩⟩
                  · rw [if_neg t]
                    exact wpS_pure ⟨g4, _, _, _, _, _, _, rfl, m3, u', ⟨z', by omega⟩, sz3⟩
        · rw [if_neg w]
          have w0 : k = na := by omega
          have h0X := h1.1
          have szX : o'.size ≤ o2.size := h5
          refine wpS_bind (wpS_elemS e1 ?_)
          have m2 := pushB m (by omega) e2 (fun y hy => by obtain ⟨j, hj1, hj2⟩ := mem_takeAt hy; exact k2 j y (by omega) (by rw [Nat.zero_add]; exact hj2))
          (try dsimp only)
          by_cases z : (nb - 1 == 1) = true
          · rw [if_pos z]
            exact wpS_pure ⟨g4, .inl ⟨_, rfl, out3 m2 (by simpa using z)⟩⟩
          · rw [if_neg z]
            have z' : 1 < nb - 1 := by
              have : ¬ nb - 1 = 1 := by simpa using z
              omega
            obtain ⟨xa, f1, f2, f3⟩ := arr_at (a := a) (i := na - 1) (by omega)
            refine wpS_bind (wpS_elemS f1 (wpS_bind (wpS_gL hL (g4.1.trans hk) sB dB (dA _ f3) (by omega) (by omega) fun k' p1 p2 p3 => ?_)))
            (try dsimp only)
            by_cases v : nb - 1 - k' > 0
            · rw [if_pos v]
              have mB : MH O key a.toList b.toList (o2.push xb ++ (b.extract k' (nb - 1)).reverse).toList.reverse na k' := by
                have := m2.takeB sB p1 fun x hx y hy => by
                  obtain ⟨j, hj1, hj2, hj3⟩ := mem_takeDrop hy
                  exact leK_trans (take_le sA f2 x hx) (p3 j y hj1 hj2 (by rw [Nat.zero_add]; exact hj3))
                rw [Array.toList_append, Array.toList_reverse, List.reverse_append, List.reverse_reverse, Array.toList_extract, List.extract_eq_take_drop, ← List.drop_take]
                exact this
              by_cases y : (k' == 1) = true
              · rw [if_pos y]
                exact wpS_pure ⟨g4, .inl ⟨_, rfl, out3 mB (by simpa using y)⟩⟩
              · rw [if_neg y]
                by_cases y0 : (k' == 0) = true
                · rw [if_pos y0]
                  exact wpS_pure ⟨g4, .inl ⟨_, rfl, out2 mB (by simpa using y0)⟩⟩
                · rw [if_neg y0]
                  have v' : 1 < k' ∧ k' ≤ b.size := by
                    have q1 : ¬ k' = 1 := by simpa using y
                    have q2 : ¬ k' = 0 := by simpa using y0
                    omega
                  refine wpS_bind (wpS_elemS f1 ?_)
                  have m3 := pushA mB h0X f2 (fun y hy => by obtain ⟨j, hj1, hj2⟩ := mem_takeAt hy; exact leK_of (p2 j y hj1 (by rw [Nat.zero_add]; exact hj2)))
                  (try dsimp only)
                  by_cases u : (na - 1 == 0) = true
                  · rw [if_pos u]
                    exact wpS_pure ⟨g4, .inl ⟨_, rfl, out1 m3 (by simpa using u)⟩⟩
                  · rw [if_neg u]
                    have u' : 0 < na - 1 ∧ na - 1 ≤ a.size := by
                      have : ¬ na - 1 = 0 := by simpa using u
                      omega
                    have sz3 : o'.size ≤ ((o2.push xb ++ (b.extract k' (nb - 1)).reverse).push xa).size := by
                      rw [Array.size_push]
                      have : o'.size ≤ (o2.push xb ++ (b.extract k' (nb - 1)).reverse).size := (by rw [Array.size_append, Array.size_push]; omega)
                      omega
                    by_cases t : (decide (na - k < 7) && decide (nb - 1 - k' < 7)) = true
                    · rw [if_pos t]
                      exact wpS_pure ⟨g4, .inr ⟨_, _, _, _, _, _, rfl, m3, u', v', sz3⟩⟩
                    · rw [if_neg t]
                      exact wpS_pure ⟨g4, _, _, _, _, _, _, rfl, m3, u', v', sz3⟩
            · rw [if_neg v]
              have v0 : k' = nb - 1 := by omega
              refine wpS_bind (wpS_elemS f1 ?_)
              have m3 := pushA m2 h0X f2 (fun y hy => by obtain ⟨j, hj1, hj2⟩ := mem_takeAt hy; exact leK_of (p2 j y (by omega) (by rw [Nat.zero_add]; exact hj2)))
              (try dsimp only)
              by_cases u : (na - 1 == 0) = true
              · rw [if_pos u]
                exact wpS_pure ⟨g4, .inl ⟨_, rfl, out1 m3 (by simpa using u)⟩⟩
              · rw [if_neg u]
                have u' : 0 < na - 1 ∧ na - 1 ≤ a.size := by
                  have : ¬ na - 1 = 0 := by simpa using u
                  omega
                have sz3 : o'.size ≤ ((o2.push xb).push xa).size := by
                  rw [Array.size_push]
                  have : o'.size ≤ (o2.push xb).size := (by rw [Array.size_push]; omega)
                  omega
                by_cases t : (decide (na - k < 7) && decide (nb - 1 - k' < 7)) = true
                · rw [if_pos t]
                  exact wpS_pure ⟨g4, .inr ⟨_, _, _, _, _, _, rfl, m3, u', ⟨z', by omega⟩, sz3⟩⟩
                · rw [if_neg t]
                  exact wpS_pure ⟨g4, _, _, _, _, _, _, rfl, m3, u', ⟨z', by omega⟩, sz3⟩
    · rintro c st3 ⟨g3, o2, na, nb, mg2, ac, bc, rfl, m, h1, h2, h5⟩
      exact ⟨g3, .inr ⟨_, _, _, _, _, _, rfl, m, h1, h2, h5⟩⟩
    rintro c st3 ⟨g3, hc⟩
    rcases hc with ⟨r, e, hr⟩ | ⟨o2, na, nb, mg2, ac, bc, rfl, m, h1, h2, h5⟩
    · (try dsimp only)
      rw [e]
      exact wpS_pure ⟨g3, r, rfl, hr⟩
    (try dsimp only)
    exact wpS_bind (wpS_modify (wpS_pure ⟨g3.set _, _, _, _, _, rfl, m, h1, h2, by omega⟩))
end
end L2
namespace L2
open PySem PyProof.Rows
/-! ### runs -/
section
variable {O : KeyOrd} {key : Keyed → O.α}
def kx (key : Keyed → O.α) (xs : Array Keyed) (i : Nat) : O.α := key ((xs[i]?).getD (.none, .none))
def SrtI (O : KeyOrd) (key : Keyed → O.α) (xs : Array Keyed) (lo hi : Nat) : Prop := ∀ i j, lo ≤ i → i ≤ j → j < hi → O.kle (kx key xs i) (kx key xs j)
def DecI (O : KeyOrd) (key : Keyed → O.α) (xs : Array Keyed) (lo hi : Nat) : Prop := ∀ i j, lo ≤ i → i ≤ j → j < hi → O.kle (kx key xs j) (kx key xs i)
theorem kx_congr {xs ys : Array Keyed} {i j : Nat} (h : xs[i]? = ys[j]?) : kx key xs i = kx key ys j := by unfold kx; rw [h]
theorem kx_at {xs : Array Keyed} {i : Nat} {x : Keyed} (h : xs[i]? = some x) : kx key xs i = key x := by unfold kx; rw [h]; rfl
theorem kx_mirror {xs : Array Keyed} {i j : Nat} (hj : j ≤ xs.size) (k : Nat) : kx key (mirror xs i j ((j - i) / 2)) k = if i ≤ k ∧ k < j then kx key xs (i + j - 1 - k) else kx key xs k := by
  have e := getElem?_mirror_all (i := i) hj k
  split
  · rename_i h; rw [if_pos h] at e; exact kx_congr e
  · rename_i h; rw [if_neg h] at e; exact kx_congr e
theorem kx_mirror_eq {xs : Array Keyed} {i j : Nat} (hj : j ≤ xs.size) (he : ∀ k, i ≤ k → k < j → kx key xs k = kx key xs (j - 1)) (k : Nat) : kx key (mirror xs i j ((j - i) / 2)) k = kx key xs k := by
  rw [kx_mirror hj]
  split
  · rename_i h
    rw [he (i + j - 1 - k) (by omega) (by omega), he k h.1 h.2]
  · rfl
theorem kx_bubble {xs : Array Keyed} {src d : Nat} (hs : src < xs.size) (hd : d ≤ src) (k : Nat) : kx key (bubble xs src d) k = if k = src - d then kx key xs src else if src - d < k ∧ k ≤ src then kx key xs (k - 1) else kx key xs k := by
  have e := getElem?_bubble hs d hd k
  split
  · rename_i h; rw [if_pos h] at e; exact kx_congr e
  · rename_i h
    rw [if_neg h] at e
    split
    · rename_i h'; rw [if_pos h'] at e; exact kx_congr e
    · rename_i h'; rw [if_neg h'] at e; exact kx_congr e
end
def PermIn (xs ys : Array Keyed) (lo hi : Nat) : Prop := ys.Perm xs ∧ ∀ k, k < lo ∨ hi ≤ k → ys[k]? = xs[k]?
theorem PermIn.refl (xs : Array Keyed) (lo hi : Nat) : PermIn xs xs lo hi := ⟨Array.Perm.refl _, fun _ _ => rfl⟩
theorem PermIn.trans {xs ys zs : Array Keyed} {lo hi : Nat} (h1 : PermIn xs ys lo hi) (h2 : PermIn ys zs lo hi) : PermIn xs zs lo hi := ⟨h2.1.trans h1.1, fun k hk => (h2.2 k hk).trans (h1.2 k hk)⟩
theorem PermIn.wide {xs ys : Array Keyed} {lo hi lo' hi' : Nat} (h : PermIn xs ys lo hi) (h1 : lo' ≤ lo) (h2 : hi ≤ hi') : PermIn xs ys lo' hi' := ⟨h.1, fun k hk => h.2 k (by omega)⟩
theorem permIn_mirror {xs : Array Keyed} {i j : Nat} (hj : j ≤ xs.size) : PermIn xs (mirror xs i j ((j - i) / 2)) i j := ⟨mirror_perm _ _ _ _, fun k hk => by rw [getElem?_mirror_all hj, if_neg (by omega)]⟩
theorem permIn_bubble {xs : Array Keyed} {src d : Nat} (hs : src < xs.size) (hd : d ≤ src) : PermIn xs (bubble xs src d) (src - d) (src + 1) := ⟨bubble_perm _ _ _, fun k hk => by rw [getElem?_bubble hs d hd, if_neg (by omega), if_neg (by omega)]⟩
structure SV (knd : SortKind) (D : Keyed → Prop) (n : Nat) (st : SortSt) : Prop where
  kind : kindOf st = knd
  fail : failedOf st = none
  dom : ∀ x ∈ (arrOf st).toList, D x
  size : (arrOf st).size = n
theorem SV.set {knd : SortKind} {D : Keyed → Prop} {n : Nat} {st : SortSt} (v : SV knd D n st) {xs : Array Keyed} (h : xs.Perm (arrOf st)) : SV knd D n (setArr st xs) :=
  ⟨v.kind, v.fail, fun x hx => v.dom x ((Array.perm_iff_toList_perm.mp h).mem_iff.mp hx), h.size_eq.trans v.size⟩
section
variable {M : Model} {Ar : Around} {E : Value → Shared → Prop} {s : Shared} {O : KeyOrd} {key : Keyed → O.α} {knd : SortKind} {D : Keyed → Prop} {n : Nat}
theorem wpS_ltI (hL : LtOk M Ar E s O key knd D) {st : SortSt} {i j : Nat} {Q : Option Bool → SortSt → Prop} (v : SV knd D n st) (hi : i < n) (hj : j < n) (h : Q (some (O.blt (kx key (arrOf st) i) (kx key (arrOf st) j))) st) : wpS M Ar E s (ltAt' i j) Q st := by
  obtain ⟨x, x1, _, x3⟩ := arr_at (a := arrOf st) (i := i) (by rw [v.size]; exact hi)
  obtain ⟨y, y1, _, y3⟩ := arr_at (a := arrOf st) (i := j) (by rw [v.size]; exact hj)
  rw [kx_at x1, kx_at y1] at h
  refine wpS_bind (wpS_get ?_)
  exact wpS_bind (wpS_elemS x1 (wpS_bind (wpS_elemS y1 (hL.lt (v.dom _ x3) (v.dom _ y3) v.kind h))))
theorem wpS_revI {st : SortSt} {i j : Nat} {Q : PUnit → SortSt → Prop} (h : Q ⟨⟩ (setArr st (mirror (arrOf st) i j ((j - i) / 2)))) : wpS M Ar E s (reverseSlice' i j) Q st := by
  rw [reverseSlice'_eq]
  exact wpS_modify h
theorem wpS_ifjp {σ α : Type} {c : Prop} [Decidable c] {m : StateT σ Sem PUnit} {jp : PUnit → StateT σ Sem α} {Q : α → σ → Prop} {st : σ} (P : σ → Prop) (h1 : c → wpS M Ar E s m (fun _ st' => P st') st) (h2 : ¬ c → P st) (h3 : ∀ st', P st' → wpS M Ar E s (jp ⟨⟩) Q st') : wpS M Ar E s (if c then m >>= jp else jp ⟨⟩) Q st := by
  by_cases z : c
  · rw [if_pos z]
    exact wpS_bind (wpS_mono (h1 z) fun _ st' p => h3 st' p)
  · rw [if_neg z]
    exact h3 st (h2 z)
theorem wpS_countI (hL : LtOk M Ar E s O key knd D) {st : SortSt} {lo nrem : Nat} {Q : Option Nat → SortSt → Prop} (v : SV knd D n st) (h1 : 1 ≤ nrem) (hn : lo + nrem ≤ n)
    (h : ∀ m st', SV knd D n st' → pendingOf st' = pendingOf st → PermIn (arrOf st) (arrOf st') lo (lo + nrem) → 1 ≤ m → m ≤ nrem → SrtI O key (arrOf st') lo (lo + m) → Q (some m) st') : wpS M Ar E s (countRun' lo nrem) Q st := by
  have asc : ∀ {xs : Array Keyed} {x : Nat}, 1 ≤ x → SrtI O key xs lo (lo + x) → O.blt (kx key xs (lo + x)) (kx key xs (lo + x - 1)) = false → SrtI O key xs lo (lo + (x + 1)) := fun {xs x} hx hs hb i j h2 h3 h4 => by
    by_cases z : j < lo + x
    · exact hs i j h2 h3 z
    · have hj : j = lo + x := by omega
      subst hj
      by_cases y : i = lo + x
      · subst y; exact KeyOrd.kle_refl _
      · exact KeyOrd.kle_trans (hs i (lo + x - 1) h2 (by omega) (by omega)) hb
  have one : ∀ xs : Array Keyed, SrtI O key xs lo (lo + 1) := fun xs i j h2 h3 h4 => by
    have : i = j := by omega
    subst this; exact KeyOrd.kle_refl _
  refine wpS_bind (wpS_mono (wpS_forRange (I := fun x c st' => st' = st ∧ c = (none, x) ∧ SrtI O key (arrOf st) lo (lo + x))
    (Q := fun c st' => st' = st ∧ ∃ m, c = (none, m) ∧ 1 ≤ m ∧ m ≤ nrem ∧ SrtI O key (arrOf st) lo (lo + m) ∧ (m = nrem ∨ O.blt (kx key (arrOf st) (lo + m)) (kx key (arrOf st) (lo + m - 1)) = true)) ?_ ?_ ⟨rfl, rfl, one _⟩) ?_)
  · rintro x c st' hx hxn ⟨rfl, rfl, hs⟩
    (try dsimp only)
    refine wpS_bind (wpS_ltI hL v (by omega) (by omega) ?_)
    cases w : O.blt (kx key (arrOf st') (lo + x)) (kx key (arrOf st') (lo + x - 1)) with
    | true =>
      (try dsimp only)
      rw [if_pos rfl]
      exact wpS_pure ⟨rfl, x, rfl, hx, by omega, hs, .inr w⟩
    | false =>
      (try dsimp only)
      rw [if_neg Bool.false_ne_true]
      exact wpS_pure ⟨rfl, rfl, asc hx hs w⟩
  · rintro c st' ⟨rfl, rfl, hs⟩
    rw [show max 1 nrem = nrem by omega] at hs ⊢
    exact ⟨rfl, nrem, rfl, h1, Nat.le_refl _, hs, .inl rfl⟩
  rintro c st' ⟨rfl, m, rfl, m1, m2, hs, hor⟩
  (try dsimp only)
  by_cases z : (m == nrem) = true
  · rw [if_pos z]
    exact wpS_pure (h m _ v rfl (PermIn.refl _ _ _) m1 m2 hs)
  rw [if_neg z]
  have z' : m < nrem := by
    have : ¬ m = nrem := by simpa using z
    omega
  have hlt := hor.resolve_left (by omega)
  by_cases y : m > 1
  · rw [if_pos y]
    refine wpS_bind (wpS_ltI hL v (by omega) (by omega) ?_)
    cases w : O.blt (kx key (arrOf st') lo) (kx key (arrOf st') (lo + m - 1)) with
    | true =>
      (try dsimp only)
      rw [if_pos rfl]
      exact wpS_pure (h m _ v rfl (PermIn.refl _ _ _) m1 m2 hs)
    | false =>
      (try dsimp only)
      rw [if_neg Bool.false_ne_true]
      refine wpS_bind (wpS_revI ?_)
      have hsz : lo + m ≤ (arrOf st').size := by rw [v.size]; omega
      have alle : ∀ k, lo ≤ k → k < lo + m → kx key (arrOf st') k = kx key (arrOf st') (lo + m - 1) := fun k k1 k2 => KeyOrd.kle_antisymm (hs k (lo + m - 1) k1 (by omega) (by omega)) (KeyOrd.kle_trans w (hs lo k (Nat.le_refl _) k1 k2))
      have v2 := v.set (mirror_perm (arrOf st') lo (lo + m) ((lo + m - lo) / 2))
      have pd2 : pendingOf (setArr st' (mirror (arrOf st') lo (lo + m) ((lo + m - lo) / 2))) = pendingOf st' := rfl
      have pm2 : PermIn (arrOf st') (arrOf (setArr st' (mirror (arrOf st') lo (lo + m) ((lo + m - lo) / 2)))) lo (lo + nrem) := (permIn_mirror hsz).wide (Nat.le_refl _) (by omega)
      have hd2 : DecI O key (arrOf (setArr st' (mirror (arrOf st') lo (lo + m) ((lo + m - lo) / 2)))) lo (lo + (m + 1)) := by
        intro i j k1 k2 k3
        show O.kle (kx key (mirror (arrOf st') lo (lo + m) ((lo + m - lo) / 2)) j) (kx key (mirror (arrOf st') lo (lo + m) ((lo + m - lo) / 2)) i)
        rw [kx_mirror_eq hsz alle, kx_mirror_eq hsz alle]
        by_cases q : j < lo + m
        · rw [alle i k1 (by omega), alle j (by omega) q]; exact KeyOrd.kle_refl _
        · have hj : j = lo + m := by omega
          subst hj
          by_cases q2 : i = lo + m
          · subst q2; exact KeyOrd.kle_refl _
          · rw [alle i k1 (by omega)]; exact KeyOrd.kle_of_klt hlt
      generalize setArr st' (mirror (arrOf st') lo (lo + m) ((lo + m - lo) / 2)) = st2 at v2 pd2 pm2 hd2
      refine wpS_bind (wpS_lift (wpAny_rule ⟨rfl, ?_⟩))
      refine wpS_bind (wpS_mono (wpS_forRange (I := fun x c st3 => SV knd D n st3 ∧ pendingOf st3 = pendingOf st' ∧ PermIn (arrOf st') (arrOf st3) lo (lo + nrem) ∧ ∃ q, c = (none, x, q) ∧ DecI O key (arrOf st3) lo (lo + x) ∧ q + 1 ≤ x ∧ ∀ i, lo + x - (q + 1) ≤ i → i < lo + x → kx key (arrOf st3) i = kx key (arrOf st3) (lo + x - 1))
        (Q := fun c st3 => SV knd D n st3 ∧ pendingOf st3 = pendingOf st' ∧ PermIn (arrOf st') (arrOf st3) lo (lo + nrem) ∧ ∃ x q, c = (none, x, q) ∧ 1 ≤ x ∧ x ≤ nrem ∧ DecI O key (arrOf st3) lo (lo + x) ∧ q + 1 ≤ x ∧ ∀ i, lo + x - (q + 1) ≤ i → i < lo + x → kx key (arrOf st3) i = kx key (arrOf st3) (lo + x - 1)) ?_ ?_
        ⟨v2, pd2, pm2, 0, rfl, hd2, by omega, fun i i1 i2 => by rw [show i = lo + (m + 1) - 1 by omega]⟩) ?_)
      · rintro x c st3 hx1 hx2 ⟨v3, pd3, pm3, q, rfl, hd3, hq, he⟩
        (try dsimp only)
        have hsz : lo + x ≤ (arrOf st3).size := by rw [v3.size]; omega
        refine wpS_bind (wpS_ltI hL v3 (by omega) (by omega) ?_)
        cases w3 : O.blt (kx key (arrOf st3) (lo + x)) (kx key (arrOf st3) (lo + x - 1)) with
        | true =>
          (try dsimp only)
          rw [if_pos rfl]
          have more : ∀ xs : Array Keyed, (∀ k, kx key xs k = kx key (arrOf st3) k) → DecI O key xs lo (lo + (x + 1)) := fun xs hk i j k1 k2 k3 => by
            rw [hk, hk]
            by_cases u : j < lo + x
            · exact hd3 i j k1 k2 u
            · have hj : j = lo + x := by omega
              subst hj
              by_cases u2 : i = lo + x
              · subst u2; exact KeyOrd.kle_refl _
              · exact KeyOrd.kle_trans (KeyOrd.kle_of_klt w3) (hd3 i (lo + x - 1) k1 (by omega) (by omega))
          by_cases u : q > 0
          · rw [if_pos u]
            refine wpS_bind (wpS_revI (wpS_pure ⟨v3.set (mirror_perm _ _ _ _), pd3, pm3.trans ((permIn_mirror hsz).wide (by omega) (by omega)), 0, rfl, more _ (kx_mirror_eq hsz fun k k1 k2 => he k (by omega) k2), by omega, fun i i1 i2 => by rw [show i = lo + (x + 1) - 1 by omega]⟩))
          · rw [if_neg u]
            exact wpS_pure ⟨v3, pd3, pm3, 0, rfl, more _ (fun _ => rfl), by omega, fun i i1 i2 => by rw [show i = lo + (x + 1) - 1 by omega]⟩
        | false =>
          (try dsimp only)
          rw [if_neg Bool.false_ne_true]
          refine wpS_bind (wpS_ltI hL v3 (by omega) (by omega) ?_)
          cases w4 : O.blt (kx key (arrOf st3) (lo + x - 1)) (kx key (arrOf st3) (lo + x)) with
          | true =>
            (try dsimp only)
            rw [if_pos rfl]
            exact wpS_pure ⟨v3, pd3, pm3, x, q, rfl, by omega, by omega, hd3, hq, he⟩
          | false =>
            (try dsimp only)
            rw [if_neg Bool.false_ne_true]
            have same : kx key (arrOf st3) (lo + x) = kx key (arrOf st3) (lo + x - 1) := KeyOrd.kle_antisymm w4 w3
            refine wpS_pure ⟨v3, pd3, pm3, q + 1, rfl, fun i j k1 k2 k3 => ?_, by omega, fun i i1 i2 => ?_⟩
            · by_cases u : j < lo + x
              · exact hd3 i j k1 k2 u
              · have hj : j = lo + x := by omega
                subst hj
                by_cases u2 : i = lo + x
                · subst u2; exact KeyOrd.kle_refl _
                · rw [same]; exact hd3 i (lo + x - 1) k1 (by omega) (by omega)
            · rw [show lo + (x + 1) - 1 = lo + x by omega]
              by_cases u : i = lo + x
              · rw [u]
              · rw [same]; exact he i (by omega) (by omega)
      · rintro c st3 ⟨v3, pd3, pm3, q, rfl, hd3, hq, he⟩
        rw [show max (m + 1) nrem = nrem by omega] at hd3 hq he ⊢
        exact ⟨v3, pd3, pm3, nrem, q, rfl, h1, Nat.le_refl _, hd3, hq, he⟩
      rintro c st3 ⟨v3, pd3, pm3, x, q, rfl, x1, x2, hd3, hq, he⟩
      (try dsimp only)
      have hsz : lo + x ≤ (arrOf st3).size := by rw [v3.size]; omega
      refine wpS_ifjp (P := fun st4 => SV knd D n st4 ∧ pendingOf st4 = pendingOf st' ∧ PermIn (arrOf st') (arrOf st4) lo (lo + nrem) ∧ DecI O key (arrOf st4) lo (lo + x)) (fun _ => ?_) (fun _ => ⟨v3, pd3, pm3, hd3⟩) ?_
      · refine wpS_revI ⟨v3.set (mirror_perm _ _ _ _), pd3, pm3.trans ((permIn_mirror hsz).wide (by omega) (by omega)), fun i j k1 k2 k3 => ?_⟩
        show O.kle (kx key (mirror (arrOf st3) _ _ _) j) (kx key (mirror (arrOf st3) _ _ _) i)
        rw [kx_mirror_eq hsz fun k k1 k2 => he k (by omega) k2, kx_mirror_eq hsz fun k k1 k2 => he k (by omega) k2]
        exact hd3 i j k1 k2 k3
      rintro st4 ⟨v4, pd4, pm4, hd4⟩
      have hsz4 : lo + x ≤ (arrOf st4).size := by rw [v4.size]; omega
      refine wpS_bind (wpS_revI ?_)
      have v5 := v4.set (mirror_perm (arrOf st4) lo (lo + x) ((lo + x - lo) / 2))
      have pd5 : pendingOf (setArr st4 (mirror (arrOf st4) lo (lo + x) ((lo + x - lo) / 2))) = pendingOf st' := pd4
      have pm5 : PermIn (arrOf st') (arrOf (setArr st4 (mirror (arrOf st4) lo (lo + x) ((lo + x - lo) / 2)))) lo (lo + nrem) := pm4.trans ((permIn_mirror hsz4).wide (Nat.le_refl _) (by omega))
      have hs5 : SrtI O key (arrOf (setArr st4 (mirror (arrOf st4) lo (lo + x) ((lo + x - lo) / 2)))) lo (lo + x) := by
        intro i j k1 k2 k3
        show O.kle (kx key (mirror (arrOf st4) lo (lo + x) ((lo + x - lo) / 2)) i) (kx key (mirror (arrOf st4) lo (lo + x) ((lo + x - lo) / 2)) j)
        rw [kx_mirror hsz4, kx_mirror hsz4, if_pos (by omega), if_pos (by omega)]
        exact hd4 _ _ (by omega) (by omega) (by omega)
      generalize setArr st4 (mirror (arrOf st4) lo (lo + x) ((lo + x - lo) / 2)) = st5 at v5 pd5 pm5 hs5
      refine wpS_bind (wpS_mono (wpS_forRange (I := fun y c st6 => st6 = st5 ∧ c = (none, y) ∧ SrtI O key (arrOf st5) lo (lo + y)) (Q := fun c st6 => st6 = st5 ∧ ∃ y, c = (none, y) ∧ 1 ≤ y ∧ y ≤ nrem ∧ SrtI O key (arrOf st5) lo (lo + y)) ?_ ?_ ⟨rfl, rfl, hs5⟩) ?_)
      · rintro y c st6 hy1 hy2 ⟨rfl, rfl, hs6⟩
        (try dsimp only)
        refine wpS_bind (wpS_ltI hL v5 (by omega) (by omega) ?_)
        cases w5 : O.blt (kx key (arrOf st6) (lo + y)) (kx key (arrOf st6) (lo + y - 1)) with
        | true =>
          (try dsimp only)
          rw [if_pos rfl]
          exact wpS_pure ⟨rfl, y, rfl, by omega, by omega, hs6⟩
        | false =>
          (try dsimp only)
          rw [if_neg Bool.false_ne_true]
          exact wpS_pure ⟨rfl, rfl, asc (by omega) hs6 w5⟩
      · rintro c st6 ⟨rfl, rfl, hs6⟩
        rw [show max x nrem = nrem by omega] at hs6 ⊢
        exact ⟨rfl, nrem, rfl, h1, Nat.le_refl _, hs6⟩
      rintro c st6 ⟨rfl, y, rfl, y1, y2, hs6⟩
      exact wpS_pure (h y _ v5 pd5 pm5 y1 y2 hs6)
  · rw [if_neg y]
    have v2 := v
    have pd2 : pendingOf st' = pendingOf st' := rfl
    have pm2 : PermIn (arrOf st') (arrOf st') lo (lo + nrem) := PermIn.refl _ _ _
    have hd2 : DecI O key (arrOf st') lo (lo + (m + 1)) := by
      intro i j k1 k2 k3
      by_cases q : i = j
      · subst q; exact KeyOrd.kle_refl _
      · have hi : i = lo := by omega
        have hj : j = lo + m := by omega
        subst hi hj
        have := hlt
        rw [show i + m - 1 = i by omega] at this
        exact KeyOrd.kle_of_klt this
    have key2 : ∀ st2, st2 = st' → SV knd D n st2 ∧ pendingOf st2 = pendingOf st' ∧ PermIn (arrOf st') (arrOf st2) lo (lo + nrem) ∧ DecI O key (arrOf st2) lo (lo + (m + 1)) := fun st2 e => by subst e; exact ⟨v2, pd2, pm2, hd2⟩
    clear v2 pd2 pm2 hd2
    refine (fun (G : ∀ st2, st2 = st' → wpS M Ar E s _ Q st2) => G st' rfl) fun st2 e2 => ?_
    obtain ⟨v2, pd2, pm2, hd2⟩ := key2 st2 e2
    clear key2 e2
    refine wpS_bind (wpS_lift (wpAny_rule ⟨rfl, ?_⟩))
    refine wpS_bind (wpS_mono (wpS_forRange (I := fun x c st3 => SV knd D n st3 ∧ pendingOf st3 = pendingOf st' ∧ PermIn (arrOf st') (arrOf st3) lo (lo + nrem) ∧ ∃ q, c = (none, x, q) ∧ DecI O key (arrOf st3) lo (lo + x) ∧ q + 1 ≤ x ∧ ∀ i, lo + x - (q + 1) ≤ i → i < lo + x → kx key (arrOf st3) i = kx key (arrOf st3) (lo + x - 1))
      (Q := fun c st3 => SV knd D n st3 ∧ pendingOf st3 = pendingOf st' ∧ PermIn (arrOf st') (arrOf st3) lo (lo + nrem) ∧ ∃ x q, c = (none, x, q) ∧ 1 ≤ x ∧ x ≤ nrem ∧ DecI O key (arrOf st3) lo (lo + x) ∧ q + 1 ≤ x ∧ ∀ i, lo + x - (q + 1) ≤ i → i < lo + x → kx key (arrOf st3) i = kx key (arrOf st3) (lo + x - 1)) ?_ ?_
      ⟨v2, pd2, pm2, 0, rfl, hd2, by omega, fun i i1 i2 => by rw [show i = lo + (m + 1) - 1 by omega]⟩) ?_)
    · rintro x c st3 hx1 hx2 ⟨v3, pd3, pm3, q, rfl, hd3, hq, he⟩
      (try dsimp only)
      have hsz : lo + x ≤ (arrOf st3).size := by rw [v3.size]; omega
      refine wpS_bind (wpS_ltI hL v3 (by omega) (by omega) ?_)
      cases w3 : O.blt (kx key (arrOf st3) (lo + x)) (kx key (arrOf st3) (lo + x - 1)) with
      | true =>
        (try dsimp only)
        rw [if_pos rfl]
        have more : ∀ xs : Array Keyed, (∀ k, kx key xs k = kx key (arrOf st3) k) → DecI O key xs lo (lo + (x + 1)) := fun xs hk i j k1 k2 k3 => by
          rw [hk, hk]
          by_cases u : j < lo + x
          · exact hd3 i j k1 k2 u
          · have hj : j = lo + x := by omega
            subst hj
            by_cases u2 : i = lo + x
            · subst u2; exact KeyOrd.kle_refl _
            · exact KeyOrd.kle_trans (KeyOrd.kle_of_klt w3) (hd3 i (lo + x - 1) k1 (by omega) (by omega))
        by_cases u : q > 0
        · rw [if_pos u]
          refine wpS_bind (wpS_revI (wpS_pure ⟨v3.set (mirror_perm _ _ _ _), pd3, pm3.trans ((permIn_mirror hsz).wide (by omega) (by omega)), 0, rfl, more _ (kx_mirror_eq hsz fun k k1 k2 => he k (by omega) k2), by omega, fun i i1 i2 => by rw [show i = lo + (x + 1) - 1 by omega]⟩))
        · rw [if_neg u]
          exact wpS_pure ⟨v3, pd3, pm3, 0, rfl, more _ (fun _ => rfl), by omega, fun i i1 i2 => by rw [show i = lo + (x + 1) - 1 by omega]⟩
      | false =>
        (try dsimp only)
        rw [if_neg Bool.false_ne_true]
        refine wpS_bind (wpS_ltI hL v3 (by omega) (by omega) ?_)
        cases w4 : O.blt (kx key (arrOf st3) (lo + x - 1)) (kx key (arrOf st3) (lo + x)) with
        | true =>
          (try dsimp only)
          rw [if_pos rfl]
          exact wpS_pure ⟨v3, pd3, pm3, x, q, rfl, by omega, by omega, hd3, hq, he⟩
        | false =>
          (try dsimp only)
          rw [if_neg Bool.false_ne_true]
          have same : kx key (arrOf st3) (lo + x) = kx key (arrOf st3) (lo + x - 1) := KeyOrd.kle_antisymm w4 w3
          refine wpS_pure ⟨v3, pd3, pm3, q + 1, rfl, fun i j k1 k2 k3 => ?_, by omega, fun i i1 i2 => ?_⟩
          · by_cases u : j < lo + x
            · exact hd3 i j k1 k2 u
            · have hj : j = lo + x := by omega
              subst hj
              by_cases u2 : i = lo + x
              · subst u2; exact KeyOrd.kle_refl _
              · rw [same]; exact hd3 i (lo + x - 1) k1 (by omega) (by omega)
          · rw [show lo + (x + 1) - 1 = lo + x by omega]
            by_cases u : i = lo + x
            · rw [u]
            · rw [same]; exact he i (by omega) (by omega)
    · rintro c st3 ⟨v3, pd3, pm3, q, rfl, hd3, hq, he⟩
      rw [show max (m + 1) nrem = nrem by omega] at hd3 hq he ⊢
      exact ⟨v3, pd3, pm3, nrem, q, rfl, h1, Nat.le_refl _, hd3, hq, he⟩
    rintro c st3 ⟨v3, pd3, pm3, x, q, rfl, x1, x2, hd3, hq, he⟩
    (try dsimp only)
    have hsz : lo + x ≤ (arrOf st3).size := by rw [v3.size]; omega
    refine wpS_ifjp (P := fun st4 => SV knd D n st4 ∧ pendingOf st4 = pendingOf st' ∧ PermIn (arrOf st') (arrOf st4) lo (lo + nrem) ∧ DecI O key (arrOf st4) lo (lo + x)) (fun _ => ?_) (fun _ => ⟨v3, pd3, pm3, hd3⟩) ?_
    · refine wpS_revI ⟨v3.set (mirror_perm _ _ _ _), pd3, pm3.trans ((permIn_mirror hsz).wide (by omega) (by omega)), fun i j k1 k2 k3 => ?_⟩
      show O.kle (kx key (mirror (arrOf st3) _ _ _) j) (kx key (mirror (arrOf st3) _ _ _) i)
      rw [kx_mirror_eq hsz fun k k1 k2 => he k (by omega) k2, kx_mirror_eq hsz fun k k1 k2 => he k (by omega) k2]
      exact hd3 i j k1 k2 k3
    rintro st4 ⟨v4, pd4, pm4, hd4⟩
    have hsz4 : lo + x ≤ (arrOf st4).size := by rw [v4.size]; omega
    refine wpS_bind (wpS_revI ?_)
    have v5 := v4.set (mirror_perm (arrOf st4) lo (lo + x) ((lo + x - lo) / 2))
    have pd5 : pendingOf (setArr st4 (mirror (arrOf st4) lo (lo + x) ((lo + x - lo) / 2))) = pendingOf st' := pd4
    have pm5 : PermIn (arrOf st') (arrOf (setArr st4 (mirror (arrOf st4) lo (lo + x) ((lo + x - lo) / 2)))) lo (lo + nrem) := pm4.trans ((permIn_mirror hsz4).wide (Nat.le_refl _) (by omega))
    have hs5 : SrtI O key (arrOf (setArr st4 (mirror (arrOf st4) lo (lo + x) ((lo + x - lo) / 2)))) lo (lo + x) := by
      intro i j k1 k2 k3
      show O.kle (kx key (mirror (arrOf st4) lo (lo + x) ((lo + x - lo) / 2)) i) (kx key (mirror (arrOf st4) lo (lo + x) ((lo + x - lo) / 2)) j)
      rw [kx_mirror hsz4, kx_mirror hsz4, if_pos (by omega), if_pos (by omega)]
      exact hd4 _ _ (by omega) (by omega) (by omega)
    generalize setArr st4 (mirror (arrOf st4) lo (lo + x) ((lo + x - lo) / 2)) = st5 at v5 pd5 pm5 hs5
    refine wpS_bind (wpS_mono (wpS_forRange (I := fun y c st6 => st6 = st5 ∧ c = (none, y) ∧ SrtI O key (arrOf st5) lo (lo + y)) (Q := fun c st6 => st6 = st5 ∧ ∃ y, c = (none, y) ∧ 1 ≤ y ∧ y ≤ nrem ∧ SrtI O key (arrOf st5) lo (lo + y)) ?_ ?_ ⟨rfl, rfl, hs5⟩) ?_)
    · rintro y c st6 hy1 hy2 ⟨rfl, rfl, hs6⟩
      (try dsimp only)
      refine wpS_bind (wpS_ltI hL v5 (by omega) (by omega) ?_)
      cases w5 : O.blt (kx key (arrOf st6) (lo + y)) (kx key (arrOf st6) (lo + y - 1)) with
      | true =>
        (try dsimp only)
        rw [if_pos rfl]
        exact wpS_pure ⟨rfl, y, rfl, by omega, by omega, hs6⟩
      | false =>
        (try dsimp only)
        rw [if_neg Bool.false_ne_true]
        exact wpS_pure ⟨rfl, rfl, asc (by omega) hs6 w5⟩
    · rintro c st6 ⟨rfl, rfl, hs6⟩
      rw [show max x nrem = nrem by omega] at hs6 ⊢
      exact ⟨rfl, nrem, rfl, h1, Nat.le_refl _, hs6⟩
    rintro c st6 ⟨rfl, y, rfl, y1, y2, hs6⟩
    exact wpS_pure (h y _ v5 pd5 pm5 y1 y2 hs6)
theorem wpS_binI (hL : LtOk M Ar E s O key knd D) {st : SortSt} {lo m ok : Nat} {Q : Bool → SortSt → Prop} (v : SV knd D n st) (hm : lo + m ≤ n) (hok : ok ≤ m) (hs : SrtI O key (arrOf st) lo (lo + ok))
    (h : ∀ st', SV knd D n st' → pendingOf st' = pendingOf st → PermIn (arrOf st) (arrOf st') lo (lo + m) → SrtI O key (arrOf st') lo (lo + m) → Q true st') : wpS M Ar E s (binarySort' lo m ok) Q st := by
  refine wpS_bind (wpS_mono (wpS_forRange (I := fun k c st' => c = (none, ()) ∧ SV knd D n st' ∧ pendingOf st' = pendingOf st ∧ PermIn (arrOf st) (arrOf st') lo (lo + m) ∧ SrtI O key (arrOf st') lo (lo + min k m))
    (Q := fun c st' => c = (none, ()) ∧ SV knd D n st' ∧ pendingOf st' = pendingOf st ∧ PermIn (arrOf st) (arrOf st') lo (lo + m) ∧ SrtI O key (arrOf st') lo (lo + m)) ?_ ?_ ⟨rfl, v, rfl, PermIn.refl _ _ _, ?_⟩) ?_)
  · rintro k c st' hk1 hk2 ⟨rfl, v', pd, pm, hs'⟩
    rw [show min k m = k by omega] at hs'
    (try dsimp only)
    refine wpS_bind (wpS_mono (wpS_forRange (I := fun x c st2 => st2 = st' ∧ ∃ l r, c = (none, l, r) ∧ l ≤ r ∧ r ≤ k ∧ r - l ≤ k - x ∧ (∀ i, i < l → O.kle (kx key (arrOf st') (lo + i)) (kx key (arrOf st') (lo + k))) ∧ (∀ i, r ≤ i → i < k → O.klt (kx key (arrOf st') (lo + k)) (kx key (arrOf st') (lo + i))))
      (Q := fun c st2 => st2 = st' ∧ ∃ l, c = (none, l, l) ∧ l ≤ k ∧ (∀ i, i < l → O.kle (kx key (arrOf st') (lo + i)) (kx key (arrOf st') (lo + k))) ∧ (∀ i, l ≤ i → i < k → O.klt (kx key (arrOf st') (lo + k)) (kx key (arrOf st') (lo + i)))) ?_ ?_ ⟨rfl, 0, k, rfl, by omega, by omega, by omega, fun i hi => by omega, fun i _ _ => by omega⟩) ?_)
    · rintro x c st2 _ hx ⟨rfl, l, r, rfl, g1, g2, g3, g4, g5⟩
      (try dsimp only)
      by_cases z : l ≥ r
      · rw [if_pos z]
        have : r = l := by omega
        subst this
        exact wpS_pure ⟨rfl, r, rfl, g2, g4, g5⟩
      · rw [if_neg z]
        refine wpS_bind (wpS_ltI hL v' (by omega) (by omega) ?_)
        cases w : O.blt (kx key (arrOf st2) (lo + k)) (kx key (arrOf st2) (lo + (l + r) / 2)) with
        | true =>
          (try dsimp only)
          rw [if_pos rfl]
          exact wpS_pure ⟨rfl, l, (l + r) / 2, rfl, by omega, by omega, by omega, g4, fun i q1 q2 => KeyOrd.klt_of_klt_of_kle w (hs' _ _ (by omega) (by omega) (by omega))⟩
        | false =>
          (try dsimp only)
          rw [if_neg Bool.false_ne_true]
          exact wpS_pure ⟨rfl, (l + r) / 2 + 1, r, rfl, by omega, by omega, by omega, fun i q1 => KeyOrd.kle_trans (hs' (lo + i) (lo + (l + r) / 2) (by omega) (by omega) (by omega)) w, g5⟩
    · rintro c st2 ⟨rfl, l, r, rfl, g1, g2, g3, g4, g5⟩
      have : r = l := by omega
      subst this
      exact ⟨rfl, r, rfl, g2, g4, g5⟩
    · rintro c st2 ⟨rfl, l, rfl, g1, g4, g5⟩
      (try dsimp only)
      have hks : lo + k < (arrOf st2).size := by rw [v'.size]; omega
      have mv : wpS M Ar E s (moveDown' (lo + k) (lo + l)) (fun _ st3 => st3 = setArr st2 (bubble (arrOf st2) (lo + k) (lo + k - (lo + l)))) st2 := by
        rw [moveDown'_eq]
        exact wpS_modify rfl
      refine wpS_bind (wpS_mono mv fun _ st3 e3 => ?_)
      subst e3
      refine wpS_pure ⟨rfl, v'.set (bubble_perm _ _ _), pd, pm.trans ((permIn_bubble hks (by omega)).wide (by omega) (by omega)), ?_⟩
      rw [show min (k + 1) m = k + 1 by omega]
      intro i j q1 q2 q3
      show O.kle (kx key (bubble (arrOf st2) (lo + k) (lo + k - (lo + l))) i) (kx key (bubble (arrOf st2) (lo + k) (lo + k - (lo + l))) j)
      rw [kx_bubble hks (by omega), kx_bubble hks (by omega), show lo + k - (lo + k - (lo + l)) = lo + l by omega]
      have f4 : ∀ i, lo ≤ i → i < lo + l → O.kle (kx key (arrOf st2) i) (kx key (arrOf st2) (lo + k)) := fun i a1 a2 => by
        have := g4 (i - lo) (by omega)
        rw [show lo + (i - lo) = i by omega] at this
        exact this
      have f5 : ∀ i, lo + l ≤ i → i < lo + k → O.kle (kx key (arrOf st2) (lo + k)) (kx key (arrOf st2) i) := fun i a1 a2 => by
        have := g5 (i - lo) (by omega) (by omega)
        rw [show lo + (i - lo) = i by omega] at this
        exact KeyOrd.kle_of_klt this
      by_cases c1 : i = lo + l
      · rw [if_pos c1]
        by_cases c2 : j = lo + l
        · rw [if_pos c2]; exact KeyOrd.kle_refl _
        · rw [if_neg c2, if_pos (by omega)]; exact f5 (j - 1) (by omega) (by omega)
      · rw [if_neg c1]
        by_cases c2 : j = lo + l
        · rw [if_pos c2, if_neg (by omega)]; exact f4 i q1 (by omega)
        · rw [if_neg c2]
          by_cases c3 : lo + l < i ∧ i ≤ lo + k
          · rw [if_pos c3, if_pos (by omega)]; exact hs' _ _ (by omega) (by omega) (by omega)
          · rw [if_neg c3]
            by_cases c4 : lo + l < j ∧ j ≤ lo + k
            · rw [if_pos c4]; exact hs' _ _ (by omega) (by omega) (by omega)
            · rw [if_neg c4]; exact hs' _ _ (by omega) (by omega) (by omega)
  · rintro c st' ⟨hc, v', pd, pm, hs'⟩
    rw [show min (max (max ok 1) m) m = m by omega] at hs'
    exact ⟨hc, v', pd, pm, hs'⟩
  · intro i j q1 q2 q3
    by_cases z : ok = 0
    · have : i = j := by omega
      subst this; exact KeyOrd.kle_refl _
    · exact hs i j q1 q2 (by omega)
  · rintro c st' ⟨rfl, v', pd, pm, hs'⟩
    exact wpS_pure (h _ v' pd pm hs')
end
end L2
namespace L2
open PySem PyProof.Rows
/-! ### two runs beside each other become one -/
theorem wpS_setS {M : Model} {Ar : Around} {E : Value → Shared → Prop} {s : Shared} {σ : Type} {st st' : σ} {Q : PUnit → σ → Prop} (h : Q ⟨⟩ st') : wpS M Ar E s (set st' : StateT σ Sem PUnit) Q st := by
  unfold wpS
  rw [StateT.run_set]
  exact wpAny_pure ⟨rfl, h⟩
theorem wb_get {f : Array Keyed → Keyed × Nat → Array Keyed} {base : Nat} (hf : ∀ a p j, f a (p, j) = a.setIfInBounds (base + j) p) : ∀ (l : List Keyed) (i0 : Nat) (xs : Array Keyed) (q : Nat), base + i0 + l.length ≤ xs.size → (List.foldl f xs (l.zipIdx i0))[q]? = if base + i0 ≤ q ∧ q < base + i0 + l.length then l[q - (base + i0)]? else xs[q]?
  | [], i0, xs, q, _ => by
    rw [if_neg (by simp)]; rfl
  | p :: l, i0, xs, q, h => by
    rw [List.length_cons] at h ⊢
    rw [List.zipIdx_cons, List.foldl_cons, wb_get hf l (i0 + 1) _ q (by rw [hf, Array.size_setIfInBounds]; omega), hf, Array.getElem?_setIfInBounds]
    by_cases z : q = base + i0
    · subst z
      rw [if_neg (by omega), if_pos (by omega), Nat.sub_self]
      simp; omega
    · by_cases y : base + (i0 + 1) ≤ q ∧ q < base + (i0 + 1) + l.length
      · rw [if_pos y, if_pos (by omega), show q - (base + i0) = q - (base + (i0 + 1)) + 1 by omega, List.getElem?_cons_succ]
      · rw [if_neg y, if_neg (by omega), if_neg (by omega)]
theorem wb_list {f : Array Keyed → Keyed × Nat → Array Keyed} {base : Nat} (hf : ∀ a p j, f a (p, j) = a.setIfInBounds (base + j) p) (l : List Keyed) (xs : Array Keyed) (h : base + l.length ≤ xs.size) : (List.foldl f xs l.zipIdx).toList = xs.toList.take base ++ l ++ xs.toList.drop (base + l.length) := by
  apply List.ext_getElem?
  intro q
  rw [Array.getElem?_toList, wb_get hf l 0 xs q (by omega), Nat.add_zero]
  have lx : xs.toList.length = xs.size := Array.length_toList
  by_cases z : q < base
  · rw [if_neg (by omega), List.getElem?_append_left (by rw [List.length_append, List.length_take]; omega), List.getElem?_append_left (by rw [List.length_take]; omega), List.getElem?_take_of_lt z, Array.getElem?_toList]
  · by_cases y : q < base + l.length
    · rw [if_pos ⟨by omega, y⟩, List.getElem?_append_left (by rw [List.length_append, List.length_take]; omega), List.getElem?_append_right (by rw [List.length_take]; omega), List.length_take, Nat.min_eq_left (by omega)]
    · rw [if_neg (by omega), List.getElem?_append_right (by rw [List.length_append, List.length_take]; omega), List.getElem?_drop, List.length_append, List.length_take, Nat.min_eq_left (by omega), show base + l.length + (q - (base + l.length)) = q by omega, Array.getElem?_toList]
section
variable {M : Model} {Ar : Around} {E : Value → Shared → Prop} {s : Shared} {O : KeyOrd} {key : Keyed → O.α} {knd : SortKind} {D : Keyed → Prop} {n : Nat}
theorem wpS_gRs (hL : LtOk M Ar E s O key knd D) {kk : Keyed} {arr : Array Keyed} {base m hint : Nat} {st : SortSt} {Q : Option Nat → SortSt → Prop} (hk : kindOf st = knd) (srt : SrtI O key arr base (base + m)) (dA : ∀ x ∈ arr.toList, D x) (dk : D kk) (hn : base + m ≤ arr.size) (hh : hint < m)
    (h : ∀ k, k ≤ m → (∀ j, j < k → O.kle (kx key arr (base + j)) (key kk)) → (∀ j, k ≤ j → j < m → O.klt (key kk) (kx key arr (base + j))) → Q (some k) st) : wpS M Ar E s (gallopS false kk arr base m hint) Q st := by
  refine wpS_gallopS hL hk (fun i hi => ?_) dk hh (fun i => !O.blt (key kk) (kx key arr (base + i))) (fun i x hi hx => by rw [kx_at hx]; rfl) (fun i j hij hj hB => ?_) fun k k1 k2 k3 => ?_
  · obtain ⟨x, p1, _, p3⟩ := arr_at (a := arr) (i := base + i) (by omega)
    exact ⟨x, p1, dA _ p3⟩
  · have t1 := srt (base + i) (base + j) (by omega) (by omega) (by omega)
    have t2 : O.kle (kx key arr (base + j)) (key kk) := by
      show O.blt _ _ = false
      simpa using hB
    have t3 := KeyOrd.kle_trans t1 t2
    show (!O.blt (key kk) (kx key arr (base + i))) = true
    rw [t3]; rfl
  · refine h k k1 (fun j hj => ?_) fun j hj hj2 => ?_
    · have := k2 j hj
      show O.blt _ _ = false
      simpa using this
    · have := k3 j hj hj2
      show O.blt _ _ = true
      simpa using this
theorem wpS_gLs (hL : LtOk M Ar E s O key knd D) {kk : Keyed} {arr : Array Keyed} {base m hint : Nat} {st : SortSt} {Q : Option Nat → SortSt → Prop} (hk : kindOf st = knd) (srt : SrtI O key arr base (base + m)) (dA : ∀ x ∈ arr.toList, D x) (dk : D kk) (hn : base + m ≤ arr.size) (hh : hint < m)
    (h : ∀ k, k ≤ m → (∀ j, j < k → O.klt (kx key arr (base + j)) (key kk)) → (∀ j, k ≤ j → j < m → O.kle (key kk) (kx key arr (base + j))) → Q (some k) st) : wpS M Ar E s (gallopS true kk arr base m hint) Q st := by
  refine wpS_gallopS hL hk (fun i hi => ?_) dk hh (fun i => O.blt (kx key arr (base + i)) (key kk)) (fun i x hi hx => by rw [kx_at hx]; rfl) (fun i j hij hj hB => ?_) fun k k1 k2 k3 => ?_
  · obtain ⟨x, p1, _, p3⟩ := arr_at (a := arr) (i := base + i) (by omega)
    exact ⟨x, p1, dA _ p3⟩
  · exact KeyOrd.klt_of_kle_of_klt (srt (base + i) (base + j) (by omega) (by omega) (by omega)) hB
  · exact h k k1 k2 k3
theorem seg_at {xs : Array Keyed} {lo m j : Nat} {x : Keyed} (h : ((xs.toList.drop lo).take m)[j]? = some x) : j < m ∧ xs[lo + j]? = some x := by
  have hl := (List.getElem?_eq_some_iff.mp h).1
  rw [List.length_take] at hl
  rw [List.getElem?_take_of_lt (by omega), List.getElem?_drop, Array.getElem?_toList] at h
  exact ⟨by omega, h⟩
theorem seg_srt {xs : Array Keyed} {lo m : Nat} (h : SrtI O key xs lo (lo + m)) : ((xs.toList.drop lo).take m).Pairwise (leK O key) := by
  refine List.pairwise_iff_getElem.mpr fun i j hi hj hij => ?_
  obtain ⟨i1, i2⟩ := seg_at (List.getElem?_eq_getElem hi)
  obtain ⟨j1, j2⟩ := seg_at (List.getElem?_eq_getElem hj)
  have := h (lo + i) (lo + j) (by omega) (by omega) (by omega)
  rw [kx_at i2, kx_at j2] at this
  exact this
theorem ext_list {xs : Array Keyed} {lo hi : Nat} : (xs.extract lo hi).toList = (xs.toList.drop lo).take (hi - lo) := by
  rw [Array.toList_extract, List.extract_eq_take_drop]
theorem wpS_mergeAtI (hL : LtOk M Ar E s O key knd D) {st : SortSt} {i sa na w sb nb w' : Nat} {Q : Bool → SortSt → Prop} (v : SV knd D n st) (h1 : (pendingOf st)[i]? = some (sa, na, w)) (h2 : (pendingOf st)[i + 1]? = some (sb, nb, w')) (hc : sb = sa + na) (a1 : 1 ≤ na) (b1 : 1 ≤ nb) (hn : sb + nb ≤ n)
    (sA : SrtI O key (arrOf st) sa (sa + na)) (sB : SrtI O key (arrOf st) sb (sb + nb))
    (h : ∀ st', SV knd D n st' → pendingOf st' = ((pendingOf st).setIfInBounds i (sa, na + nb, w)).eraseIdxIfInBounds (i + 1) → PermIn (arrOf st) (arrOf st') sa (sb + nb) → SrtI O key (arrOf st') sa (sb + nb) → Q true st') : wpS M Ar E s (mergeAt' i) Q st := by
  refine wpS_bind (wpS_get ?_)
  have e1 : (((pendingOf st)[i]?, (pendingOf st)[i + 1]?) : Option (Nat × Nat × Nat) × Option (Nat × Nat × Nat)) = (some (sa, na, w), some (sb, nb, w')) := by rw [h1, h2]
  rw [e1]
  (try dsimp only)
  refine wpS_bind (wpS_setS ?_)
  have v1 : SV knd D n (setPending st (((pendingOf st).setIfInBounds i (sa, na + nb, w)).eraseIdxIfInBounds (i + 1))) := ⟨v.kind, v.fail, v.dom, v.size⟩
  have pd1 : pendingOf (setPending st (((pendingOf st).setIfInBounds i (sa, na + nb, w)).eraseIdxIfInBounds (i + 1))) = ((pendingOf st).setIfInBounds i (sa, na + nb, w)).eraseIdxIfInBounds (i + 1) := rfl
  have ar1 : arrOf (setPending st (((pendingOf st).setIfInBounds i (sa, na + nb, w)).eraseIdxIfInBounds (i + 1))) = arrOf st := rfl
  show wpS M Ar E s _ Q (setPending st (((pendingOf st).setIfInBounds i (sa, na + nb, w)).eraseIdxIfInBounds (i + 1)))
  generalize setPending st (((pendingOf st).setIfInBounds i (sa, na + nb, w)).eraseIdxIfInBounds (i + 1)) = st1 at v1 pd1 ar1
  have hsz : (arrOf st).size = n := v.size
  obtain ⟨b0, q1, q2, q3⟩ := arr_at (a := arrOf st) (i := sb) (by omega)
  refine wpS_bind (wpS_elemS q1 (wpS_bind (wpS_gRs hL v1.kind sA v.dom (v.dom _ q3) (by show sa + na ≤ (arrOf st).size; omega) (by omega) fun k k1 k2 k3 => ?_)))
  (try dsimp only)
  by_cases z : (na - k == 0) = true
  · rw [if_pos z]
    have z' : k = na := by
      have : na - k = 0 := by simpa using z
      omega
    subst z'
    refine wpS_pure (h _ v1 pd1 (by rw [ar1]; exact PermIn.refl _ _ _) ?_)
    rw [ar1]
    intro p r p1 p2 p3
    by_cases c1 : r < sb
    · exact sA p r p1 p2 (by omega)
    · by_cases c2 : p < sb
      · have := k2 (p - sa) (by omega)
        rw [show sa + (p - sa) = p by omega, ← kx_at (key := key) q1] at this
        exact KeyOrd.kle_trans this (sB sb r (by omega) (by omega) p3)
      · exact sB p r (by omega) p2 p3
  rw [if_neg z]
  have z' : k < na := by
    have : ¬ na - k = 0 := by simpa using z
    omega
  obtain ⟨al, r1, r2, r3⟩ := arr_at (a := arrOf st) (i := sa + k + (na - k) - 1) (by omega)
  have el : sa + k + (na - k) - 1 = sb - 1 := by omega
  refine wpS_bind (wpS_elemS r1 (wpS_bind (wpS_gLs hL v1.kind sB v.dom (v.dom _ r3) (by show sb + nb ≤ (arrOf st).size; omega) (by omega) fun m m1 m2 m3 => ?_)))
  rw [el] at r1 r2
  (try dsimp only)
  by_cases y : (m == 0) = true
  · rw [if_pos y]
    have y' : m = 0 := by simpa using y
    subst y'
    refine wpS_pure (h _ v1 pd1 (by rw [ar1]; exact PermIn.refl _ _ _) ?_)
    rw [ar1]
    intro p r p1 p2 p3
    by_cases c1 : r < sb
    · exact sA p r p1 p2 (by omega)
    · by_cases c2 : p < sb
      · have := m3 (r - sb) (by omega) (by omega)
        rw [show sb + (r - sb) = r by omega, ← kx_at (key := key) r1] at this
        exact KeyOrd.kle_trans (sA p (sb - 1) p1 (by omega) (by omega)) this
      · exact sB p r (by omega) p2 p3
  rw [if_neg y]
  have y' : 1 ≤ m := by
    have : ¬ m = 0 := by simpa using y
    omega
  have lx : ((arrOf st).extract (sa + k) sb).toList = ((arrOf st).toList.drop (sa + k)).take (na - k) := by rw [ext_list, show sb - (sa + k) = na - k by omega]
  have ly : ((arrOf st).extract sb (sb + m)).toList = ((arrOf st).toList.drop sb).take m := by rw [ext_list, show sb + m - sb = m by omega]
  have szx : ((arrOf st).extract (sa + k) sb).size = na - k := by rw [Array.size_extract]; omega
  have szy : ((arrOf st).extract sb (sb + m)).size = m := by rw [Array.size_extract]; omega
  have dX : ∀ x ∈ ((arrOf st).extract (sa + k) sb).toList, D x := fun x hx => by
    rw [lx] at hx; exact v.dom x (List.mem_of_mem_drop (List.mem_of_mem_take hx))
  have dY : ∀ x ∈ ((arrOf st).extract sb (sb + m)).toList, D x := fun x hx => by
    rw [ly] at hx; exact v.dom x (List.mem_of_mem_drop (List.mem_of_mem_take hx))
  have sX : ((arrOf st).extract (sa + k) sb).toList.Pairwise (leK O key) := by
    rw [lx]; exact seg_srt fun p r p1 p2 p3 => sA p r (by omega) p2 (by omega)
  have sY : ((arrOf st).extract sb (sb + m)).toList.Pairwise (leK O key) := by
    rw [ly]; exact seg_srt fun p r p1 p2 p3 => sB p r p1 p2 (by omega)
  have hb : ∀ t, ((arrOf st).extract sb (sb + m)).toList[0]? = some t → ∀ x ∈ ((arrOf st).extract (sa + k) sb).toList, leK O key t x := fun t ht x hx => by
    rw [ly] at ht
    rw [lx] at hx
    obtain ⟨_, t2⟩ := seg_at ht
    obtain ⟨j, hj⟩ := List.getElem?_of_mem hx
    obtain ⟨j1, j2⟩ := seg_at hj
    rw [Nat.add_zero, q1] at t2
    cases t2
    have := k3 (k + j) (by omega) (by omega)
    rw [← Nat.add_assoc, kx_at j2] at this
    exact leK_of this
  have ha : ∀ t, ((arrOf st).extract (sa + k) sb).toList[((arrOf st).extract (sa + k) sb).size - 1]? = some t → ∀ x ∈ ((arrOf st).extract sb (sb + m)).toList, leK O key x t := fun t ht x hx => by
    rw [lx, szx] at ht
    rw [ly] at hx
    obtain ⟨_, t2⟩ := seg_at ht
    obtain ⟨j, hj⟩ := List.getElem?_of_mem hx
    obtain ⟨j1, j2⟩ := seg_at hj
    rw [show sa + k + (na - k - 1) = sb - 1 by omega, r1] at t2
    cases t2
    have := m2 j j1
    rw [kx_at j2] at this
    exact leK_of this
  -- what is written back
  have fin : ∀ (r : Array Keyed) (st2 : SortSt), SameG st1 st2 → Res O key ((arrOf st).extract (sa + k) sb).toList ((arrOf st).extract sb (sb + m)).toList r.toList → ∀ (f : Array Keyed → Keyed × Nat → Array Keyed), (∀ a p j, f a (p, j) = a.setIfInBounds (sa + k + j) p) →
      SV knd D n (setArr st2 (List.foldl f (arrOf st2) r.toList.zipIdx)) ∧ pendingOf (setArr st2 (List.foldl f (arrOf st2) r.toList.zipIdx)) = ((pendingOf st).setIfInBounds i (sa, na + nb, w)).eraseIdxIfInBounds (i + 1) ∧ PermIn (arrOf st) (List.foldl f (arrOf st2) r.toList.zipIdx) sa (sb + nb) ∧ SrtI O key (List.foldl f (arrOf st2) r.toList.zipIdx) sa (sb + nb) := fun r st2 g res f hf => by
    obtain ⟨g1, g2, g3, g4⟩ := g
    rw [ar1] at g2
    rw [g2]
    rw [lx, ly] at res
    obtain ⟨rp, rs⟩ := res
    have seg : ((arrOf st).toList.drop (sa + k)).take (na - k) ++ ((arrOf st).toList.drop sb).take m = ((arrOf st).toList.drop (sa + k)).take (na - k + m) := by
      rw [List.take_add, List.drop_drop, show sa + k + (na - k) = sb by omega]
    have lL : (arrOf st).toList.length = n := by rw [Array.length_toList]; exact hsz
    have len : r.toList.length = na - k + m := by
      rw [rp.length_eq, seg, List.length_take, List.length_drop]; omega
    have wl := wb_list hf r.toList (arrOf st) (by omega)
    have gt := fun q => wb_get hf r.toList 0 (arrOf st) q (by omega)
    rw [len] at wl gt
    generalize List.foldl f (arrOf st) r.toList.zipIdx = ys at wl gt
    have perm : ys.Perm (arrOf st) := by
      refine Array.perm_iff_toList_perm.mpr ?_
      rw [wl]
      have sp : (arrOf st).toList = (arrOf st).toList.take (sa + k) ++ ((arrOf st).toList.drop (sa + k)).take (na - k + m) ++ (arrOf st).toList.drop (sa + k + (na - k + m)) := by
        have dd : (arrOf st).toList.drop (sa + k + (na - k + m)) = ((arrOf st).toList.drop (sa + k)).drop (na - k + m) := by rw [List.drop_drop]
        rw [dd, List.append_assoc, List.take_append_drop, List.take_append_drop]
      conv => rhs; rw [sp]
      refine List.Perm.append_right _ (List.Perm.append_left _ ?_)
      rw [← seg]; exact rp
    refine ⟨(show SV knd D n (setArr st2 ys) from ⟨g1.trans v1.kind, g4.trans v1.fail, fun x hx => v.dom x ((Array.perm_iff_toList_perm.mp perm).mem_iff.mp hx), perm.size_eq.trans hsz⟩), g3.trans pd1, ⟨perm, fun q hq => by rw [gt, if_neg (by omega)]⟩, ?_⟩
    -- what a place holds
    have ins : ∀ q, sa + k ≤ q → q < sb + m → ∃ x, ys[q]? = some x ∧ x ∈ r.toList := fun q u1 u2 => by
      have := gt q
      rw [if_pos (by omega)] at this
      have hq : q - (sa + k + 0) < r.toList.length := by omega
      exact ⟨r.toList[q - (sa + k + 0)], by rw [this]; exact List.getElem?_eq_getElem hq, List.getElem_mem hq⟩
    have out : ∀ q, q < sa + k ∨ sb + m ≤ q → kx key ys q = kx key (arrOf st) q := fun q hq => kx_congr (by rw [gt, if_neg (by omega)])
    have mem : ∀ x ∈ r.toList, (∃ j, sa + k ≤ j ∧ j < sb ∧ (arrOf st)[j]? = some x) ∨ (∃ j, sb ≤ j ∧ j < sb + m ∧ (arrOf st)[j]? = some x) := fun x hx => by
      rcases List.mem_append.mp (rp.mem_iff.mp hx) with u | u
      · obtain ⟨j, hj⟩ := List.getElem?_of_mem u
        obtain ⟨j1, j2⟩ := seg_at hj
        exact .inl ⟨sa + k + j, by omega, by omega, j2⟩
      · obtain ⟨j, hj⟩ := List.getElem?_of_mem u
        obtain ⟨j1, j2⟩ := seg_at hj
        exact .inr ⟨sb + j, by omega, by omega, j2⟩
    have lowB : ∀ p, sa ≤ p → p < sa + k → O.kle (kx key (arrOf st) p) (kx key (arrOf st) sb) := fun p u1 u2 => by
      have := k2 (p - sa) (by omega)
      rw [show sa + (p - sa) = p by omega, ← kx_at (key := key) q1] at this
      exact this
    have highA : ∀ q, sb + m ≤ q → q < sb + nb → O.kle (kx key (arrOf st) (sb - 1)) (kx key (arrOf st) q) := fun q u1 u2 => by
      have := m3 (q - sb) (by omega) (by omega)
      rw [show sb + (q - sb) = q by omega, ← kx_at (key := key) r1] at this
      exact this
    intro p q p1 p2 p3
    by_cases c1 : p < sa + k
    · rw [out p (.inl c1)]
      by_cases c2 : q < sa + k
      · rw [out q (.inl c2)]; exact sA p q p1 p2 (by omega)
      · by_cases c3 : q < sb + m
        · obtain ⟨x, x1, x2⟩ := ins q (by omega) c3
          rw [kx_at x1]
          rcases mem x x2 with ⟨j, j1, j2, j3⟩ | ⟨j, j1, j2, j3⟩
          · rw [← kx_at (key := key) j3]; exact sA p j p1 (by omega) (by omega)
          · rw [← kx_at (key := key) j3]; exact KeyOrd.kle_trans (lowB p p1 c1) (sB sb j (Nat.le_refl _) j1 (by omega))
        · rw [out q (.inr (by omega))]
          exact KeyOrd.kle_trans (lowB p p1 c1) (sB sb q (Nat.le_refl _) (by omega) p3)
    · by_cases c3 : p < sb + m
      · obtain ⟨x, x1, x2⟩ := ins p (by omega) c3
        by_cases c4 : q < sb + m
        · have e1 := gt p
          have e2 := gt q
          rw [if_pos (by omega)] at e1 e2
          have hp : p - (sa + k + 0) < r.toList.length := by omega
          have hq : q - (sa + k + 0) < r.toList.length := by omega
          rw [List.getElem?_eq_getElem hp] at e1
          rw [List.getElem?_eq_getElem hq] at e2
          rw [kx_at e1, kx_at e2]
          by_cases c5 : p = q
          · subst c5; exact KeyOrd.kle_refl _
          · exact List.pairwise_iff_getElem.mp rs _ _ hp hq (by omega)
        · rw [kx_at x1, out q (.inr (by omega))]
          rcases mem x x2 with ⟨j, j1, j2, j3⟩ | ⟨j, j1, j2, j3⟩
          · rw [← kx_at (key := key) j3]; exact KeyOrd.kle_trans (sA j (sb - 1) (by omega) (by omega) (by omega)) (highA q (by omega) p3)
          · rw [← kx_at (key := key) j3]; exact sB j q j1 (by omega) p3
      · rw [out p (.inr (by omega)), out q (.inr (by omega))]
        exact sB p q (by omega) p2 p3
  by_cases t : na - k ≤ m
  · rw [if_pos t]
    refine wpS_bind (wpS_mergeLoS hL v1.kind dX dY sX sY (by show 1 ≤ ((arrOf st).extract (sa + k) sb).size; omega) (by show 1 ≤ ((arrOf st).extract sb (sb + m)).size; omega) hb ha fun r st2 g res => ?_)
    refine wpS_bind (wpS_modify (wpS_bind (wpS_get ?_)))
    obtain ⟨f1, f2, f3, f4⟩ := fin r st2 g res (fun a x => match x with | (p, j) => a.setIfInBounds (sa + k + j) p) (fun _ _ _ => rfl)
    have fl : failedOf st2 = none := g.2.2.2.trans v1.fail
    have : (failedOf st2).isNone = true := by rw [fl]; rfl
    refine wpS_pure ?_
    show Q (failedOf st2).isNone _
    rw [this]
    exact h _ f1 f2 f3 f4
  · rw [if_neg t]
    refine wpS_bind (wpS_mergeHiS hL v1.kind dX dY sX sY (by show 1 ≤ ((arrOf st).extract (sa + k) sb).size; omega) (by show 1 ≤ ((arrOf st).extract sb (sb + m)).size; omega) hb ha fun r st2 g res => ?_)
    refine wpS_bind (wpS_modify (wpS_bind (wpS_get ?_)))
    obtain ⟨f1, f2, f3, f4⟩ := fin r st2 g res (fun a x => match x with | (p, j) => a.setIfInBounds (sa + k + j) p) (fun _ _ _ => rfl)
    have fl : failedOf st2 = none := g.2.2.2.trans v1.fail
    have : (failedOf st2).isNone = true := by rw [fl]; rfl
    refine wpS_pure ?_
    show Q (failedOf st2).isNone _
    rw [this]
    exact h _ f1 f2 f3 f4
end
end L2
namespace L2
open PySem PyProof.Rows
/-! ### the whole sort -/
section
variable {O : KeyOrd} {key : Keyed → O.α}
def ChainR (O : KeyOrd) (key : Keyed → O.α) (xs : Array Keyed) : Nat → List (Nat × Nat × Nat) → Nat → Prop
  | a, [], b => a = b
  | a, q :: r, b => q.1 = a ∧ 1 ≤ q.2.1 ∧ SrtI O key xs a (a + q.2.1) ∧ ChainR O key xs (a + q.2.1) r b
theorem ChainR.le {xs : Array Keyed} : ∀ {l : List (Nat × Nat × Nat)} {a b : Nat}, ChainR O key xs a l b → a + l.length ≤ b
  | [], a, b, h => by
    have h : a = b := h
    subst h; exact Nat.le_refl _
  | q :: r, a, b, ⟨_, h2, _, h4⟩ => by
    have := ChainR.le h4
    rw [List.length_cons]; omega
theorem ChainR.congr {xs ys : Array Keyed} : ∀ {l : List (Nat × Nat × Nat)} {a b : Nat}, ChainR O key xs a l b → (∀ k, a ≤ k → k < b → ys[k]? = xs[k]?) → ChainR O key ys a l b
  | [], _, _, h, _ => h
  | q :: r, a, b, ⟨h1, h2, h3, h4⟩, e => by
    have hb := h4.le
    refine ⟨h1, h2, fun i j i1 i2 i3 => ?_, h4.congr fun k k1 k2 => e k (by omega) k2⟩
    rw [kx_congr (e i i1 (by omega)), kx_congr (e j (by omega) (by omega))]
    exact h3 i j i1 i2 i3
theorem chain_app {xs : Array Keyed} : ∀ {l l' : List (Nat × Nat × Nat)} {a b : Nat}, ChainR O key xs a (l ++ l') b ↔ ∃ c, ChainR O key xs a l c ∧ ChainR O key xs c l' b
  | [], l', a, b => ⟨fun h => ⟨a, rfl, h⟩, fun ⟨c, h1, h2⟩ => by
    have h1 : a = c := h1
    subst h1; exact h2⟩
  | q :: r, l', a, b => by
    constructor
    · rintro ⟨h1, h2, h3, h4⟩
      obtain ⟨c, h5, h6⟩ := chain_app.mp h4
      exact ⟨c, ⟨h1, h2, h3, h5⟩, h6⟩
    · rintro ⟨c, ⟨h1, h2, h3, h5⟩, h6⟩
      exact ⟨h1, h2, h3, chain_app.mpr ⟨c, h5, h6⟩⟩
theorem ChainR.pow {xs : Array Keyed} : ∀ {l l' : List (Nat × Nat × Nat)} {a b : Nat}, l.map (fun q => (q.1, q.2.1)) = l'.map (fun q => (q.1, q.2.1)) → ChainR O key xs a l b → ChainR O key xs a l' b
  | [], [], _, _, _, h => h
  | [], _ :: _, _, _, e, _ => by cases e
  | _ :: _, [], _, _, e, _ => by cases e
  | q :: r, q' :: r', a, b, e, ⟨h1, h2, h3, h4⟩ => by
    simp only [List.map_cons, List.cons.injEq, Prod.mk.injEq] at e
    obtain ⟨⟨e1, e2⟩, e3⟩ := e
    refine ⟨e1 ▸ h1, e2 ▸ h2, e2 ▸ h3, ?_⟩
    rw [← e2]; exact h4.pow e3
theorem set_erase {q1 q2 v : Nat × Nat × Nat} {l2 : List (Nat × Nat × Nat)} : ∀ l1 : List (Nat × Nat × Nat), ((l1 ++ q1 :: q2 :: l2).set l1.length v).eraseIdx (l1.length + 1) = l1 ++ v :: l2
  | [] => rfl
  | x :: l1 => by
    show x :: ((l1 ++ q1 :: q2 :: l2).set l1.length v).eraseIdx (l1.length + 1) = x :: (l1 ++ v :: l2)
    rw [set_erase l1]
end
section
variable {M : Model} {Ar : Around} {E : Value → Shared → Prop} {s : Shared} {O : KeyOrd} {key : Keyed → O.α} {knd : SortKind} {D : Keyed → Prop} {n : Nat}
theorem wpS_ite {σ α : Type} {c : Prop} [Decidable c] {m m' : StateT σ Sem α} {Q : α → σ → Prop} {st : σ} (h1 : c → wpS M Ar E s m Q st) (h2 : ¬ c → wpS M Ar E s m' Q st) : wpS M Ar E s (if c then m else m') Q st := by
  by_cases z : c
  · rw [if_pos z]; exact h1 z
  · rw [if_neg z]; exact h2 z
theorem ite_pred {c : Prop} [Decidable c] {a b : Nat} (h : a + 1 < b) : (if c then a - 1 else a) + 1 < b := by split <;> omega
theorem wpS_mergeChain (hL : LtOk M Ar E s O key knd D) {st : SortSt} {i lo : Nat} {Q : Bool → SortSt → Prop} (v : SV knd D n st) (ch : ChainR O key (arrOf st) 0 (pendingOf st).toList lo) (hlo : lo ≤ n) (hi : i + 1 < (pendingOf st).size)
    (h : ∀ st', SV knd D n st' → PermIn (arrOf st) (arrOf st') 0 lo → ChainR O key (arrOf st') 0 (pendingOf st').toList lo → (pendingOf st').size + 1 = (pendingOf st).size → Q true st') : wpS M Ar E s (mergeAt' i) Q st := by
  have lp : (pendingOf st).toList.length = (pendingOf st).size := Array.length_toList
  have sp : (pendingOf st).toList = (pendingOf st).toList.take i ++ (pendingOf st).toList[i] :: (pendingOf st).toList[i + 1] :: (pendingOf st).toList.drop (i + 2) := by
    rw [← List.drop_eq_getElem_cons (by omega), ← List.drop_eq_getElem_cons (by omega), List.take_append_drop]
  generalize hq1 : (pendingOf st).toList[i] = q1 at sp
  generalize hq2 : (pendingOf st).toList[i + 1] = q2 at sp
  obtain ⟨sa, na, w⟩ := q1
  obtain ⟨sb, nb, w'⟩ := q2
  have e1 : (pendingOf st)[i]? = some (sa, na, w) := by rw [← Array.getElem?_toList, List.getElem?_eq_getElem (by omega), hq1]
  have e2 : (pendingOf st)[i + 1]? = some (sb, nb, w') := by rw [← Array.getElem?_toList, List.getElem?_eq_getElem (by omega), hq2]
  have ti : ((pendingOf st).toList.take i).length = i := by rw [List.length_take]; omega
  rw [sp] at ch
  obtain ⟨c, c1, c2, c3, c4, c5, c6, c7, c8⟩ := chain_app.mp ch
  have c2 : sa = c := c2
  subst c2
  have c5 : sb = sa + na := c5
  have c3 : 1 ≤ na := c3
  have c6 : 1 ≤ nb := c6
  have c4 : SrtI O key (arrOf st) sa (sa + na) := c4
  have c7 : SrtI O key (arrOf st) (sa + na) (sa + na + nb) := c7
  have c8 : ChainR O key (arrOf st) (sa + na + nb) ((pendingOf st).toList.drop (i + 2)) lo := c8
  have g1 := c1.le
  have g2 := c8.le
  refine wpS_mergeAtI hL v e1 e2 c5 c3 c6 (by omega) c4 (by rw [c5]; exact c7) fun st' v' pd pm hs => ?_
  have pl : (pendingOf st').toList = (pendingOf st).toList.take i ++ (sa, na + nb, w) :: (pendingOf st).toList.drop (i + 2) := by
    rw [pd, Array.toList_eraseIdxIfInBounds, Array.toList_setIfInBounds, sp]
    have := set_erase (q1 := (sa, na, w)) (q2 := (sb, nb, w')) (v := (sa, na + nb, w)) (l2 := (pendingOf st).toList.drop (i + 2)) ((pendingOf st).toList.take i)
    rw [ti] at this
    rw [this]
    simp [List.take_append_of_le_length, ti, List.drop_append]
  refine h st' v' (pm.wide (Nat.zero_le _) (by omega)) ?_ ?_
  · rw [pl]
    refine chain_app.mpr ⟨sa, c1.congr fun k k1 k2 => pm.2 k (.inl k2), rfl, ?_, ?_, ?_⟩
    · show 1 ≤ na + nb; omega
    · show SrtI O key (arrOf st') sa (sa + (na + nb))
      rw [show sa + (na + nb) = sb + nb by omega]; exact hs
    · show ChainR O key (arrOf st') (sa + (na + nb)) _ lo
      rw [show sa + (na + nb) = sa + na + nb by omega]
      exact c8.congr fun k k1 k2 => pm.2 k (.inr (by omega))
  · have := congrArg List.length pl
    rw [Array.length_toList, List.length_append, ti, List.length_cons, List.length_drop] at this
    omega
theorem wpS_sortAll (hL : LtOk M Ar E s O key knd D) {st : SortSt} {Q : Unit → SortSt → Prop} (v : SV knd D n st) (pe : pendingOf st = #[]) (h2 : 2 ≤ n)
    (h : ∀ st', failedOf st' = none → (arrOf st').Perm (arrOf st) → SrtI O key (arrOf st') 0 n → Q () st') : wpS M Ar E s sortRuns' Q st := by
  refine wpS_bind (wpS_get ?_)
  have ez : (arrOf st).size = n := v.size
  dsimp only
  refine wpS_bind (wpS_mono (wpS_forRange (I := fun x c st' => SV knd D n st' ∧ (arrOf st').Perm (arrOf st) ∧ ∃ lo, c = (none, lo) ∧ x ≤ lo ∧ lo ≤ n ∧ ChainR O key (arrOf st') 0 (pendingOf st').toList lo)
    (Q := fun c st' => SV knd D n st' ∧ (arrOf st').Perm (arrOf st) ∧ c = (none, n) ∧ ChainR O key (arrOf st') 0 (pendingOf st').toList n) ?step ?fin ⟨v, Array.Perm.refl _, 0, rfl, Nat.le_refl _, Nat.zero_le _, by rw [pe]; rfl⟩) ?post)
  case fin =>
    rintro c st' ⟨v1, p1, lo, rfl, l1, l2, ch⟩
    have : lo = n := by
      have hz : (arrOf st).size ≤ lo := by
        have : max 0 (arrOf st).size ≤ lo := l1
        omega
      omega
    subst this
    exact ⟨v1, p1, rfl, ch⟩
  case step =>
    rintro x c st' _ hx ⟨v1, p1, lo, rfl, l1, l2, ch⟩
    dsimp only
    refine wpS_ite (fun z => ?_) fun z => ?_
    · have z : (arrOf st).size ≤ lo := z
      have : lo = n := by omega
      subst this
      exact wpS_pure ⟨v1, p1, rfl, ch⟩
    have z : ¬ (arrOf st).size ≤ lo := z
    have lz : lo < n := by omega
    refine wpS_bind (wpS_countI hL v1 (by show 1 ≤ (arrOf st).size - lo; omega) (by show lo + ((arrOf st).size - lo) ≤ n; omega) fun m st2 v2 pd2 pm2 m1 m2 hs2 => ?_)
    have m2 : m ≤ (arrOf st).size - lo := m2
    have pm2 : PermIn (arrOf st') (arrOf st2) lo (lo + ((arrOf st).size - lo)) := pm2
    have ch2 : ChainR O key (arrOf st2) 0 (pendingOf st2).toList lo := by
      rw [pd2]; exact ch.congr fun k k1 k2 => pm2.2 k (.inl k2)
    have p2 : (arrOf st2).Perm (arrOf st) := pm2.1.trans p1
    dsimp only
    refine wpS_ite (fun y => ?_) fun y => ?_
    · refine wpS_bind (wpS_lift (wpAny_rule ⟨rfl, ?_⟩))
      refine wpS_bind (wpS_binI hL v2 ?_ ?_ hs2 fun st3 v3 pd3 pm3 hs3 => ?_)
      · show lo + min ((arrOf st).size - lo) _ ≤ n
        omega
      · show m ≤ min ((arrOf st).size - lo) _
        omega
      rw [if_neg (by decide)]
      have ch3 : ChainR O key (arrOf st3) 0 (pendingOf st3).toList lo := by
        rw [pd3]; exact ch2.congr fun k k1 k2 => pm3.2 k (.inl k2)
      have p3 : (arrOf st3).Perm (arrOf st) := pm3.1.trans p2
      have fm : 1 ≤ min ((arrOf st).size - lo) (minRun' (arrOf st).size (arrOf st).size 0) := by
        have : m < minRun' (arrOf st).size (arrOf st).size 0 := y
        omega
      have fl : lo + min ((arrOf st).size - lo) (minRun' (arrOf st).size (arrOf st).size 0) ≤ n := by omega
      have hs3 : SrtI O key (arrOf st3) lo (lo + min ((arrOf st).size - lo) (minRun' (arrOf st).size (arrOf st).size 0)) := hs3
      clear hs2 ch2 p2 m1 m2 y
      refine wpS_bind (wpS_get ?_)
      (try dsimp only)
      have push : ∀ st4 : SortSt, SV knd D n st4 → (arrOf st4).Perm (arrOf st) → ChainR O key (arrOf st4) 0 (pendingOf st4).toList lo → SrtI O key (arrOf st4) lo (lo + min ((arrOf st).size - lo) (minRun' (arrOf st).size (arrOf st).size 0)) → SV knd D n (setPending st4 ((pendingOf st4).push (lo, min ((arrOf st).size - lo) (minRun' (arrOf st).size (arrOf st).size 0), 0))) ∧ (arrOf st4).Perm (arrOf st) ∧ ∃ lo', ((none, lo + min ((arrOf st).size - lo) (minRun' (arrOf st).size (arrOf st).size 0)) : Option Unit × Nat) = (none, lo') ∧ x + 1 ≤ lo' ∧ lo' ≤ n ∧ ChainR O key (arrOf st4) 0 ((pendingOf st4).push (lo, min ((arrOf st).size - lo) (minRun' (arrOf st).size (arrOf st).size 0), 0)).toList lo' := fun st4 v4 p4 ch4 hs4 => by
        refine ⟨⟨v4.kind, v4.fail, v4.dom, v4.size⟩, p4, lo + min ((arrOf st).size - lo) (minRun' (arrOf st).size (arrOf st).size 0), rfl, by omega, fl, ?_⟩
        rw [Array.toList_push]
        exact chain_app.mpr ⟨lo, ch4, rfl, fm, hs4, rfl⟩
      cases hbk : (pendingOf st3).back? with
      | none =>
        (try dsimp only)
        exact wpS_bind (wpS_modify (wpS_pure (push _ v3 p3 ch3 hs3)))
      | some tt =>
        obtain ⟨s1, n1, w1⟩ := tt
        (try dsimp only)
        refine wpS_bind (wpS_mono (wpS_forRange (I := fun _ c st4 => c = (none, ()) ∧ SV knd D n st4 ∧ (arrOf st4).Perm (arrOf st) ∧ ChainR O key (arrOf st4) 0 (pendingOf st4).toList lo ∧ SrtI O key (arrOf st4) lo (lo + min ((arrOf st).size - lo) (minRun' (arrOf st).size (arrOf st).size 0)))
          (Q := fun c st4 => c = (none, ()) ∧ SV knd D n st4 ∧ (arrOf st4).Perm (arrOf st) ∧ ChainR O key (arrOf st4) 0 (pendingOf st4).toList lo ∧ SrtI O key (arrOf st4) lo (lo + min ((arrOf st).size - lo) (minRun' (arrOf st).size (arrOf st).size 0))) ?_ (fun _ _ hh => hh) ⟨rfl, v3, p3, ch3, hs3⟩) ?_)
        · rintro y c st4 _ _ ⟨rfl, v4, p4, ch4, hs4⟩
          refine wpS_bind (wpS_get ?_)
          (try dsimp only)
          by_cases u : (pendingOf st4).size > 1
          · have eu : (if (pendingOf st4).size > 1 then (pendingOf st4)[(pendingOf st4).size - 2]? else none) = some ((pendingOf st4)[(pendingOf st4).size - 2]) := by rw [if_pos u]; exact Array.getElem?_eq_getElem (by omega)
            rw [eu]
            generalize (pendingOf st4)[(pendingOf st4).size - 2] = q4
            obtain ⟨t1, t2, t3⟩ := q4
            (try dsimp only)
            refine wpS_ite (fun _ => wpS_pure ⟨rfl, v4, p4, ch4, hs4⟩) fun _ => ?_
            refine wpS_bind (wpS_mergeChain hL v4 ch4 l2 (by show (pendingOf st4).size - 2 + 1 < (pendingOf st4).size; omega) fun st5 v5 pm5 ch5 _ => ?_)
            rw [if_neg (by decide)]
            refine wpS_pure ⟨rfl, v5, pm5.1.trans p4, ch5, fun i j i1 i2 i3 => ?_⟩
            rw [kx_congr (pm5.2 i (.inr (by omega))), kx_congr (pm5.2 j (.inr (by omega)))]
            exact hs4 i j i1 i2 i3
          · have eu : (if (pendingOf st4).size > 1 then (pendingOf st4)[(pendingOf st4).size - 2]? else none) = none := if_neg u
            rw [eu]
            (try dsimp only)
            exact wpS_pure ⟨rfl, v4, p4, ch4, hs4⟩
        rintro c st4 ⟨rfl, v4, p4, ch4, hs4⟩
        (try dsimp only)
        refine wpS_bind (wpS_modify (wpS_bind (wpS_modify (wpS_pure (push _ ⟨v4.kind, v4.fail, v4.dom, v4.size⟩ p4 ?_ hs4)))))
        refine ch4.pow ?_
        apply List.ext_getElem?
        intro q
        rw [List.getElem?_map, List.getElem?_map, Array.getElem?_toList, Array.getElem?_toList]
        show _ = Option.map _ (((pendingOf st4).modify ((pendingOf st4).size - 1) _)[q]?)
        rw [Array.getElem?_modify]
        split
        · cases (pendingOf st4)[q]? <;> rfl
        · rfl
    · have ch3 := ch2
      have p3 := p2
      have fm := m1
      have fl : lo + m ≤ n := by omega
      have hs3 := hs2
      have v3 := v2
      clear hs2 ch2 p2 m1 m2 y
      refine wpS_bind (wpS_get ?_)
      (try dsimp only)
      have push : ∀ st4 : SortSt, SV knd D n st4 → (arrOf st4).Perm (arrOf st) → ChainR O key (arrOf st4) 0 (pendingOf st4).toList lo → SrtI O key (arrOf st4) lo (lo + m) → SV knd D n (setPending st4 ((pendingOf st4).push (lo, m, 0))) ∧ (arrOf st4).Perm (arrOf st) ∧ ∃ lo', ((none, lo + m) : Option Unit × Nat) = (none, lo') ∧ x + 1 ≤ lo' ∧ lo' ≤ n ∧ ChainR O key (arrOf st4) 0 ((pendingOf st4).push (lo, m, 0)).toList lo' := fun st4 v4 p4 ch4 hs4 => by
        refine ⟨⟨v4.kind, v4.fail, v4.dom, v4.size⟩, p4, lo + m, rfl, by omega, fl, ?_⟩
        rw [Array.toList_push]
        exact chain_app.mpr ⟨lo, ch4, rfl, fm, hs4, rfl⟩
      cases hbk : (pendingOf st2).back? with
      | none =>
        (try dsimp only)
        exact wpS_bind (wpS_modify (wpS_pure (push _ v3 p3 ch3 hs3)))
      | some tt =>
        obtain ⟨s1, n1, w1⟩ := tt
        (try dsimp only)
        refine wpS_bind (wpS_mono (wpS_forRange (I := fun _ c st4 => c = (none, ()) ∧ SV knd D n st4 ∧ (arrOf st4).Perm (arrOf st) ∧ ChainR O key (arrOf st4) 0 (pendingOf st4).toList lo ∧ SrtI O key (arrOf st4) lo (lo + m))
          (Q := fun c st4 => c = (none, ()) ∧ SV knd D n st4 ∧ (arrOf st4).Perm (arrOf st) ∧ ChainR O key (arrOf st4) 0 (pendingOf st4).toList lo ∧ SrtI O key (arrOf st4) lo (lo + m)) ?_ (fun _ _ hh => hh) ⟨rfl, v3, p3, ch3, hs3⟩) ?_)
        · rintro y c st4 _ _ ⟨rfl, v4, p4, ch4, hs4⟩
          refine wpS_bind (wpS_get ?_)
          (try dsimp only)
          by_cases u : (pendingOf st4).size > 1
          · have eu : (if (pendingOf st4).size > 1 then (pendingOf st4)[(pendingOf st4).size - 2]? else none) = some ((pendingOf st4)[(pendingOf st4).size - 2]) := by rw [if_pos u]; exact Array.getElem?_eq_getElem (by omega)
            rw [eu]
            generalize (pendingOf st4)[(pendingOf st4).size - 2] = q4
            obtain ⟨t1, t2, t3⟩ := q4
            (try dsimp only)
            refine wpS_ite (fun _ => wpS_pure ⟨rfl, v4, p4, ch4, hs4⟩) fun _ => ?_
            refine wpS_bind (wpS_mergeChain hL v4 ch4 l2 (by show (pendingOf st4).size - 2 + 1 < (pendingOf st4).size; omega) fun st5 v5 pm5 ch5 _ => ?_)
            rw [if_neg (by decide)]
            refine wpS_pure ⟨rfl, v5, pm5.1.trans p4, ch5, fun i j i1 i2 i3 => ?_⟩
            rw [kx_congr (pm5.2 i (.inr (by omega))), kx_congr (pm5.2 j (.inr (by omega)))]
            exact hs4 i j i1 i2 i3
          · have eu : (if (pendingOf st4).size > 1 then (pendingOf st4)[(pendingOf st4).size - 2]? else none) = none := if_neg u
            rw [eu]
            (try dsimp only)
            exact wpS_pure ⟨rfl, v4, p4, ch4, hs4⟩
        rintro c st4 ⟨rfl, v4, p4, ch4, hs4⟩
        (try dsimp only)
        refine wpS_bind (wpS_modify (wpS_bind (wpS_modify (wpS_pure (push _ ⟨v4.kind, v4.fail, v4.dom, v4.size⟩ p4 ?_ hs4)))))
        refine ch4.pow ?_
        apply List.ext_getElem?
        intro q
        rw [List.getElem?_map, List.getElem?_map, Array.getElem?_toList, Array.getElem?_toList]
        show _ = Option.map _ (((pendingOf st4).modify ((pendingOf st4).size - 1) _)[q]?)
        rw [Array.getElem?_modify]
        split
        · cases (pendingOf st4)[q]? <;> rfl
        · rfl
  case post =>
    rintro c st' ⟨v1, p1, rfl, ch⟩
    dsimp only
    have chl := ch.le
    rw [Array.length_toList] at chl
    refine wpS_bind (wpS_mono (wpS_forRange (I := fun x c st2 => c = (none, ()) ∧ SV knd D n st2 ∧ (arrOf st2).Perm (arrOf st) ∧ ChainR O key (arrOf st2) 0 (pendingOf st2).toList n ∧ ((pendingOf st2).size ≤ 1 ∨ (pendingOf st2).size + x ≤ n))
      (Q := fun c st2 => c = (none, ()) ∧ SV knd D n st2 ∧ (arrOf st2).Perm (arrOf st) ∧ ChainR O key (arrOf st2) 0 (pendingOf st2).toList n ∧ (pendingOf st2).size ≤ 1) ?_ ?_ ⟨rfl, v1, p1, ch, .inr (by omega)⟩) ?_)
    · rintro x c st2 _ hx ⟨rfl, v2, p2, ch2, hz⟩
      refine wpS_bind (wpS_get ?_)
      (try dsimp only)
      refine wpS_ite (fun z => wpS_pure ⟨rfl, v2, p2, ch2, z⟩) fun z => ?_
      have z : ¬ (pendingOf st2).size ≤ 1 := z
      refine wpS_bind (wpS_mergeChain hL v2 ch2 (Nat.le_refl _) ?_ fun st3 v3 pm3 ch3 sz3 => ?_)
      · exact ite_pred (a := (pendingOf st2).size - 2) (by omega)
      rw [if_neg (by decide)]
      exact wpS_pure ⟨rfl, v3, pm3.1.trans p2, ch3, by omega⟩
    · rintro c st2 ⟨rfl, v2, p2, ch2, hz⟩
      refine ⟨rfl, v2, p2, ch2, ?_⟩
      rcases hz with hz | hz
      · exact hz
      · have : (pendingOf st2).size + max 0 (arrOf st).size ≤ n := hz
        omega
    · rintro c st2 ⟨rfl, v2, p2, ch2, hz⟩
      refine wpS_pure (h st2 v2.fail p2 ?_)
      have lp : (pendingOf st2).toList.length = (pendingOf st2).size := Array.length_toList
      match hl : (pendingOf st2).toList, ch2 with
      | [], ch2 =>
        have : 0 = n := ch2
        omega
      | [q], ch2 =>
        obtain ⟨d1, d2, d3, d4⟩ := ch2
        have d4 : 0 + q.2.1 = n := d4
        rw [d4] at d3
        exact d3
      | q :: q' :: r, _ =>
        rw [hl, List.length_cons, List.length_cons] at lp
        omega
end
end L2
namespace L2
open PySem PyProof.Rows
/-! ### list.sort, sorted: any length, numbers or tuples of numbers -/
theorem listLt_neg {a b c : List Int} (h : a < c) : a < b ∨ b < c := by
  by_cases z : a < b
  · exact .inl z
  · exact .inr (List.lt_of_le_of_lt (List.not_lt.mp z) h)
abbrev ordL : KeyOrd :=
  { α := List Int, blt := fun a b => decide (a < b), irrefl := fun a => decide_eq_false (List.lt_irrefl a), trans := fun a b c h1 h2 => decide_eq_true (List.lt_trans (of_decide_eq_true h1) (of_decide_eq_true h2)),
    negTrans := fun a b c h => (listLt_neg (b := b) (of_decide_eq_true h)).imp decide_eq_true decide_eq_true, total := fun a b h1 h2 => List.le_antisymm (List.not_lt.mp (of_decide_eq_false h2)) (List.not_lt.mp (of_decide_eq_false h1)) }
def keyT (h : Heap) (x : Keyed) : List Int := match x.1 with
  | .ref a => (match h.get? a with | some o => (match o.data with | .seq items _ => items.toList.map numOf | _ => []) | none => [])
  | _ => []
def DT (h : Heap) (x : Keyed) : Prop := ∃ a items ns, x.1 = .ref a ∧ IsTup h a items ∧ IntsAre items.toList ns ∧ ns ≠ []
theorem keyT_at {h : Heap} {x : Keyed} {a : Addr} {items : Array Value} {ns : List Int} (e : x.1 = .ref a) (t : IsTup h a items) (i : IntsAre items.toList ns) : keyT h x = ns := by
  obtain ⟨o, ho, _, n, hd⟩ := t
  unfold keyT
  rw [e]
  show (match h.get? a with | some o => (match o.data with | .seq items _ => items.toList.map numOf | _ => []) | none => []) = ns
  rw [ho]
  show (match o.data with | .seq items _ => items.toList.map numOf | _ => []) = ns
  rw [hd]
  exact i.nums
section
variable {prog : Program} {w : World} {A : Around} {E : Value → Shared → Prop} {s : Shared}
theorem oneLt_ints {b : Bool} {i j : Int} {t u : Tok} {Q : Bool → Shared → Prop} (h : Q (decide (i < j)) s) : wpAny (model prog w) A (oneLt' b (.int i t) (.int j u)) Q E s := by
  cases b with
  | true => exact oneLt_int h
  | false =>
    refine wpAny_bind (m := richCompare .Lt (.int i t) (.int j u)) ((lt_int (Q := fun v s' => v = .bool (decide (i < j)) ∧ s' = s) ⟨rfl, rfl⟩ : wpAny (model prog w) A (compareOp .Lt (.int i t) (.int j u)) _ E s) |> fun z => wpAny_mono z (fun v s' e => ?_) fun _ _ e => e)
    obtain ⟨rfl, rfl⟩ := e
    exact wpAny_truthy_bool h
theorem tup_loop {f : (Value × Value) × Nat → Option Bool × Unit → Sem (ForInStep (Option Bool × Unit))} (b0 : Bool) (hf : ∀ p q i c, f ((p, q), i) c = (do let e ← eqBool p q; if (!e) = true then do let r ← oneLt' (b0 && i == 0) p q; pure (ForInStep.done (some r, ())) else pure (ForInStep.yield (none, ())))) :
    ∀ {vs ws : List Value} {ns ms : List Int} (i0 : Nat) {Q : Option Bool × Unit → Shared → Prop}, IntsAre vs ns → IntsAre ws ms → (∀ r : Option Bool, (r = some (decide (ns < ms)) ∨ (r = none ∧ decide (ns < ms) = decide (ns.length < ms.length))) → Q (r, ()) s) → wpAny (model prog w) A (forIn ((vs.zip ws).zipIdx i0) ((none, ()) : Option Bool × Unit) f) Q E s
  | _, _, _, _, i0, Q, .nil, hw, h => by
    rw [List.zip_nil_left]
    refine wpAny_pure (h none (.inr ⟨rfl, ?_⟩))
    cases hw <;> simp
  | _, _, _, _, i0, Q, .cons n t hv, .nil, h => by
    rw [List.zip_nil_right]
    exact wpAny_pure (h none (.inr ⟨rfl, by simp⟩))
  | _, _, _, _, i0, Q, .cons n t (ns := ns) hv, .cons m u (ns := ms) hw, h => by
    rw [List.zip_cons_cons, List.zipIdx_cons, List.forIn_cons, hf]
    refine wpAny_bind (wpAny_bind (SeqAt.EqAt.int_int n t m u prog w E _ ?_))
    by_cases e : n = m
    · subst e
      have hx : (n == n) = true := beq_self_eq_true n
      rw [hx]
      refine wpAny_pure ?_
      refine tup_loop b0 hf (i0 + 1) hv hw fun r hr => h r ?_
      have c1 : decide (n :: ns < n :: ms) = decide (ns < ms) := decide_eq_decide.mpr (by rw [List.cons_lt_cons_iff]; simp)
      have c2 : decide ((n :: ns).length < (n :: ms).length) = decide (ns.length < ms.length) := decide_eq_decide.mpr (by simp)
      rw [c1, c2]
      exact hr
    · have hx : (n == m) = false := beq_eq_false_iff_ne.mpr e
      rw [hx]
      refine wpAny_bind (oneLt_ints (wpAny_pure (wpAny_pure (h _ (.inl ?_)))))
      exact congrArg some (decide_eq_decide.mpr (by rw [List.cons_lt_cons_iff]; simp [e]))
theorem tup_lt {x y : Keyed} {Q : Bool → Shared → Prop} (dx : DT s.heap x) (dy : DT s.heap y) (h : Q (decide (keyT s.heap x < keyT s.heap y)) s) : wpAny (model prog w) A (keyLt' (tuples' true) x.1 y.1) Q E s := by
  obtain ⟨a, items, ns, e1, t1, i1, _⟩ := dx
  obtain ⟨b, items2, ms, e2, t2, i2, _⟩ := dy
  rw [keyT_at e1 t1 i1, keyT_at e2 t2 i2] at h
  rw [e1, e2]
  obtain ⟨o, ho, _, n, hd⟩ := t1
  obtain ⟨o2, ho2, _, n2, hd2⟩ := t2
  refine wpAny_bind (listItems_at ho hd (wpAny_bind (listItems_at ho2 hd2 (wpAny_bind ?_))))
  refine tup_loop true (fun p q i c => rfl) 0 i1 i2 fun r hr => ?_
  have l1 : items.size = ns.length := by rw [← i1.length]; simp
  have l2 : items2.size = ms.length := by rw [← i2.length]; simp
  rcases hr with rfl | ⟨rfl, e⟩
  · exact wpAny_pure h
  · refine wpAny_pure ?_
    show Q (decide (items.size < items2.size)) s
    rw [l1, l2, ← e]
    exact h
theorem lt_tups : LtOk (model prog w) A E s ordL (keyT s.heap) (tuples' true) (DT s.heap) where
  lt := fun {x y st Q} dx dy hk h => by
    rw [lt'_eq]
    refine wpS_bind (wpS_get ?_)
    rw [hk]
    exact wpS_bind (wpS_lift (wpAny_attempt (tup_lt dx dy ⟨rfl, wpS_pure h⟩)))
def keyI (x : Keyed) : List Int := [numOf x.1]
def DI (x : Keyed) : Prop := ∃ n t, x.1 = .int n t
theorem lt_ints : LtOk (model prog w) A E s ordL keyI oneType' DI where
  lt := fun {x y st Q} dx dy hk h => by
    obtain ⟨i, t, e1⟩ := dx
    obtain ⟨j, u, e2⟩ := dy
    rw [lt'_eq]
    refine wpS_bind (wpS_get ?_)
    rw [hk, keyLt'_oneType, e1, e2]
    refine wpS_bind (wpS_lift (wpAny_attempt (oneLt_int ⟨rfl, wpS_pure ?_⟩)))
    have : decide (i < j) = ordL.blt (keyI x) (keyI y) := by
      show _ = decide ([numOf x.1] < [numOf y.1])
      rw [e1, e2]
      exact decide_eq_decide.mpr (by rw [List.cons_lt_cons_iff]; simp [numOf])
    rw [this]
    exact h
def inSort (s : Shared) (a : Addr) (vs : List Value) : Shared := { s with heap := ((s.heap.update a (Obj.mapSeq fun _ => #[])).push (seqObj "tuple" vs.toArray 0)).push (seqObj "list" #[] 0) }
theorem inSort_keep {a b : Addr} {vs : List Value} {o : Obj} (h : s.heap.get? b = some o) (ne : b ≠ a) : (inSort s a vs).heap.get? b = some o := by
  have hlt : b < s.heap.objs.size := Heap.lt_size h
  show (((s.heap.update a _).push _).push _).get? b = some o
  rw [Heap.get?_push_ne _ _ _ (by rw [size_push', Heap.size_update]; exact Nat.ne_of_lt (Nat.lt_succ_of_lt hlt)), Heap.get?_push_ne _ _ _ (by rw [Heap.size_update]; exact Nat.ne_of_lt hlt), Heap.get?_update_ne _ _ _ _ ne]
  exact h
theorem list_sort_any {O : KeyOrd} {key : Keyed → O.α} {knd : SortKind} {D : Keyed → Prop} {a : Addr} {vs : List Value} {n : Nat} {P : Fin → Shared → Prop} (ho : s.heap.get? a = some (seqObj "list" vs.toArray n)) (hz : vs.length ≤ 1000000)
    (hkk : 2 ≤ vs.length → wpAny (model prog w) A (keyKind' vs.toArray) (fun r s' => s' = inSort s a vs ∧ r = knd) E (inSort s a vs)) (hL : LtOk (model prog w) A E (inSort s a vs) O key knd D) (hD : ∀ v ∈ vs, D (v, v))
    (h : ∀ out : List Value, out.Perm vs → out.Pairwise (fun v u => leK O key (v, v) (u, u)) → P (.done (.ret .none)) { s with heap := sortedHeap s.heap a vs out.toArray }) : wpAny (model prog w) A (Builtin.«list.sort» ⟨[.ref a], []⟩) P E s := by
  rw [list_sort_plain]
  have ha : a < s.heap.objs.size := Heap.lt_size ho
  obtain ⟨e1, ho1⟩ : ∃ e1, (s.heap.update a (Obj.mapSeq fun _ => #[])).get? a = some (seqObj "list" #[] e1) := ⟨_, get?_update_seq ho (fun _ => #[])⟩
  refine wpAny_bind (listItems_at ho rfl (wpAny_bind (listUpdate_at ho rfl (wpAny_bind (seqEpoch_at ho1 rfl (wpAny_bind (wpAny_newTuple (wpAny_bind (wpAny_newList (wpAny_holding ?_)) ) ?_)))) ?_ ?_)))
  · have ho6 : (inSort s a vs).heap.get? a = some (seqObj "list" #[] e1) := by
      show (((s.heap.update a _).push _).push _).get? a = _
      rw [Heap.get?_push_ne _ _ _ (by rw [size_push', Heap.size_update]; exact Nat.ne_of_lt (Nat.lt_succ_of_lt ha)), Heap.get?_push_ne _ _ _ (by rw [Heap.size_update]; exact Nat.ne_of_lt ha)]
      exact ho1
    show wpAny (model prog w) A _ P E (inSort s a vs)
    have hs : vs.toArray.size = vs.length := by simp
    have pz : vs.toArray.zip vs.toArray = pairsOf vs := rfl
    have szl : ∀ xs : Array Keyed, xs.Perm (pairsOf vs) → (xs.map (·.2)).size ≤ sizeLine + 1 := fun xs hp => by
      rw [Array.size_map, hp.size_eq, pairsOf_size]
      have : (1000000 : Nat) ≤ sizeLine := by decide
      omega
    by_cases h2 : vs.toArray.size < 2
    · rw [if_pos h2, if_pos h2]
      refine wpAny_bind (wpAny_pure ?_)
      dsimp only
      rw [StateT.run_pure]
      refine wpAny_bind (wpAny_pure ?_)
      (try dsimp only)
      refine wpAny_bind (seqEpoch_at ho6 rfl (wpAny_bind (listUpdate_at ho6 rfl ?_ (by decide) (szl _ (Array.Perm.refl _)))))
      simp only [bne_self_eq_false, Bool.false_eq_true, if_false]
      have e : (((vs.toArray.zip vs.toArray).map (·.2) : Array Value)) = vs.toArray := by
        apply Array.toList_inj.mp
        rw [Array.toList_map, Array.toList_zip]
        exact List.map_snd_zip (Nat.le_refl _)
      refine wpAny_pure ?_
      show P _ { s with heap := sortedHeap s.heap a vs ((vs.toArray.zip vs.toArray).map (·.2)) }
      rw [e]
      refine h vs (List.Perm.refl _) ?_
      match vs, h2 with
      | [], _ => exact List.Pairwise.nil
      | [v], _ => exact List.pairwise_singleton _ _
      | v :: u :: r, h2 => exact absurd h2 (by simp)
    · rw [if_neg h2, if_neg h2]
      refine wpAny_bind (wpAny_mono (hkk (by omega)) (fun r s' e => ?_) fun _ _ e => e)
      obtain ⟨rfl, er⟩ := e
      rw [er]
      have v0 : SV knd D vs.length (SortSt.mk' knd (pairsOf vs) #[] 7 none) := ⟨rfl, rfl, fun x hx => by
        have hx : x ∈ (pairsOf vs).toList := hx
        rw [pairsOf_toList] at hx
        obtain ⟨q1, q2⟩ := mem_zip_self hx
        have : x = (x.1, x.1) := Prod.ext rfl q1.symm
        rw [this]; exact hD _ q2, pairsOf_size vs⟩
      refine wpAny_bind (wpAny_mono (wpS_sortAll (Q := fun _ st' => failedOf st' = none ∧ (arrOf st').Perm (pairsOf vs) ∧ SrtI O key (arrOf st') 0 vs.length) hL v0 rfl (by omega) fun st' f p q => ⟨f, p, q⟩) (fun r s' e => ?_) fun _ _ e => e)
      obtain ⟨⟨⟩, st'⟩ := r
      obtain ⟨rfl, hf, hp, hq⟩ := e
      (try dsimp only)
      refine wpAny_bind (seqEpoch_at ho6 rfl (wpAny_bind (listUpdate_at ho6 rfl ?_ (by decide) (szl _ hp))))
      rw [hf]
      simp only [bne_self_eq_false, Bool.false_eq_true, if_false]
      refine wpAny_pure ?_
      have pl : (arrOf st').toList.Perm (vs.zip vs) := by rw [← pairsOf_toList]; exact Array.perm_iff_toList_perm.mp hp
      have eo : (arrOf st').map (·.2) = ((arrOf st').toList.map (·.2)).toArray := by
        apply Array.toList_inj.mp
        simp
      show P _ { s with heap := sortedHeap s.heap a vs ((arrOf st').map (·.2)) }
      rw [eo]
      refine h _ ?_ ?_
      · have := pl.map (fun p : Keyed => p.2)
        rw [List.map_snd_zip (Nat.le_refl _)] at this
        exact this
      · refine List.pairwise_map.mpr (List.pairwise_iff_getElem.mpr fun i j hi hj hij => ?_)
        have m1 := mem_zip_self (pl.mem_iff.mp (List.getElem_mem hi))
        have m2 := mem_zip_self (pl.mem_iff.mp (List.getElem_mem hj))
        have ls : (arrOf st').toList.length = vs.length := by rw [pl.length_eq]; simp
        have g1 : (arrOf st')[i]? = some ((arrOf st').toList[i]) := by rw [← Array.getElem?_toList]; exact List.getElem?_eq_getElem hi
        have g2 : (arrOf st')[j]? = some ((arrOf st').toList[j]) := by rw [← Array.getElem?_toList]; exact List.getElem?_eq_getElem hj
        have := hq i j (Nat.zero_le _) (by omega) (by omega)
        rw [kx_at g1, kx_at g2] at this
        have e1 : ((arrOf st').toList[i]) = (((arrOf st').toList[i]).2, ((arrOf st').toList[i]).2) := Prod.ext m1.1 rfl
        have e2 : ((arrOf st').toList[j]) = (((arrOf st').toList[j]).2, ((arrOf st').toList[j]).2) := Prod.ext m2.1 rfl
        rw [← e1, ← e2]
        exact this
  all_goals (first | (show _ ≤ sizeLine; simp; have : (1000000 : Nat) ≤ sizeLine := (by decide); omega) | (show _ ≤ sizeLine + 1; simp) | skip)
end
end L2
namespace L2
open PySem PySem.Spec PyProof.Rows
/-! ### sorted(..) -/
section
variable {prog : Program} {w : World} {A : Around} {E : Value → Shared → Prop} {s : Shared}
theorem first_tups : ∀ {vs : List Value}, (∀ v ∈ vs, DT s.heap (v, v)) → wpAny (model prog w) A (vs.mapM firstOfTuple') (fun r s' => s' = s ∧ ∃ (fs : List Value) (ms : List Int), r = fs.map some ∧ IntsAre fs ms ∧ fs.length = vs.length) E s
  | [], _ => by
    rw [List.mapM_nil]
    exact wpAny_pure ⟨rfl, [], [], rfl, .nil, rfl⟩
  | v :: vs, h => by
    rw [List.mapM_cons]
    obtain ⟨a, items, ns, e, t, i, ne⟩ := h v List.mem_cons_self
    have e : v = .ref a := e
    subst e
    obtain ⟨o, ho, hc, n, hd⟩ := id t
    refine wpAny_bind (m := firstOfTuple' (.ref a)) (wpAny_bind (wpAny_typeOf (T := "tuple") ⟨o, ho, hc⟩ ?_))
    rw [if_neg (by decide)]
    refine wpAny_bind (listItems_at ho hd (wpAny_pure ?_))
    refine wpAny_bind (wpAny_mono (first_tups fun u hu => h u (List.mem_cons_of_mem _ hu)) (fun r s' q => ?_) fun _ _ z => z)
    obtain ⟨rfl, fs, ms, rfl, hf, hl⟩ := q
    obtain ⟨l⟩ := items
    cases i with
    | nil => exact absurd rfl ne
    | cons m t' i' => exact wpAny_pure ⟨rfl, _, _, rfl, .cons m t' hf, by rw [List.length_cons, List.length_cons, hl]⟩
theorem kind_tups {vs : List Value} (h2 : 2 ≤ vs.length) (h : ∀ v ∈ vs, DT s.heap (v, v)) : wpAny (model prog w) A (keyKind' vs.toArray) (fun r s' => s' = s ∧ r = tuples' true) E s := by
  rw [keyKind'_eq, List.mapM_toArray]
  simp only [map_eq_pure_bind, bind_assoc, pure_bind]
  refine wpAny_bind (wpAny_mono (first_tups h) (fun r s' q => ?_) fun _ _ z => z)
  obtain ⟨rfl, fs, ms, rfl, hf, hl⟩ := q
  rw [if_pos (by simp)]
  refine wpAny_bind (wpAny_rule ?_)
  have e1 : Array.filterMap id (List.map some fs).toArray = fs.toArray := by
    apply Array.toList_inj.mp
    simp
  rw [e1, oneTypeOnly'_eq, List.mapM_toArray, mapM_typeOf_ints hf]
  simp only [map_pure, pure_bind]
  obtain ⟨f, r, rfl⟩ : ∃ f r, fs = f :: r := by
    cases fs with
    | nil => rw [← hl] at h2; exact absurd h2 (by simp)
    | cons f r => exact ⟨f, r, rfl⟩
  have e2 : (List.map (fun _ => Value.type "int") (f :: r)).toArray[0]? = some (Value.type "int") := by simp
  have e3 : ((List.map (fun _ => Value.type "int") (f :: r)).toArray.all fun x => x == Value.type "int") = true := by
    simp only [List.all_toArray, List.all_map, List.all_eq_true]
    intro _ _
    rfl
  rw [e2]
  simp only [e3, if_true, pure_bind]
  exact wpAny_pure ⟨rfl, by rfl⟩
theorem kind_ints {vs : List Value} {ns : List Int} (h2 : 2 ≤ vs.length) (hI : IntsAre vs ns) : wpAny (model prog w) A (keyKind' vs.toArray) (fun r s' => s' = s ∧ r = oneType') E s := by
  match vs, h2, hI with
  | v :: u :: r, _, hI =>
    rw [keyKind_ints hI]
    exact wpAny_pure ⟨rfl, rfl⟩
def ahead (s : Shared) (vs : List Value) : Shared := { s with heap := ((s.heap.push (seqObj "list" #[] 0)).update s.heap.objs.size (Obj.mapSeq (· ++ vs.toArray))).push (seqObj "list" vs.toArray 0) }
theorem ahead_keep {vs : List Value} {b : Addr} {o : Obj} (h : s.heap.get? b = some o) : (ahead s vs).heap.get? b = some o := by
  have hlt : b < s.heap.objs.size := Heap.lt_size h
  show ((((s.heap.push _).update _ _).push _).get? b) = some o
  rw [Heap.get?_push_ne _ _ _ (by rw [Heap.size_update, size_push']; exact Nat.ne_of_lt (Nat.lt_succ_of_lt hlt)), Heap.get?_update_ne _ _ _ _ (Nat.ne_of_lt hlt), Heap.get?_push_ne _ _ _ (Nat.ne_of_lt hlt)]
  exact h
theorem sort_keep {vs : List Value} {b : Addr} {o : Obj} (h : s.heap.get? b = some o) : (inSort (ahead s vs) (s.heap.objs.size + 1) vs).heap.get? b = some o :=
  inSort_keep (ahead_keep h) (Nat.ne_of_lt (Nat.lt_succ_of_lt (Heap.lt_size h)))
theorem dt_keep {h h' : Heap} {x : Keyed} (k : ∀ b o, h.get? b = some o → h'.get? b = some o) (d : DT h x) : DT h' x ∧ keyT h' x = keyT h x := by
  obtain ⟨a, items, ns, e, ⟨o, ho, hc, n, hd⟩, i, ne⟩ := d
  have t' : IsTup h' a items := ⟨o, k _ _ ho, hc, n, hd⟩
  exact ⟨⟨a, items, ns, e, t', i, ne⟩, by rw [keyT_at e t' i, keyT_at e ⟨o, ho, hc, n, hd⟩ i]⟩
theorem sorted_any {O : KeyOrd} {key : Keyed → O.α} {knd : SortKind} {D : Keyed → Prop} {l : Addr} {vs : List Value} {Q : Value → Shared → Prop} (hl : s.heap.IsList l vs.toArray) (hz : vs.length ≤ 1000000)
    (hkk : 2 ≤ vs.length → ∀ A' E', wpAny (model prog w) A' (keyKind' vs.toArray) (fun r s' => s' = inSort (ahead s vs) (s.heap.objs.size + 1) vs ∧ r = knd) E' (inSort (ahead s vs) (s.heap.objs.size + 1) vs))
    (hL : ∀ A' E', LtOk (model prog w) A' E' (inSort (ahead s vs) (s.heap.objs.size + 1) vs) O key knd D) (hD : ∀ v ∈ vs, D (v, v))
    (h : ∀ out : List Value, out.Perm vs → out.Pairwise (fun v u => leK O key (v, v) (u, u)) → Q (.ref (s.heap.objs.size + 1)) { s with heap := sortedAll s.heap vs out.toArray }) : wpAny (model prog w) A (call (.builtin "sorted") [.ref l]) Q E s := by
  have hs : (1000000 : Nat) ≤ sizeLine := by decide
  refine Calls.call_function_entry kind_sorted plain_sorted entry_sorted (args_sorted1 _) ?_
  unfold Builtin.«sorted»
  refine wpAny_bind (m := checkCount "sorted" 1 1 _) (wpAny_pure (wpAny_bind (collect_list hl (wpAny_bind (wpAny_newList ?_ (by omega))) (by omega))))
  have hq : ((s.heap.push (seqObj "list" #[] 0)).update s.heap.objs.size (Obj.mapSeq (· ++ vs.toArray))).objs.size = s.heap.objs.size + 1 := by rw [Heap.size_update, size_push']
  have ho : (ahead s vs).heap.get? (s.heap.objs.size + 1) = some (seqObj "list" vs.toArray 0) := by
    rw [← hq]; exact Heap.get?_push_size _ rfl
  show wpAny _ _ _ _ _ (ahead s vs)
  rw [hq]
  refine wpAny_bind (wpAny_holding (wpAny_call_entry slot_list_sort ⟨_, ho, rfl⟩ entry_list_sort (list_sort_any ho hz (fun h2 => hkk h2 _ _) (hL _ _) hD fun out p q => ⟨_, rfl, ?_⟩) (args_list_sort _)))
  exact wpAny_pure ⟨_, rfl, h out p q⟩
end
theorem perm_pair : ∀ {xs : List V} {us ws : List Value}, Vals xs us → ws.Perm us → ∃ ys, ys.Perm xs ∧ Vals ys ws := by
  intro xs us ws r p
  induction p generalizing xs with
  | nil => cases r; exact ⟨[], .nil, .nil⟩
  | cons x _ ih =>
    cases r with
    | cons h t =>
      obtain ⟨ys, p, q⟩ := ih t
      exact ⟨_, .cons _ p, .cons h q⟩
  | swap x y l =>
    cases r with
    | cons h t =>
      cases t with
      | cons h' t' => exact ⟨_, .swap _ _ _, .cons h' (.cons h t')⟩
  | trans _ _ ih1 ih2 =>
    obtain ⟨ys, p1, q1⟩ := ih2 r
    obtain ⟨zs, p2, q2⟩ := ih1 q1
    exact ⟨zs, p2.trans p1, q2⟩
theorem perm_tups {H : Hp} : ∀ {rs ys : List V} {vss : List (List V)}, TupsAt H rs vss → ys.Perm rs → ∃ wss, wss.Perm vss ∧ TupsAt H ys wss := by
  intro rs ys vss r p
  induction p generalizing vss with
  | nil => cases r; exact ⟨[], .nil, .nil⟩
  | cons x _ ih =>
    cases r with
    | cons h t =>
      obtain ⟨ys, p, q⟩ := ih t
      exact ⟨_, .cons _ p, .cons h q⟩
  | swap x y l =>
    cases r with
    | cons h t =>
      cases t with
      | cons h' t' => exact ⟨_, .swap _ _ _, .cons h' (.cons h t')⟩
  | trans _ _ ih1 ih2 =>
    obtain ⟨ys, p1, q1⟩ := ih2 r
    obtain ⟨zs, p2, q2⟩ := ih1 q1
    exact ⟨zs, p2.trans p1, q2⟩
theorem call_sortedT {X : Cx} : CallR X (.builtin "sorted") (fun xs H Q => ∃ (p : Addr) (rs : List V) (nss : List (List Int)), xs = [.ref p] ∧ H p = some (.lst rs) ∧ TupsAt H rs (nss.map fun ns => ns.map V.int) ∧ (∀ ns ∈ nss, ns ≠ []) ∧ rs.length ≤ 1000000 ∧
    ∀ (l : Addr) (ys : List V) (mss : List (List Int)), H l = none → mss.Perm nss → TupsAt H ys (mss.map fun ns => ns.map V.int) → mss.Pairwise (fun a b => ¬ b < a) → Q (.ref l) (upd H l (.lst ys))) := by
  intro pins s σ H xs us Q I r h
  obtain ⟨p, rs, nss, rfl, hp, tp, hne, hz, q⟩ := h
  obtain ⟨u, rfl, rx⟩ := vals1 r
  cases rx
  obtain ⟨its, r', pl, _⟩ := I.list (SqL.of (K := X.K) hp)
  have hlen := r'.length
  have tup : ∀ (a : Addr) (ns : List Int), H a = some (.tup (ns.map V.int)) → ∃ items : Array Value, IsTup s.heap a items ∧ IntsAre items.toList ns := fun a ns e => by
    obtain ⟨it2, r2, p2, _⟩ := I.tuple (SqT.of (K := X.K) e)
    exact ⟨it2.toArray, p2, intsAre_of r2⟩
  have dt : ∀ (zs : List V) (ws : List Value) (mss : List (List Int)), Vals zs ws → TupsAt H zs (mss.map fun ns => ns.map V.int) → (∀ ns ∈ mss, ns ≠ []) → ∀ (j : Nat) (v : Value), ws[j]? = some v → ∃ ns, mss[j]? = some ns ∧ DT s.heap (v, v) ∧ keyT s.heap (v, v) = ns := fun zs ws mss rv tv hn j v hv => by
    have hj : j < zs.length := by rw [rv.length]; exact (List.getElem?_eq_some_iff.mp hv).1
    have g : zs[j]? = some zs[j] := List.getElem?_eq_getElem hj
    obtain ⟨a, vs, e1, e2, e3⟩ := tv.get g
    rw [List.getElem?_map] at e3
    cases em : mss[j]? with
    | none => rw [em] at e3; cases e3
    | some ns =>
      rw [em] at e3
      cases e3
      obtain ⟨u', hu', ru'⟩ := rv.get g
      rw [hv] at hu'
      cases hu'
      rw [e1] at ru'
      cases ru'
      obtain ⟨items, ti, ii⟩ := tup a ns e2
      exact ⟨ns, rfl, ⟨a, items, ns, rfl, ti, ii, hn ns (List.mem_of_getElem? em)⟩, keyT_at rfl ti ii⟩
  have all : ∀ v ∈ its, DT s.heap (v, v) := fun v hv => by
    obtain ⟨j, hj⟩ := List.getElem?_of_mem hv
    obtain ⟨ns, _, d, _⟩ := dt rs its nss r' tp hne j v hj
    exact d
  have keep : ∀ b o, s.heap.get? b = some o → (inSort (ahead s its) (s.heap.objs.size + 1) its).heap.get? b = some o := fun b o e => sort_keep e
  refine sorted_any (O := ordL) (key := keyT (inSort (ahead s its) (s.heap.objs.size + 1) its).heap) (knd := tuples' true) (D := DT (inSort (ahead s its) (s.heap.objs.size + 1) its).heap) pl.isList (by omega) (fun h2 A' E' => kind_tups h2 fun v hv => (dt_keep keep (all v hv)).1) (fun A' E' => lt_tups) (fun v hv => (dt_keep keep (all v hv)).1) fun out po so => ?_
  obtain ⟨ys, py, ry⟩ := perm_pair r' po
  obtain ⟨wss, pw, tw⟩ := perm_tups tp py
  obtain ⟨mss, pm, rfl⟩ : ∃ mss : List (List Int), mss.Perm nss ∧ wss = mss.map fun ns => ns.map V.int := by
    obtain ⟨mss, e⟩ : ∃ mss : List (List Int), wss = mss.map fun ns => ns.map V.int := by
      have : ∀ x ∈ wss, ∃ ns : List Int, x = ns.map V.int := fun x hx => by
        obtain ⟨ns, _, e⟩ := List.mem_map.mp (pw.mem_iff.mp hx)
        exact ⟨ns, e.symm⟩
      clear pw tw
      induction wss with
      | nil => exact ⟨[], rfl⟩
      | cons x r ih =>
        obtain ⟨ns, e1⟩ := this x List.mem_cons_self
        obtain ⟨mss, e2⟩ := ih fun y hy => this y (List.mem_cons_of_mem _ hy)
        exact ⟨ns :: mss, by rw [List.map_cons, ← e1, ← e2]⟩
    refine ⟨mss, ?_, e⟩
    rw [e] at pw
    have := pw.map (fun x : List V => x.map fun v => match v with | V.int n => n | _ => 0)
    simpa [List.map_map, Function.comp_def] using this
  obtain ⟨e', he'⟩ := sortedAll_at s.heap its out.toArray
  have ln : ys.length ≤ sizeLine := by
    have := py.length_eq
    have : (1000000 : Nat) ≤ sizeLine := by decide
    omega
  refine ⟨.ref (s.heap.objs.size + 1), _, I.laid (t' := s.toks) (fun b o e => sortedAll_old e) (Nat.le_succ _) (show ObjOk X.prog X.w _ _ _ (.lst ys) from ⟨ln, out, e', ry, he'⟩), rfl, q _ ys mss (I.hok.fresh (Nat.le_succ _)) pm tw ?_⟩
  refine List.pairwise_iff_getElem.mpr fun i j hi hj hij => ?_
  have ly : out.length = mss.length := by rw [← ry.length, tw.len, List.length_map]
  have hne' : ∀ ns ∈ mss, ns ≠ [] := fun ns hn => hne ns (pm.mem_iff.mp hn)
  obtain ⟨n1, a1, a2, a3⟩ := dt ys out mss ry tw hne' i out[i] (List.getElem?_eq_getElem (by omega))
  obtain ⟨n2, b1, b2, b3⟩ := dt ys out mss ry tw hne' j out[j] (List.getElem?_eq_getElem (by omega))
  have := List.pairwise_iff_getElem.mp so i j (by omega) (by omega) hij
  have this : decide (keyT (inSort (ahead s its) (s.heap.objs.size + 1) its).heap (out[j], out[j]) < keyT (inSort (ahead s its) (s.heap.objs.size + 1) its).heap (out[i], out[i])) = false := this
  rw [(dt_keep keep a2).2, (dt_keep keep b2).2, a3, b3] at this
  rw [List.getElem?_eq_getElem hi] at a1
  rw [List.getElem?_eq_getElem hj] at b1
  cases a1
  cases b1
  exact of_decide_eq_false this
end L2
namespace RW
/-! ### begins and ends in their order -/
structure Chg where
  h : Int
  b : Bool
  p : Nat
def Chg.lt (c d : Chg) : Prop := c.h < d.h ∨ (c.h = d.h ∧ (c.b = true → d.b = true))
def begOf (ws : List (Int × Int)) (k : Nat) : Chg := ⟨(ws.getD k (0, 0)).1, true, k⟩
def endOf (ws : List (Int × Int)) (k : Nat) : Chg := ⟨(ws.getD k (0, 0)).2, false, k⟩
structure Swp (ws : List (Int × Int)) (L : List Chg) : Prop where
  perm : L.Perm ((List.range ws.length).map (begOf ws) ++ (List.range ws.length).map (endOf ws))
  ord : L.Pairwise Chg.lt
  pos : ∀ x ∈ ws, x.1 < x.2
def cnt (L : List Chg) : Int := (L.countP (·.b) : Int) - (L.countP (fun c => !c.b) : Int)
theorem cnt_snoc (L : List Chg) (c : Chg) : cnt (L ++ [c]) = cnt L + if c.b then 1 else -1 := by
  unfold cnt
  rw [List.countP_append, List.countP_append]
  cases h : c.b <;> simp [h] <;> omega
theorem countP_split {α : Type} (l : List α) (p q : α → Bool) (hq : ∀ x ∈ l, q x = true → p x = true) : l.countP p = l.countP (fun x => p x && !q x) + l.countP q := by
  induction l with
  | nil => rfl
  | cons a l ih =>
    have ih := ih fun x hx => hq x (List.mem_cons_of_mem _ hx)
    have ha := hq a List.mem_cons_self
    rw [List.countP_cons, List.countP_cons, List.countP_cons, ih]
    cases h1 : p a <;> cases h2 : q a <;> simp_all <;> omega
theorem getD_range {ws : List (Int × Int)} {k : Nat} (h : k ∈ List.range ws.length) : ws[k]? = some (ws.getD k (0, 0)) := by
  have := List.mem_range.mp h
  rw [List.getD_eq_getElem?_getD, List.getElem?_eq_getElem this]; rfl
namespace Swp
variable {ws : List (Int × Int)} {L : List Chg}
theorem starts (s : Swp ws L) (h : Int) : L.countP (fun c => c.b && decide (c.h ≤ h)) = (List.range ws.length).countP (fun k => decide ((ws.getD k (0, 0)).1 ≤ h)) := by
  rw [s.perm.countP_eq, List.countP_append, List.countP_map, List.countP_map]
  have e : List.countP ((fun c : Chg => c.b && decide (c.h ≤ h)) ∘ endOf ws) (List.range ws.length) = 0 := List.countP_eq_zero.mpr fun k _ => by simp [endOf]
  rw [e, Nat.add_zero]
  refine List.countP_congr fun k _ => ?_
  simp [begOf]
theorem stops (s : Swp ws L) (h : Int) : L.countP (fun c => !c.b && decide (c.h ≤ h)) = (List.range ws.length).countP (fun k => decide ((ws.getD k (0, 0)).2 ≤ h)) := by
  rw [s.perm.countP_eq, List.countP_append, List.countP_map, List.countP_map]
  have e : List.countP ((fun c : Chg => !c.b && decide (c.h ≤ h)) ∘ begOf ws) (List.range ws.length) = 0 := List.countP_eq_zero.mpr fun k _ => by simp [begOf]
  rw [e, Nat.zero_add]
  refine List.countP_congr fun k _ => ?_
  simp [endOf]
theorem at_hour (s : Swp ws L) (h : Int) : ((cntN ws ws.length h : Nat) : Int) = (L.countP (fun c => c.b && decide (c.h ≤ h)) : Int) - (L.countP (fun c => !c.b && decide (c.h ≤ h)) : Int) := by
  rw [s.starts, s.stops]
  have key := countP_split (List.range ws.length) (fun k => decide ((ws.getD k (0, 0)).1 ≤ h)) (fun k => decide ((ws.getD k (0, 0)).2 ≤ h)) fun k hk e => by
    have := s.pos _ (List.mem_of_getElem? (getD_range hk))
    have := of_decide_eq_true e
    exact decide_eq_true (by omega)
  have e : cntN ws ws.length h = (List.range ws.length).countP (fun k => decide ((ws.getD k (0, 0)).1 ≤ h) && !decide ((ws.getD k (0, 0)).2 ≤ h)) := by
    unfold cntN placesN
    rw [← List.countP_eq_length_filter]
    refine List.countP_congr fun k hk => ?_
    unfold atW
    rw [getD_range hk]
    unfold inW
    simp only [Bool.and_eq_true, decide_eq_true_eq, Bool.not_eq_true', decide_eq_false_iff_not]
    omega
  rw [e]
  omega
theorem le_hour (s : Swp ws L) {i : Nat} {c : Chg} (hi : L[i]? = some c) (hb : c.b = true) : cnt (L.take (i + 1)) ≤ (cntN ws ws.length c.h : Nat) := by
  rw [s.at_hour]
  unfold cnt
  have sp : L = L.take i ++ c :: L.drop (i + 1) := by
    have h1 := (List.getElem?_eq_some_iff.mp hi)
    obtain ⟨h, e⟩ := h1
    rw [← e]
    rw [← List.drop_eq_getElem_cons h, List.take_append_drop]
  have o := s.ord
  rw [sp, List.pairwise_append] at o
  obtain ⟨_, o2, o3⟩ := o
  rw [List.pairwise_cons] at o2
  have tk : L.take (i + 1) = L.take i ++ [c] := by rw [List.take_add_one, hi]; rfl
  have h1 : (L.take (i + 1)).countP (·.b) ≤ L.countP (fun c' => c'.b && decide (c'.h ≤ c.h)) := by
    have : (L.take (i + 1)).countP (·.b) = (L.take (i + 1)).countP (fun c' => c'.b && decide (c'.h ≤ c.h)) := by
      refine List.countP_congr fun d hd => ?_
      have : d.h ≤ c.h := by
        rw [tk] at hd
        rcases List.mem_append.mp hd with hd | hd
        · have := o3 d hd c List.mem_cons_self
          unfold Chg.lt at this
          omega
        · rw [List.mem_singleton.mp hd]; exact Int.le_refl _
      simp [this]
    rw [this]
    exact (List.take_sublist _ _).countP_le
  have h2 : L.countP (fun c' => !c'.b && decide (c'.h ≤ c.h)) ≤ (L.take (i + 1)).countP (fun c => !c.b) := by
    have e : L.countP (fun c' => !c'.b && decide (c'.h ≤ c.h)) = (L.take (i + 1)).countP (fun c' => !c'.b && decide (c'.h ≤ c.h)) + (L.drop (i + 1)).countP (fun c' => !c'.b && decide (c'.h ≤ c.h)) := by
      rw [← List.countP_append, List.take_append_drop]
    have z : (L.drop (i + 1)).countP (fun c' => !c'.b && decide (c'.h ≤ c.h)) = 0 := List.countP_eq_zero.mpr fun d hd => by
      have := o2.1 d hd
      unfold Chg.lt at this
      rcases this with this | ⟨h1, h2⟩
      · simp; intro _; omega
      · simp [h2 hb]
    rw [e, z, Nat.add_zero]
    exact List.countP_mono_left fun d _ h => by
      simp only [Bool.and_eq_true] at h
      exact h.1
  omega
theorem cut : ∀ {L : List Chg}, L.Pairwise Chg.lt → ∀ h : Int, ∃ k, k ≤ L.length ∧ (∀ c ∈ L.take k, c.h ≤ h) ∧ ∀ c ∈ L.drop k, h < c.h
  | [], _, h => ⟨0, Nat.le_refl _, by simp, by simp⟩
  | c :: L, o, h => by
    rw [List.pairwise_cons] at o
    by_cases z : c.h ≤ h
    · obtain ⟨k, h1, h2, h3⟩ := cut o.2 h
      refine ⟨k + 1, Nat.succ_le_succ h1, fun d hd => ?_, fun d hd => h3 d hd⟩
      rw [List.take_succ_cons] at hd
      rcases List.mem_cons.mp hd with rfl | hd
      · exact z
      · exact h2 d hd
    · refine ⟨0, Nat.zero_le _, by simp, fun d hd => ?_⟩
      rw [List.drop_zero] at hd
      rcases List.mem_cons.mp hd with rfl | hd
      · omega
      · have := o.1 d hd
        unfold Chg.lt at this
        omega
theorem hour_cut (s : Swp ws L) (h : Int) : ∃ k, k ≤ L.length ∧ cnt (L.take k) = (cntN ws ws.length h : Nat) := by
  obtain ⟨k, h1, h2, h3⟩ := cut s.ord h
  refine ⟨k, h1, ?_⟩
  rw [s.at_hour]
  unfold cnt
  have part : ∀ f : Chg → Bool, L.countP (fun c => f c && decide (c.h ≤ h)) = (L.take k).countP f := fun f => by
    have e : L.countP (fun c => f c && decide (c.h ≤ h)) = (L.take k).countP (fun c => f c && decide (c.h ≤ h)) + (L.drop k).countP (fun c => f c && decide (c.h ≤ h)) := by
      rw [← List.countP_append, List.take_append_drop]
    have z : (L.drop k).countP (fun c => f c && decide (c.h ≤ h)) = 0 := List.countP_eq_zero.mpr fun d hd => by
      have := h3 d hd
      simp; intro _; omega
    rw [e, z, Nat.add_zero]
    refine List.countP_congr fun d hd => ?_
    have := h2 d hd
    simp [this]
  rw [part (·.b), part (fun c => !c.b)]
end Swp
end RW
namespace RW
/-! ### rooms taken and given back -/
structure Sh where
  rooms : List Int
  idle : List Int
  known : Int
def Sh.step (s : Sh) (c : Chg) : Sh :=
  if c.b then (match s.idle.getLast? with
    | some r => ⟨s.rooms.set c.p r, s.idle.dropLast, s.known⟩
    | none => ⟨s.rooms.set c.p s.known, s.idle, s.known + 1⟩)
  else ⟨s.rooms, s.idle ++ [s.rooms.getD c.p 0], s.known⟩
def Begun (T : List Chg) (p : Nat) : Prop := ∃ c ∈ T, c.b = true ∧ c.p = p
def Over (T : List Chg) (p : Nat) : Prop := ∃ c ∈ T, c.b = false ∧ c.p = p
def Share (ws : List (Int × Int)) (p q : Nat) : Prop := ∃ h : Int, ((ws.getD p (0, 0)).1 ≤ h ∧ h < (ws.getD p (0, 0)).2) ∧ (ws.getD q (0, 0)).1 ≤ h ∧ h < (ws.getD q (0, 0)).2
structure ShOk (ws : List (Int × Int)) (L : List Chg) (i : Nat) (s : Sh) : Prop where
  len : s.rooms.length = ws.length
  pos : 0 ≤ s.known
  idle : ∀ r ∈ s.idle, 0 ≤ r ∧ r < s.known
  lt : ∀ p, Begun (L.take i) p → 0 ≤ s.rooms.getD p 0 ∧ s.rooms.getD p 0 < s.known
  nd : s.idle.Nodup
  d1 : ∀ p, Begun (L.take i) p → ¬ Over (L.take i) p → s.rooms.getD p 0 ∉ s.idle
  d2 : ∀ p q, p ≠ q → Begun (L.take i) p → ¬ Over (L.take i) p → Begun (L.take i) q → ¬ Over (L.take i) q → s.rooms.getD p 0 ≠ s.rooms.getD q 0
  used : ∀ r, 0 ≤ r → r < s.known → ∃ p, Begun (L.take i) p ∧ s.rooms.getD p 0 = r
  apart : ∀ p q, p ≠ q → Begun (L.take i) p → Begun (L.take i) q → Share ws p q → s.rooms.getD p 0 ≠ s.rooms.getD q 0
  num : cnt (L.take i) + (s.idle.length : Int) = s.known
  all : ∀ j, j ≤ i → cnt (L.take j) ≤ s.known
  top : s.known = 0 ∨ ∃ h, s.known ≤ (cntN ws ws.length h : Nat)
namespace Swp
variable {ws : List (Int × Int)} {L : List Chg}
theorem mem (s : Swp ws L) {c : Chg} (h : c ∈ L) : c.p < ws.length ∧ c = if c.b then begOf ws c.p else endOf ws c.p := by
  have := s.perm.mem_iff.mp h
  rcases List.mem_append.mp this with z | z
  · obtain ⟨k, hk, rfl⟩ := List.mem_map.mp z
    exact ⟨List.mem_range.mp hk, rfl⟩
  · obtain ⟨k, hk, rfl⟩ := List.mem_map.mp z
    exact ⟨List.mem_range.mp hk, rfl⟩
theorem mem_beg (s : Swp ws L) {p : Nat} (h : p < ws.length) : begOf ws p ∈ L := s.perm.mem_iff.mpr (List.mem_append_left _ (List.mem_map.mpr ⟨p, List.mem_range.mpr h, rfl⟩))
theorem nodup (s : Swp ws L) : L.Nodup := by
  refine s.perm.nodup_iff.mpr (List.nodup_append.mpr ⟨?_, ?_, ?_⟩)
  · refine List.pairwise_map.mpr (List.nodup_range.imp fun h e => h ?_)
    have := congrArg Chg.p e
    exact this
  · refine List.pairwise_map.mpr (List.nodup_range.imp fun h e => h ?_)
    have := congrArg Chg.p e
    exact this
  · intro a ha b hb e
    obtain ⟨k, _, rfl⟩ := List.mem_map.mp ha
    obtain ⟨j, _, rfl⟩ := List.mem_map.mp hb
    have := congrArg Chg.b e
    cases this
theorem split {i : Nat} {c : Chg} (hi : L[i]? = some c) : L = L.take i ++ c :: L.drop (i + 1) := by
  obtain ⟨h, e⟩ := List.getElem?_eq_some_iff.mp hi
  rw [← e, ← List.drop_eq_getElem_cons h, List.take_append_drop]
theorem ahead (s : Swp ws L) {i : Nat} {c d : Chg} (hi : L[i]? = some c) (hd : d ∈ L.take i) : Chg.lt d c := by
  have o := s.ord
  rw [split hi, List.pairwise_append] at o
  exact o.2.2 d hd c List.mem_cons_self
theorem behind (s : Swp ws L) {i : Nat} {c d : Chg} (hi : L[i]? = some c) (hd : d ∈ L.drop (i + 1)) : Chg.lt c d := by
  have o := s.ord
  rw [split hi, List.pairwise_append, List.pairwise_cons] at o
  exact o.2.1.1 d hd
theorem new (s : Swp ws L) {i : Nat} {c : Chg} (hi : L[i]? = some c) : c ∉ L.take i := by
  have o := s.nodup
  rw [split hi] at o
  exact fun h => (List.nodup_append.mp o).2.2 c h c List.mem_cons_self rfl
theorem posD (s : Swp ws L) {p : Nat} (h : p < ws.length) : (ws.getD p (0, 0)).1 < (ws.getD p (0, 0)).2 := s.pos _ (List.mem_of_getElem? (getD_range (List.mem_range.mpr h)))
theorem begun_beg (s : Swp ws L) {i p : Nat} (h : Begun (L.take i) p) : p < ws.length ∧ begOf ws p ∈ L.take i := by
  obtain ⟨c, hc, hb, rfl⟩ := h
  obtain ⟨h1, h2⟩ := s.mem (List.mem_of_mem_take hc)
  rw [hb] at h2
  have h2 : c = begOf ws c.p := h2
  exact ⟨h1, h2 ▸ hc⟩
theorem over_end (s : Swp ws L) {i p : Nat} (h : Over (L.take i) p) : p < ws.length ∧ endOf ws p ∈ L.take i := by
  obtain ⟨c, hc, hb, rfl⟩ := h
  obtain ⟨h1, h2⟩ := s.mem (List.mem_of_mem_take hc)
  rw [hb] at h2
  have h2 : c = endOf ws c.p := h2
  exact ⟨h1, h2 ▸ hc⟩
theorem at_beg (s : Swp ws L) {i : Nat} {c : Chg} (hi : L[i]? = some c) (hb : c.b = true) : c.p < ws.length ∧ c = begOf ws c.p ∧ ¬ Begun (L.take i) c.p ∧ ¬ Over (L.take i) c.p := by
  obtain ⟨h1, h2⟩ := s.mem (List.mem_of_getElem? hi)
  rw [hb] at h2
  have h2 : c = begOf ws c.p := h2
  refine ⟨h1, h2, fun z => ?_, fun z => ?_⟩
  · exact s.new hi (h2 ▸ (s.begun_beg z).2)
  · have := s.ahead hi (s.over_end z).2
    have p := s.posD h1
    rw [h2] at this
    unfold Chg.lt begOf endOf at this
    simp only at this
    omega
theorem at_end (s : Swp ws L) {i : Nat} {c : Chg} (hi : L[i]? = some c) (hb : c.b = false) : c.p < ws.length ∧ c = endOf ws c.p ∧ Begun (L.take i) c.p ∧ ¬ Over (L.take i) c.p := by
  obtain ⟨h1, h2⟩ := s.mem (List.mem_of_getElem? hi)
  rw [hb] at h2
  have h2 : c = endOf ws c.p := h2
  refine ⟨h1, h2, ?_, fun z => ?_⟩
  · have m := s.mem_beg h1
    rw [split hi] at m
    rcases List.mem_append.mp m with m | m
    · exact ⟨_, m, rfl, rfl⟩
    · rcases List.mem_cons.mp m with m | m
      · have := congrArg Chg.b m
        rw [hb] at this
        cases this
      · have := s.behind hi m
        have p := s.posD h1
        rw [h2] at this
        unfold Chg.lt begOf endOf at this
        simp only at this
        omega
  · exact s.new hi (h2 ▸ (s.over_end z).2)
theorem over_apart (s : Swp ws L) {i : Nat} {c : Chg} (hi : L[i]? = some c) (hb : c.b = true) {p : Nat} (ho : Over (L.take i) p) : ¬ Share ws p c.p ∧ ¬ Share ws c.p p := by
  have := s.ahead hi (s.over_end ho).2
  obtain ⟨_, h2, _⟩ := s.at_beg hi hb
  rw [h2] at this
  unfold Chg.lt begOf endOf at this
  simp only at this
  constructor
  · rintro ⟨h, h3, h4⟩; omega
  · rintro ⟨h, h3, h4⟩; omega
end Swp
theorem begun_snoc {T : List Chg} {c : Chg} {p : Nat} : Begun (T ++ [c]) p ↔ Begun T p ∨ (c.b = true ∧ c.p = p) := by
  unfold Begun
  constructor
  · rintro ⟨d, hd, h⟩
    rcases List.mem_append.mp hd with z | z
    · exact .inl ⟨d, z, h⟩
    · rw [List.mem_singleton.mp z] at h; exact .inr h
  · rintro (⟨d, hd, h⟩ | h)
    · exact ⟨d, List.mem_append_left _ hd, h⟩
    · exact ⟨c, List.mem_append_right _ List.mem_cons_self, h⟩
theorem over_snoc {T : List Chg} {c : Chg} {p : Nat} : Over (T ++ [c]) p ↔ Over T p ∨ (c.b = false ∧ c.p = p) := by
  unfold Over
  constructor
  · rintro ⟨d, hd, h⟩
    rcases List.mem_append.mp hd with z | z
    · exact .inl ⟨d, z, h⟩
    · rw [List.mem_singleton.mp z] at h; exact .inr h
  · rintro (⟨d, hd, h⟩ | h)
    · exact ⟨d, List.mem_append_left _ hd, h⟩
    · exact ⟨c, List.mem_append_right _ List.mem_cons_self, h⟩
theorem getD_set {l : List Int} {i j : Nat} {v : Int} (h : i < l.length) : (l.set i v).getD j 0 = if j = i then v else l.getD j 0 := by
  rw [List.getD_eq_getElem?_getD, List.getD_eq_getElem?_getD, List.getElem?_set]
  by_cases e : i = j
  · subst e; simp [h]
  · rw [if_neg e, if_neg (fun z => e z.symm)]
theorem ShOk.start {ws : List (Int × Int)} {L : List Chg} (rooms : List Int) (h : rooms.length = ws.length) : ShOk ws L 0 ⟨rooms, [], 0⟩ := by
  have nb : ∀ p, ¬ Begun (L.take 0) p := fun p ⟨c, hc, _⟩ => by rw [List.take_zero] at hc; cases hc
  refine ⟨h, Int.le_refl _, by simp, fun p hp => absurd hp (nb p), List.nodup_nil, fun p hp => absurd hp (nb p), fun p q _ hp => absurd hp (nb p), fun r h0 h1 => ?_, fun p q _ hp => absurd hp (nb p), by rw [List.take_zero]; rfl, fun j hj => ?_, .inl rfl⟩
  · exact absurd (show r < 0 from h1) (by omega)
  · rw [Nat.le_zero.mp hj, List.take_zero]; exact Int.le_refl _
theorem ShOk.take {ws : List (Int × Int)} {L : List Chg} (sw : Swp ws L) {i : Nat} {s : Sh} {c : Chg} (o : ShOk ws L i s) (hi : L[i]? = some c) (hb : c.b = true) (r known : Int) (idle : List Int)
    (hk : s.known ≤ known) (h0 : 0 ≤ r ∧ r < known) (hi0 : ∀ x ∈ idle, x ∈ s.idle ∧ x ≠ r) (hnd : idle.Nodup) (hop : ∀ p, Begun (L.take i) p → ¬ Over (L.take i) p → s.rooms.getD p 0 ≠ r)
    (hu : ∀ x, 0 ≤ x → x < known → x = r ∨ x < s.known) (hold : s.known ≤ r ∨ r ∈ s.idle) (hn : cnt (L.take i) + 1 + (idle.length : Int) = known) (ht : known = 0 ∨ ∃ h, known ≤ (cntN ws ws.length h : Nat)) (hidle : ∀ x ∈ s.idle, x = r ∨ x ∈ idle) : ShOk ws L (i + 1) ⟨s.rooms.set c.p r, idle, known⟩ := by
  obtain ⟨hp, hc, nb, no⟩ := sw.at_beg hi hb
  have tk : L.take (i + 1) = L.take i ++ [c] := by rw [List.take_add_one, hi]; rfl
  have gd : ∀ j, (s.rooms.set c.p r).getD j 0 = if j = c.p then r else s.rooms.getD j 0 := fun j => getD_set (by rw [o.len]; exact hp)
  have bg : ∀ p, Begun (L.take (i + 1)) p → p = c.p ∨ (p ≠ c.p ∧ Begun (L.take i) p) := fun p h => by
    rw [tk] at h
    rcases begun_snoc.mp h with z | z
    · exact .inr ⟨fun e => nb (e ▸ z), z⟩
    · exact .inl z.2.symm
  have ov : ∀ p, ¬ Over (L.take (i + 1)) p → ¬ Over (L.take i) p := fun p h z => h (by rw [tk]; exact over_snoc.mpr (.inl z))
  have ov' : ∀ p, Over (L.take (i + 1)) p → Over (L.take i) p := fun p h => by
    rw [tk] at h
    rcases over_snoc.mp h with z | z
    · exact z
    · rw [hb] at z; cases z.1
  have cn : cnt (L.take (i + 1)) = cnt (L.take i) + 1 := by rw [tk, cnt_snoc, hb]; rfl
  refine ⟨by show (s.rooms.set c.p r).length = _; rw [List.length_set]; exact o.len, by show 0 ≤ known; omega, fun x hx => ?_, fun p h => ?_, hnd, fun p h1 h2 => ?_, fun p q ne h1 h2 h3 h4 => ?_, fun x h1 h2 => ?_, fun p q ne h1 h2 sh => ?_, ?_, fun j hj => ?_, ht⟩
  · have := o.idle x (hi0 x hx).1
    show 0 ≤ x ∧ x < known
    omega
  · show 0 ≤ (s.rooms.set c.p r).getD p 0 ∧ (s.rooms.set c.p r).getD p 0 < known
    rw [gd]
    rcases bg p h with z | ⟨z, z'⟩
    · rw [if_pos z]; exact h0
    · rw [if_neg z]
      have := o.lt p z'
      omega
  · show (s.rooms.set c.p r).getD p 0 ∉ idle
    rw [gd]
    rcases bg p h1 with z | ⟨z, z'⟩
    · rw [if_pos z]; exact fun y => (hi0 r y).2 rfl
    · rw [if_neg z]; exact fun y => o.d1 p z' (ov p h2) (hi0 _ y).1
  · show (s.rooms.set c.p r).getD p 0 ≠ (s.rooms.set c.p r).getD q 0
    rw [gd, gd]
    rcases bg p h1 with z | ⟨z, z'⟩
    · rw [if_pos z]
      rcases bg q h3 with y | ⟨y, y'⟩
      · exact absurd (z.trans y.symm) ne
      · rw [if_neg y]; exact fun e => hop q y' (ov q h4) e.symm
    · rw [if_neg z]
      rcases bg q h3 with y | ⟨y, y'⟩
      · rw [if_pos y]; exact hop p z' (ov p h2)
      · rw [if_neg y]; exact o.d2 p q ne z' (ov p h2) y' (ov q h4)
  · have h2 : x < known := h2
    rcases hu x h1 h2 with e | e
    · refine ⟨c.p, ?_, ?_⟩
      · rw [tk]; exact begun_snoc.mpr (.inr ⟨hb, rfl⟩)
      · show (s.rooms.set c.p r).getD c.p 0 = x
        rw [gd, if_pos rfl, e]
    · obtain ⟨p, h3, h4⟩ := o.used x h1 e
      refine ⟨p, by rw [tk]; exact begun_snoc.mpr (.inl h3), ?_⟩
      show (s.rooms.set c.p r).getD p 0 = x
      rw [gd, if_neg (fun z : p = c.p => nb (z ▸ h3)), h4]
  · show (s.rooms.set c.p r).getD p 0 ≠ (s.rooms.set c.p r).getD q 0
    rw [gd, gd]
    rcases bg p h1 with z | ⟨z, z'⟩
    · rw [if_pos z]
      rcases bg q h2 with y | ⟨y, y'⟩
      · exact absurd (z.trans y.symm) ne
      · rw [if_neg y]
        by_cases w : Over (L.take i) q
        · exact absurd (z ▸ sh) (sw.over_apart hi hb w).2
        · exact fun e => hop q y' w e.symm
    · rw [if_neg z]
      rcases bg q h2 with y | ⟨y, y'⟩
      · rw [if_pos y]
        by_cases w : Over (L.take i) p
        · exact absurd (y ▸ sh) (sw.over_apart hi hb w).1
        · exact hop p z' w
      · rw [if_neg y]; exact o.apart p q ne z' y' sh
  · show cnt (L.take (i + 1)) + (idle.length : Int) = known
    rw [cn]; omega
  · show cnt (L.take j) ≤ known
    by_cases z : j ≤ i
    · have := o.all j z; omega
    · rw [show j = i + 1 by omega, cn]
      omega
theorem ShOk.step {ws : List (Int × Int)} {L : List Chg} (sw : Swp ws L) {i : Nat} {s : Sh} {c : Chg} (o : ShOk ws L i s) (hi : L[i]? = some c) : ShOk ws L (i + 1) (s.step c) := by
  have tk : L.take (i + 1) = L.take i ++ [c] := by rw [List.take_add_one, hi]; rfl
  unfold Sh.step
  cases hb : c.b with
  | true =>
    rw [if_pos rfl]
    have cn : cnt (L.take (i + 1)) = cnt (L.take i) + 1 := by rw [tk, cnt_snoc, hb]; rfl
    have le := sw.le_hour hi hb
    have num := o.num
    cases hl : s.idle.getLast? with
    | some r =>
      dsimp only
      have ne : s.idle ≠ [] := fun e => by rw [e] at hl; cases hl
      have hr : s.idle.getLast ne = r := by rw [List.getLast?_eq_some_getLast ne] at hl; exact Option.some.inj hl
      have sp : s.idle = s.idle.dropLast ++ [r] := by rw [← hr]; exact (List.dropLast_concat_getLast ne).symm
      have nd := o.nd
      rw [sp] at nd
      have nd' := List.nodup_append.mp nd
      have hm : r ∈ s.idle := by rw [sp]; simp
      have ln : (s.idle.length : Int) = (s.idle.dropLast.length : Int) + 1 := by
        have := congrArg List.length sp
        rw [List.length_append] at this
        simp only [List.length_cons, List.length_nil] at this
        omega
      refine o.take sw hi hb r s.known s.idle.dropLast (Int.le_refl _) (o.idle r hm) (fun x hx => ⟨by rw [sp]; exact List.mem_append_left _ hx, fun e => nd'.2.2 x hx r (by simp) e⟩) nd'.1 (fun p h1 h2 e => o.d1 p h1 h2 (e ▸ hm)) (fun x _ h => .inr h) (.inr hm) (by omega) o.top fun x hx => ?_
      rw [sp] at hx
      rcases List.mem_append.mp hx with z | z
      · exact .inr z
      · exact .inl (List.mem_singleton.mp z)
    | none =>
      dsimp only
      have e : s.idle = [] := List.getLast?_eq_none_iff.mp hl
      rw [e] at num
      simp only [List.length_nil] at num
      have pos := o.pos
      refine o.take sw hi hb s.known (s.known + 1) s.idle (by omega) (by omega) (fun x hx => by rw [e] at hx; cases hx) o.nd (fun p h1 _ e => by have := (o.lt p h1).2; omega) (fun x _ h => by omega) (.inl (Int.le_refl _)) (by rw [e]; simp only [List.length_nil]; omega) (.inr ⟨c.h, by omega⟩) (fun x hx => by rw [e] at hx; cases hx)
  | false =>
    rw [if_neg Bool.false_ne_true]
    obtain ⟨hp, hc, bg, no⟩ := sw.at_end hi hb
    have cn : cnt (L.take (i + 1)) = cnt (L.take i) - 1 := by rw [tk, cnt_snoc, hb]; rfl
    have bg' : ∀ p, Begun (L.take (i + 1)) p → Begun (L.take i) p := fun p h => by
      rw [tk] at h
      rcases begun_snoc.mp h with z | z
      · exact z
      · rw [hb] at z; cases z.1
    have ov : ∀ p, ¬ Over (L.take (i + 1)) p → ¬ Over (L.take i) p ∧ p ≠ c.p := fun p h => ⟨fun z => h (by rw [tk]; exact over_snoc.mpr (.inl z)), fun z => h (by rw [tk]; exact over_snoc.mpr (.inr ⟨hb, z.symm⟩))⟩
    refine ⟨o.len, o.pos, fun x hx => ?_, fun p h => o.lt p (bg' p h), ?_, fun p h1 h2 => ?_, fun p q ne h1 h2 h3 h4 => o.d2 p q ne (bg' p h1) (ov p h2).1 (bg' q h3) (ov q h4).1, fun x h1 h2 => ?_, fun p q ne h1 h2 sh => o.apart p q ne (bg' p h1) (bg' q h2) sh, ?_, fun j hj => ?_, o.top⟩
    · rcases List.mem_append.mp hx with z | z
      · exact o.idle x z
      · rw [List.mem_singleton.mp z]; exact o.lt c.p bg
    · refine List.nodup_append.mpr ⟨o.nd, by simp, fun x hx y hy e => ?_⟩
      rw [List.mem_singleton.mp hy] at e
      exact o.d1 c.p bg no (e ▸ hx)
    · intro z
      rcases List.mem_append.mp z with z | z
      · exact o.d1 p (bg' p h1) (ov p h2).1 z
      · exact o.d2 p c.p (ov p h2).2 (bg' p h1) (ov p h2).1 bg no (List.mem_singleton.mp z)
    · obtain ⟨p, h3, h4⟩ := o.used x h1 h2
      exact ⟨p, by rw [tk]; exact begun_snoc.mpr (.inl h3), h4⟩
    · show cnt (L.take (i + 1)) + ((s.idle ++ [s.rooms.getD c.p 0]).length : Int) = s.known
      rw [cn, List.length_append]
      have := o.num
      simp only [List.length_cons, List.length_nil]
      omega
    · show cnt (L.take j) ≤ s.known
      by_cases z : j ≤ i
      · exact o.all j z
      · rw [show j = i + 1 by omega, cn]
        have := o.num
        omega
theorem ShOk.fin {ws : List (Int × Int)} {L : List Chg} (sw : Swp ws L) {s : Sh} (o : ShOk ws L L.length s) :
    s.rooms.length = ws.length ∧ (∀ p, p < ws.length → 0 ≤ s.rooms.getD p 0 ∧ s.rooms.getD p 0 < s.known) ∧ (∀ p q, p < ws.length → q < ws.length → p ≠ q → Share ws p q → s.rooms.getD p 0 ≠ s.rooms.getD q 0) ∧
    (∀ r, 0 ≤ r → r < s.known → ∃ p, p < ws.length ∧ s.rooms.getD p 0 = r) ∧ (∀ h, (cntN ws ws.length h : Int) ≤ s.known) ∧ (s.known = 0 ∨ ∃ h, s.known ≤ (cntN ws ws.length h : Nat)) := by
  have bg : ∀ p, p < ws.length → Begun (L.take L.length) p := fun p h => by rw [List.take_length]; exact ⟨_, sw.mem_beg h, rfl, rfl⟩
  refine ⟨o.len, fun p h => o.lt p (bg p h), fun p q h1 h2 ne sh => o.apart p q ne (bg p h1) (bg q h2) sh, fun r h0 h1 => ?_, fun h => ?_, o.top⟩
  · obtain ⟨p, h2, h3⟩ := o.used r h0 h1
    exact ⟨p, (sw.begun_beg h2).1, h3⟩
  · obtain ⟨k, h1, h2⟩ := sw.hour_cut h
    rw [← h2]
    exact o.all k h1
end RW
namespace L2
open PySem PySem.Spec PyProof.Rows
/-! ### comprehensions whose items are made anew -/
theorem comp_gen {J : It} {p : Addr} {js : List Nat} {σ : St} {H : Hp} {tc : TT} {te : TE} {Q : VK} {n : Nat} (hn : n ≤ 1000000) (Iv : Nat → List V → Hp → Prop) (Itm : Nat → V → Prop) (h0 : Iv 0 [] (upd H p (.lst [])))
    (hst : ∀ ys H', Iv n ys H' → J.stop n H') (hgo : ∀ i ys H', i < n → Iv i ys H' → J.go i H' ∧ ∀ x H'', J.yld i H' x H'' → H'' = H' ∧ Itm i x) (hlen : ∀ i ys H', Iv i ys H' → ys.length ≤ i)
    (hs : ∀ i ys H' x, i < n → Iv i ys H' → Itm i x → ∀ (N0 : Hp → Prop) (N1 : VK), (∀ H3, Iv (i + 1) ys H3 → N0 H3) → (∀ y H4, H4 p = some (.lst ys) → Iv (i + 1) (ys ++ [y]) (upd H4 p (.lst (ys ++ [y]))) → N1 y H4) →
      tc (some x :: js.map fun j => (σ[j]?).join) H' fun b H3 => if b = true then te (some x :: js.map fun j => (σ[j]?).join) H3 N1 else N0 H3)
    (hd : ∀ ys H', Iv n ys H' → Q (.ref p) H') : CompW J p (startC σ js) (upd H p (.lst [])) tc te Q := by
  refine ⟨fun i m σ' H' => m = n - i ∧ i ≤ n ∧ (∃ v, σ' = v :: js.map fun j => (σ[j]?).join) ∧ ∃ ys, Iv i ys H', ⟨n, by simp, Nat.zero_le _, ⟨none, rfl⟩, [], h0⟩, ?_⟩
  rintro i m σ' H' ⟨rfl, hi, ⟨v, rfl⟩, ys, iv⟩
  by_cases e : i = n
  · subst e
    exact .inl ⟨hst ys H' iv, hd ys H' iv⟩
  · have hlt : i < n := by omega
    obtain ⟨g1, g2⟩ := hgo i ys H' hlt iv
    refine .inr ⟨g1, fun x H'' hy => ?_⟩
    obtain ⟨rfl, hx⟩ := g2 x H'' hy
    refine hs i ys H'' x hlt iv hx _ _ (fun H3 iv3 => ⟨n - (i + 1), by omega, rfl, hlt, ⟨_, rfl⟩, ys, iv3⟩) fun y H4 h4 iv4 => ⟨ys, h4, ?_, n - (i + 1), by omega, rfl, hlt, ⟨_, rfl⟩, _, iv4⟩
    exact small_of (Nat.le_trans (hlen i ys _ iv) (by omega))
theorem perm_of_map {α β : Type} {f : α → β} : ∀ {bs : List β} {as : List α}, bs.Perm (as.map f) → ∃ cs : List α, cs.Perm as ∧ bs = cs.map f := by
  intro bs as p
  generalize e : as.map f = ds at p
  induction p generalizing as with
  | nil =>
    rw [List.map_eq_nil_iff] at e
    subst e
    exact ⟨[], .nil, rfl⟩
  | cons x _ ih =>
    cases as with
    | nil => cases e
    | cons a as =>
      rw [List.map_cons] at e
      injection e with e1 e2
      obtain ⟨cs, p, q⟩ := ih e2
      exact ⟨a :: cs, .cons _ p, by rw [List.map_cons, e1, q]⟩
  | swap x y l =>
    cases as with
    | nil => cases e
    | cons a as =>
      cases as with
      | nil => cases e
      | cons b as =>
        rw [List.map_cons, List.map_cons] at e
        injection e with e1 e2
        injection e2 with e2 e3
        exact ⟨b :: a :: as, .swap _ _ _, by rw [List.map_cons, List.map_cons, e1, e2, e3]⟩
  | trans _ _ ih1 ih2 =>
    obtain ⟨cs, p1, q1⟩ := ih2 e
    obtain ⟨ds, p2, q2⟩ := ih1 q1.symm
    exact ⟨ds, p2.trans p1, q2⟩
end L2
namespace RW
open PySem L2
def kindN (c : Chg) : Int := if c.b then 1 else 0
def chg3 (c : Chg) : List Int := [c.h, kindN c, (c.p : Int)]
def chgVs (c : Chg) : List V := (chg3 c).map V.int
end RW
namespace L2
open PySem
/-! ### a set's table never gives way -/
def Ris (l : List Nat) : Prop := l.Pairwise (· < ·)
theorem below_go {xs : Array Nat} {j : Nat} (r : Ris xs.toList) : ∀ (fuel lo hi : Nat), hi - lo ≤ fuel → lo ≤ hi → hi ≤ xs.size → (∀ i (h : i < xs.size), i < lo → xs[i] < j) → (∀ i (h : i < xs.size), hi ≤ i → j ≤ xs[i]) →
    ∃ b, SetTable.below.go xs j fuel lo hi = b ∧ b ≤ xs.size ∧ (∀ i (h : i < xs.size), i < b → xs[i] < j) ∧ (∀ i (h : i < xs.size), b ≤ i → j ≤ xs[i])
  | 0, lo, hi, h1, h2, h3, h4, h5 => ⟨lo, rfl, by omega, h4, fun i h h' => h5 i h (by omega)⟩
  | fuel + 1, lo, hi, h1, h2, h3, h4, h5 => by
    have mono : ∀ i k (hi : i < xs.size) (hk : k < xs.size), i < k → xs[i] < xs[k] := fun i k hi hk hik => by
      have := List.pairwise_iff_getElem.mp r i k (by simpa using hi) (by simpa using hk) hik
      simpa using this
    unfold SetTable.below.go
    by_cases z : lo < hi
    · rw [if_pos z]
      have hm : (lo + hi) / 2 < xs.size := by omega
      have eg : xs.getD ((lo + hi) / 2) j = xs[(lo + hi) / 2] := by rw [Array.getD_eq_getD_getElem?, Array.getElem?_eq_getElem hm]; rfl
      dsimp only
      rw [eg]
      by_cases y : xs[(lo + hi) / 2] < j
      · rw [if_pos y]
        exact below_go r fuel _ hi (by omega) (by omega) h3 (fun i h h' => by
          by_cases e : i = (lo + hi) / 2
          · subst e; exact y
          · have := mono i ((lo + hi) / 2) h hm (by omega)
            omega) h5
      · rw [if_neg y]
        exact below_go r fuel lo _ (by omega) (by omega) (by omega) h4 (fun i h h' => by
          by_cases e : i = (lo + hi) / 2
          · subst e; omega
          · have := mono ((lo + hi) / 2) i hm h (by omega)
            omega)
    · rw [if_neg z]
      exact ⟨lo, rfl, by omega, h4, fun i h h' => h5 i h (by omega)⟩
theorem below_at {xs : Array Nat} (r : Ris xs.toList) (j : Nat) : SetTable.below xs j ≤ xs.size ∧ (∀ i (h : i < xs.size), i < SetTable.below xs j → xs[i] < j) ∧ (∀ i (h : i < xs.size), SetTable.below xs j ≤ i → j ≤ xs[i]) := by
  obtain ⟨b, e, h1, h2, h3⟩ := below_go (j := j) r xs.size 0 xs.size (by omega) (by omega) (Nat.le_refl _) (fun i h h' => by omega) (fun i h h' => by omega)
  have : SetTable.below xs j = b := e
  rw [this]
  exact ⟨h1, h2, h3⟩
theorem below_item {xs : Array Nat} (r : Ris xs.toList) {i : Nat} (h : i < xs.size) : SetTable.below xs (xs[i] + 1) = i + 1 := by
  obtain ⟨h1, h2, h3⟩ := below_at r (xs[i] + 1)
  have mono : ∀ i k (hi : i < xs.size) (hk : k < xs.size), i < k → xs[i] < xs[k] := fun i k hi hk hik => by
    have := List.pairwise_iff_getElem.mp r i k (by simpa using hi) (by simpa using hk) hik
    simpa using this
  by_cases z : SetTable.below xs (xs[i] + 1) ≤ i
  · have := h3 i h z; omega
  · by_cases y : i + 1 < SetTable.below xs (xs[i] + 1)
    · have := h2 (i + 1) (by omega) y
      have := mono i (i + 1) h (by omega) (by omega)
      omega
    · omega
theorem below_zero {xs : Array Nat} (r : Ris xs.toList) : SetTable.below xs 0 = 0 := by
  obtain ⟨h1, h2, _⟩ := below_at r 0
  by_cases z : SetTable.below xs 0 = 0
  · exact z
  · have := h2 0 (by omega) (by omega)
    omega
theorem insertAt_list {α : Type} (xs : Array α) (p : Nat) (x : α) : (SetTable.insertAt xs p x).toList = xs.toList.take p ++ x :: xs.toList.drop p := by
  unfold SetTable.insertAt
  simp only [Array.toList_append, Array.toList_push, Array.toList_extract, List.extract_eq_take_drop, List.drop_zero, Nat.sub_zero, List.append_assoc, List.singleton_append]
  congr 2
  rw [List.take_of_length_le (by rw [List.length_drop, Array.length_toList]; omega)]
theorem ris_insert {xs : Array Nat} (r : Ris xs.toList) {j : Nat} (hj : j ∉ xs.toList) : Ris (SetTable.insertAt xs (SetTable.below xs j) j).toList := by
  obtain ⟨h1, h2, h3⟩ := below_at r j
  rw [insertAt_list]
  have sp : xs.toList = xs.toList.take (SetTable.below xs j) ++ xs.toList.drop (SetTable.below xs j) := (List.take_append_drop _ _).symm
  have r' := r
  unfold Ris at r'
  rw [sp, List.pairwise_append] at r'
  have lo : ∀ a ∈ xs.toList.take (SetTable.below xs j), a < j := fun a ha => by
    obtain ⟨i, hi⟩ := List.getElem?_of_mem ha
    have hl := (List.getElem?_eq_some_iff.mp hi).1
    rw [List.length_take] at hl
    rw [List.getElem?_take_of_lt (by omega), Array.getElem?_toList] at hi
    obtain ⟨h, e⟩ := Array.getElem?_eq_some_iff.mp hi
    rw [← e]; exact h2 i h (by omega)
  have hi : ∀ a ∈ xs.toList.drop (SetTable.below xs j), j < a := fun a ha => by
    obtain ⟨i, hi⟩ := List.getElem?_of_mem ha
    rw [List.getElem?_drop, Array.getElem?_toList] at hi
    obtain ⟨h, e⟩ := Array.getElem?_eq_some_iff.mp hi
    have := h3 _ h (by omega)
    rw [e] at this
    have ne : a ≠ j := fun z => hj (z ▸ List.mem_of_mem_drop ha)
    omega
  refine List.pairwise_append.mpr ⟨r'.1, List.pairwise_cons.mpr ⟨hi, r'.2.1⟩, fun a ha b hb => ?_⟩
  rcases List.mem_cons.mp hb with rfl | hb
  · exact lo a ha
  · exact r'.2.2 a ha b hb
/-! ### the order in which slots are tried -/
def orb (m : Nat) : Nat → Nat
  | 0 => 0
  | n + 1 => (orb m n * 5 + 1) % m
def walkI (m : Nat) : Nat → Nat → Nat
  | 0, i => i
  | n + 1, i => walkI m n ((i * 5 + 1) % m)
theorem walk_orb (m : Nat) : ∀ (r a : Nat), walkI m r (orb m a) = orb m (a + r)
  | 0, _ => rfl
  | r + 1, a => by
    show walkI m r (orb m (a + 1)) = _
    rw [walk_orb m r (a + 1)]
    congr 1
    omega
theorem orb_round {m : Nat} (h : orb m m = 0) : ∀ b, orb m (m + b) = orb m b
  | 0 => h
  | b + 1 => by
    show (orb m (m + b) * 5 + 1) % m = (orb m b * 5 + 1) % m
    rw [orb_round h b]
structure Cyc (m : Nat) : Prop where
  round : orb m m = 0
  all : ∀ j, j < m → ∃ a, a < m ∧ orb m a = j
theorem cyc8 : Cyc 8 := ⟨by decide, by decide⟩
theorem cyc32 : Cyc 32 := ⟨by decide +kernel, by decide +kernel⟩
theorem cyc128 : Cyc 128 := ⟨by decide +kernel, by decide +kernel⟩
theorem Cyc.reach {m : Nat} (c : Cyc m) {i j : Nat} (hi : i < m) (hj : j < m) : ∃ r, r < m ∧ walkI m r i = j := by
  obtain ⟨a, a1, rfl⟩ := c.all i hi
  obtain ⟨b, b1, rfl⟩ := c.all j hj
  by_cases z : a ≤ b
  · exact ⟨b - a, by omega, by rw [walk_orb]; congr 1; omega⟩
  · refine ⟨m + b - a, by omega, ?_⟩
    rw [walk_orb, show a + (m + b - a) = m + b by omega, orb_round c.round]
def leaps (mask : Nat) : Nat → Nat → Nat → Nat × Nat
  | 0, i, p => (i, p)
  | n + 1, i, p => leaps mask n (SetTable.leap mask i p).1 (SetTable.leap mask i p).2
theorem leaps_snd (mask : Nat) : ∀ (n i p : Nat), (leaps mask n i p).2 = p / 32 ^ n
  | 0, i, p => by show p = p / 32 ^ 0; rw [Nat.pow_zero, Nat.div_one]
  | n + 1, i, p => by
    show (leaps mask n _ (p / 32)).2 = _
    rw [leaps_snd mask n, Nat.div_div_eq_div_mul, Nat.pow_succ, Nat.mul_comm]
theorem leaps_lt {mask : Nat} : ∀ (n : Nat) {i p : Nat}, i < mask + 1 → (leaps mask n i p).1 < mask + 1
  | 0, _, _, h => h
  | n + 1, i, p, _ => leaps_lt n (Nat.mod_lt _ (Nat.succ_pos _))
theorem leaps_add (mask : Nat) : ∀ (a b i p : Nat), leaps mask (a + b) i p = leaps mask b (leaps mask a i p).1 (leaps mask a i p).2
  | 0, b, i, p => by rw [Nat.zero_add]; rfl
  | a + 1, b, i, p => by
    rw [show a + 1 + b = a + b + 1 by omega]
    exact leaps_add mask a b _ _
theorem leaps_zero (mask : Nat) : ∀ (n i : Nat), leaps mask n i 0 = (walkI (mask + 1) n i, 0)
  | 0, i => rfl
  | n + 1, i => by
    show leaps mask n ((i * 5 + 1 + 0 / 32) % (mask + 1)) (0 / 32) = _
    rw [Nat.zero_div, Nat.add_zero, leaps_zero mask n]; rfl
theorem bits_lt (h : Int) : SetTable.bits h < 2 ^ 64 := by
  unfold SetTable.bits
  have h1 := Int.emod_nonneg h (show (2 ^ 64 : Int) ≠ 0 by decide)
  have h2 := Int.emod_lt_of_pos h (show (0 : Int) < 2 ^ 64 by decide)
  omega
theorem leaps_reach {mask : Nat} (c : Cyc (mask + 1)) (h : Int) {j : Nat} (hj : j < mask + 1) : ∃ n, n < mask + 15 ∧ (leaps mask n (SetTable.bits h % (mask + 1)) (SetTable.bits h)).1 = j := by
  have hb := bits_lt h
  have hi : SetTable.bits h % (mask + 1) < mask + 1 := Nat.mod_lt _ (Nat.succ_pos _)
  have p0 : (leaps mask 13 (SetTable.bits h % (mask + 1)) (SetTable.bits h)).2 = 0 := by
    rw [leaps_snd]
    exact Nat.div_eq_of_lt (Nat.lt_trans hb (by decide))
  obtain ⟨r, r1, r2⟩ := c.reach (leaps_lt (p := SetTable.bits h) 13 hi) hj
  refine ⟨13 + r, by omega, ?_⟩
  rw [leaps_add, p0, leaps_zero]
  exact r2
end L2
namespace L2
open PySem
/-! ### a free slot is found -/
theorem nodup_le {α : Type} [DecidableEq α] : ∀ {l m : List α}, l.Nodup → (∀ x ∈ l, x ∈ m) → l.length ≤ m.length
  | [], _, _, _ => Nat.zero_le _
  | a :: l, m, nd, sub => by
    rw [List.nodup_cons] at nd
    have ha := sub a List.mem_cons_self
    have := nodup_le (m := m.erase a) nd.2 fun x hx => (List.mem_erase_of_ne (fun e : x = a => nd.1 (e ▸ hx))).mpr (sub x (List.mem_cons_of_mem _ hx))
    rw [List.length_erase_of_mem ha] at this
    have : 0 < m.length := List.length_pos_of_mem ha
    rw [List.length_cons]; omega
theorem some_free {l : List Nat} {m : Nat} (h : l.length < m) : ∃ j, j < m ∧ j ∉ l := by
  refine Classical.byContradiction fun hn => ?_
  have := nodup_le (l := List.range m) (m := l) List.nodup_range fun x hx => Classical.byContradiction fun hx' => hn ⟨x, List.mem_range.mp hx, hx'⟩
  rw [List.length_range] at this
  omega
theorem has_nil (j : Nat) : SetTable.has #[] j = false := rfl
theorem slot_empty {t : SetTable} (r : Ris t.place.toList) (d : t.dummies = #[]) (j : Nat) : (t.slot j = .empty ↔ j ∉ t.place.toList) ∧ t.slot j ≠ .dummy := by
  unfold SetTable.slot
  dsimp only
  rw [d, has_nil]
  by_cases z : (t.place[SetTable.below t.place j]? == some j) = true
  · rw [if_pos z]
    refine ⟨⟨fun e => (by cases e), fun e => absurd (List.mem_of_getElem? (i := SetTable.below t.place j) (by rw [Array.getElem?_toList]; exact beq_iff_eq.mp z)) e⟩, fun e => by cases e⟩
  · rw [if_neg z, if_neg (by decide)]
    refine ⟨⟨fun _ hm => z ?_, fun _ => rfl⟩, fun e => by cases e⟩
    obtain ⟨i, hi⟩ := List.getElem?_of_mem hm
    rw [Array.getElem?_toList] at hi
    obtain ⟨hl, e⟩ := Array.getElem?_eq_some_iff.mp hi
    obtain ⟨h1, h2, h3⟩ := below_at r j
    have ib : SetTable.below t.place j = i := by
      by_cases y : i < SetTable.below t.place j
      · have := h2 i hl y; omega
      · by_cases w : SetTable.below t.place j < i
        · have g := h3 _ (by omega) (Nat.le_refl _)
          have := List.pairwise_iff_getElem.mp r (SetTable.below t.place j) i (by simp; omega) (by simpa using hl) w
          have this : t.place[SetTable.below t.place j]'(by omega) < t.place[i] := by simpa using this
          omega
        · omega
    rw [ib, hi]
    exact beq_self_eq_true _
def advN (t : SetTable) : Nat → SetTable.Probe → SetTable.Probe
  | 0, p => p
  | n + 1, p => advN t n (t.advance p)
theorem adv_dummy (t : SetTable) (p : SetTable.Probe) : (t.advance p).dummy = p.dummy := by
  unfold SetTable.advance
  split <;> rfl
theorem probe_go {t : SetTable} {h : Int} (r : Ris t.place.toList) (d : t.dummies = #[]) : ∀ (fuel : Nat) (p : SetTable.Probe), p.dummy = none → (∃ k, k < fuel ∧ t.slot (advN t k p).j = .empty) → ∃ j, SetTable.probe.go t (fun _ => h + 1) h fuel p = some (.empty j none) ∧ t.slot j = .empty
  | 0, p, _, ⟨k, hk, _⟩ => absurd hk (Nat.not_lt_zero _)
  | fuel + 1, p, hd, ⟨k, hk, he⟩ => by
    unfold SetTable.probe.go
    cases hs : t.slot p.j with
    | empty => exact ⟨p.j, by rw [hd], hs⟩
    | dummy => exact absurd hs (slot_empty r d _).2
    | live i =>
      dsimp only
      have : ((h + 1 : Int) == h) = false := beq_eq_false_iff_ne.mpr (by omega)
      rw [this, if_neg Bool.false_ne_true]
      refine probe_go r d fuel _ (by rw [adv_dummy]; exact hd) ?_
      cases k with
      | zero => rw [show advN t 0 p = p from rfl, hs] at he; cases he
      | succ k => exact ⟨k, by omega, he⟩
def leapAt (mask i p : Nat) : SetTable.Probe := { j := i, more := SetTable.runEnd mask i - i, i := i, perturb := p, dummy := none }
theorem adv_run (t : SetTable) : ∀ (m : Nat) (p : SetTable.Probe), p.more = m → p.dummy = none → advN t (m + 1) p = leapAt t.mask (SetTable.leap t.mask p.i p.perturb).1 (SetTable.leap t.mask p.i p.perturb).2
  | 0, p, hm, hd => by
    show t.advance p = _
    unfold SetTable.advance
    rw [if_neg (by omega)]
    unfold leapAt
    dsimp only
    rw [hd]
  | m + 1, p, hm, hd => by
    show advN t (m + 1) (t.advance p) = _
    have e : t.advance p = { p with j := p.j + 1, more := p.more - 1 } := by
      unfold SetTable.advance
      rw [if_pos (by omega)]
    rw [e]
    exact adv_run t m _ (by show p.more - 1 = m; omega) hd
theorem advN_add (t : SetTable) : ∀ (a b : Nat) (p : SetTable.Probe), advN t (a + b) p = advN t b (advN t a p)
  | 0, b, p => by rw [Nat.zero_add]; rfl
  | a + 1, b, p => by
    rw [show a + 1 + b = a + b + 1 by omega]
    exact advN_add t a b _
theorem adv_leaps (t : SetTable) : ∀ (n i p : Nat), ∃ k, k ≤ 10 * n ∧ advN t k (leapAt t.mask i p) = leapAt t.mask (leaps t.mask n i p).1 (leaps t.mask n i p).2
  | 0, i, p => ⟨0, Nat.le_refl _, rfl⟩
  | n + 1, i, p => by
    obtain ⟨k, k1, k2⟩ := adv_leaps t n (SetTable.leap t.mask i p).1 (SetTable.leap t.mask i p).2
    have e := adv_run t (SetTable.runEnd t.mask i - i) (leapAt t.mask i p) rfl rfl
    have hm : SetTable.runEnd t.mask i - i ≤ 9 := by unfold SetTable.runEnd; split <;> omega
    refine ⟨SetTable.runEnd t.mask i - i + 1 + k, by omega, ?_⟩
    rw [advN_add, e]
    exact k2
theorem free_slot {t : SetTable} (c : Cyc (t.mask + 1)) (r : Ris t.place.toList) (d : t.dummies = #[]) (hn : t.place.size < t.mask + 1) (h : Int) : ∃ j, t.freeSlot h = some (j, false) ∧ j ∉ t.place.toList := by
  obtain ⟨j0, j1, j2⟩ := some_free (l := t.place.toList) (m := t.mask + 1) (by rw [Array.length_toList]; exact hn)
  obtain ⟨n, n1, n2⟩ := leaps_reach c h j1
  obtain ⟨k, k1, k2⟩ := adv_leaps t n (SetTable.bits h % (t.mask + 1)) (SetTable.bits h)
  have hs : t.probeStart h = leapAt t.mask (SetTable.bits h % (t.mask + 1)) (SetTable.bits h) := rfl
  obtain ⟨j, g1, g2⟩ := probe_go (h := h) r d (10 * SetTable.turns t.mask) (t.probeStart h) rfl ⟨k, by unfold SetTable.turns; omega, by
    rw [hs, k2]
    show t.slot (leaps t.mask n _ _).1 = .empty
    rw [n2]
    exact (slot_empty r d j0).1.mpr j2⟩
  refine ⟨j, ?_, (slot_empty r d j).1.mp g2⟩
  unfold SetTable.freeSlot SetTable.probe
  rw [g1]
  rfl
/-! ### the table laid anew -/
theorem free_ok {mask : Nat} {owner : Array (Option Nat)} : ∀ (fuel i p : Nat), (∃ n, n < fuel ∧ owner.getD (leaps mask n i p).1 (some 0) = none) → ∃ j, SetTable.layClean.free mask owner fuel i p = some j ∧ owner.getD j (some 0) = none
  | 0, i, p, ⟨n, hn, _⟩ => absurd hn (Nat.not_lt_zero _)
  | fuel + 1, i, p, ⟨n, hn, he⟩ => by
    unfold SetTable.layClean.free
    cases hf : (List.range (SetTable.runEnd mask i + 1 - i)).find? fun k => (owner.getD (i + k) (some 0)).isNone with
    | some k =>
      have := List.find?_some hf
      exact ⟨i + k, rfl, Option.isNone_iff_eq_none.mp this⟩
    | none =>
      dsimp only
      refine free_ok fuel _ _ ?_
      cases n with
      | zero =>
        have := List.find?_eq_none.mp hf 0 (List.mem_range.mpr (by unfold SetTable.runEnd; split <;> omega))
        have he : owner.getD i (some 0) = none := he
        rw [Nat.add_zero, he] at this
        exact absurd rfl this
      | succ n => exact ⟨n, by omega, he⟩
theorem filterMap_set {l : List (Option Nat)} {j k : Nat} (h : l[j]? = some none) : ((l.set j (some k)).filterMap id).Perm (l.filterMap id ++ [k]) := by
  obtain ⟨hl, e⟩ := List.getElem?_eq_some_iff.mp h
  have sp : l = l.take j ++ none :: l.drop (j + 1) := by
    rw [← e, ← List.drop_eq_getElem_cons hl, List.take_append_drop]
  have s2 : l.set j (some k) = l.take j ++ some k :: l.drop (j + 1) := by
    rw [List.set_eq_take_append_cons_drop, if_pos hl]
  rw [s2]
  conv => rhs; rw [sp]
  rw [List.filterMap_append, List.filterMap_append, List.filterMap_cons, List.filterMap_cons]
  show (List.filterMap id (l.take j) ++ k :: List.filterMap id (l.drop (j + 1))).Perm (List.filterMap id (l.take j) ++ List.filterMap id (l.drop (j + 1)) ++ [k])
  rw [List.append_assoc]
  exact List.Perm.append_left _ (List.perm_append_singleton _ _).symm
theorem some_none {l : List (Option Nat)} (h : (l.filterMap id).length < l.length) : ∃ j : Nat, l[j]? = some none := by
  induction l with
  | nil => exact absurd h (Nat.lt_irrefl _)
  | cons a l ih =>
    cases a with
    | none => exact ⟨0, rfl⟩
    | some x =>
      rw [List.filterMap_cons] at h
      have h : (List.filterMap id l).length + 1 < l.length + 1 := h
      obtain ⟨j, hj⟩ := ih (by omega)
      exact ⟨j + 1, by simpa using hj⟩
structure OwnOk (mask : Nat) (a : Array (Option Nat) × Nat) : Prop where
  size : a.1.size = mask + 1
  perm : (a.1.toList.filterMap id).Perm (List.range a.2)
theorem lay_step {mask : Nat} (c : Cyc (mask + 1)) {a : Array (Option Nat) × Nat} (o : OwnOk mask a) (hk : a.2 < mask + 1) (h : Int) : ∃ j, SetTable.layClean.free mask a.1 (SetTable.turns mask) (SetTable.bits h % (mask + 1)) (SetTable.bits h) = some j ∧ OwnOk mask (a.1.setIfInBounds j (some a.2), a.2 + 1) := by
  have l1 : a.1.toList.length = mask + 1 := by rw [Array.length_toList]; exact o.size
  obtain ⟨j0, hj0⟩ := some_none (l := a.1.toList) (by rw [o.perm.length_eq, List.length_range, l1]; exact hk)
  have j0l := (List.getElem?_eq_some_iff.mp hj0).1
  have g0 : a.1.getD j0 (some 0) = none := by
    rw [Array.getD_eq_getD_getElem?, ← Array.getElem?_toList, hj0]; rfl
  obtain ⟨n, n1, n2⟩ := leaps_reach c h (j := j0) (by omega)
  obtain ⟨j, g1, g2⟩ := free_ok (mask := mask) (owner := a.1) (SetTable.turns mask) (SetTable.bits h % (mask + 1)) (SetTable.bits h) ⟨n, n1, by rw [n2]; exact g0⟩
  refine ⟨j, g1, by show (a.1.setIfInBounds j (some a.2)).size = _; rw [Array.size_setIfInBounds]; exact o.size, ?_⟩
  have gj : a.1.toList[j]? = some none := by
    rw [Array.getD_eq_getD_getElem?] at g2
    rw [Array.getElem?_toList]
    cases e : a.1[j]? with
    | none => rw [e] at g2; cases g2
    | some x => rw [e] at g2; exact congrArg some g2
  show ((a.1.setIfInBounds j (some a.2)).toList.filterMap id).Perm (List.range (a.2 + 1))
  rw [Array.toList_setIfInBounds, List.range_succ]
  exact (filterMap_set gj).trans (List.Perm.append_right _ o.perm)
theorem lay_fold {mask : Nat} (c : Cyc (mask + 1)) : ∀ (hs : List Int) (a : Array (Option Nat) × Nat), OwnOk mask a → a.2 + hs.length ≤ mask + 1 →
    ∃ b, hs.foldl (fun (acc : Option (Array (Option Nat) × Nat)) h => do
      let (owner, k) ← acc
      let j ← SetTable.layClean.free mask owner (SetTable.turns mask) (SetTable.bits h % (mask + 1)) (SetTable.bits h)
      pure (owner.setIfInBounds j (some k), k + 1)) (some a) = some b ∧ OwnOk mask b ∧ b.2 = a.2 + hs.length
  | [], a, o, _ => ⟨a, rfl, o, rfl⟩
  | h :: hs, a, o, hl => by
    rw [List.length_cons] at hl
    obtain ⟨j, e, o'⟩ := lay_step c o (by omega) h
    obtain ⟨b, b1, b2, b3⟩ := lay_fold c hs _ o' (by show a.2 + 1 + hs.length ≤ mask + 1; omega)
    refine ⟨b, ?_, b2, by rw [b3, List.length_cons]; show a.2 + 1 + hs.length = _; omega⟩
    rw [List.foldl_cons]
    have : (do
      let (owner, k) ← (some a : Option (Array (Option Nat) × Nat))
      let j ← SetTable.layClean.free mask owner (SetTable.turns mask) (SetTable.bits h % (mask + 1)) (SetTable.bits h)
      pure (owner.setIfInBounds j (some k), k + 1)) = some (a.1.setIfInBounds j (some a.2), a.2 + 1) := by
      show (SetTable.layClean.free mask a.1 _ _ _).bind _ = _
      rw [e]; rfl
    rw [this]
    exact b1
theorem lay_clean {mask : Nat} (c : Cyc (mask + 1)) (hs : Array Int) (hl : hs.size ≤ mask + 1) : ∃ owner, SetTable.layClean mask hs = some owner ∧ owner.size = mask + 1 ∧ (owner.toList.filterMap id).Perm (List.range hs.size) := by
  have o0 : OwnOk mask (Array.replicate (mask + 1) none, 0) := ⟨by show (Array.replicate (mask + 1) none).size = _; rw [Array.size_replicate], by
    show ((Array.replicate (mask + 1) (none : Option Nat)).toList.filterMap id).Perm (List.range 0)
    rw [Array.toList_replicate, List.filterMap_eq_nil_iff.mpr fun x hx => by rw [List.eq_of_mem_replicate hx]; rfl]
    exact List.Perm.refl _⟩
  obtain ⟨b, b1, b2, b3⟩ := lay_fold c hs.toList _ o0 (by rw [Array.length_toList]; show 0 + hs.size ≤ _; omega)
  refine ⟨b.1, ?_, b2.size, ?_⟩
  · unfold SetTable.layClean
    rw [← Array.foldl_toList]
    have : ∀ (l : List Int) (x : Option (Array (Option Nat) × Nat)), l.foldl (fun (acc : Option (Array (Option Nat) × Nat)) h => do
      let (owner, k) ← acc
      let j ← SetTable.layClean.free mask owner (SetTable.turns mask) (SetTable.bits h % (mask + 1)) (SetTable.bits h)
      pure (owner.setIfInBounds j (some k), k + 1)) x = l.foldl (fun acc h => do
      let (owner, k) ← acc
      let j ← SetTable.layClean.free mask owner (SetTable.turns mask) (SetTable.bits h % (mask + 1)) (SetTable.bits h)
      pure (owner.setIfInBounds j (some k), k + 1)) x := fun l x => rfl
    exact congrArg (Option.map Prod.fst) b1
  · have e : b.2 = hs.size := by
      have : b.2 = 0 + hs.toList.length := b3
      rw [this, Nat.zero_add, Array.length_toList]
    rw [← e]; exact b2.perm
theorem laid_ok {mask : Nat} (c : Cyc (mask + 1)) (finger moves : Nat) (led plain : Bool) (hs : Array Int) (hl : hs.size ≤ mask + 1) : ∃ place order, SetTable.laid mask finger moves led plain hs = some ({ mask := mask, place := place, dummies := #[], finger := finger, led := led, moves := moves, plain := plain }, order) ∧
    Ris place.toList ∧ place.size = hs.size ∧ order.toList.Perm (List.range hs.size) := by
  obtain ⟨owner, e, sz, pm⟩ := lay_clean c hs hl
  have live : ((List.range (mask + 1)).filterMap fun j => (owner.getD j none).map fun y => (j, y)).map (fun x : Nat × Nat => x.2) = owner.toList.filterMap id := by
    rw [List.map_filterMap]
    have e1 : owner.toList = (List.range (mask + 1)).map fun j => owner.getD j none := by
      apply List.ext_getElem?
      intro q
      rw [List.getElem?_map, Array.getElem?_toList]
      by_cases z : q < mask + 1
      · rw [List.getElem?_range z]
        show owner[q]? = some (owner.getD q none)
        rw [Array.getD_eq_getD_getElem?, Array.getElem?_eq_getElem (by omega)]; rfl
      · rw [List.getElem?_eq_none (by rw [List.length_range]; omega), Array.getElem?_eq_none (by omega)]; rfl
    rw [e1, List.filterMap_map]
    congr 1
    funext j
    show Option.map _ (Option.map _ (owner.getD j none)) = id (owner.getD j none)
    cases owner.getD j none <;> rfl
  unfold SetTable.laid
  rw [e]
  refine ⟨_, _, rfl, ?_, ?_, ?_⟩
  · unfold Ris
    show (List.map (fun x : Nat × Nat => x.1) _).Pairwise (· < ·)
    refine List.pairwise_map.mpr (List.pairwise_filterMap.mpr ?_)
    refine List.pairwise_lt_range.imp fun {a b} hab x hx y hy => ?_
    obtain ⟨u, _, rfl⟩ := Option.map_eq_some_iff.mp hx
    obtain ⟨v, _, rfl⟩ := Option.map_eq_some_iff.mp hy
    exact hab
  · show ((List.filterMap _ _).map fun x : Nat × Nat => x.1).toArray.size = _
    have := congrArg List.length live
    rw [List.length_map] at this
    rw [List.size_toArray, List.length_map, this, pm.length_eq, List.length_range]
  · show ((List.filterMap _ _).map fun x : Nat × Nat => x.2).toArray.toList.Perm _
    rw [List.toList_toArray, live]
    exact pm
end L2
namespace L2
open PySem PyProof.Rows
/-! ### a set of numbers, told with its table -/
structure TbI (t : SetTable) (n : Nat) : Prop where
  mask : t.mask = 7 ∨ t.mask = 31 ∨ t.mask = 127
  dum : t.dummies = #[]
  ris : Ris t.place.toList
  sz : t.place.size = n
  plain : t.plain = true
  room : n * 5 < t.mask * 3
theorem TbI.cyc {t : SetTable} {n : Nat} (h : TbI t n) : Cyc (t.mask + 1) := by
  rcases h.mask with e | e | e <;> rw [e]
  · exact cyc8
  · exact cyc32
  · exact cyc128
theorem TbI.fits {t : SetTable} {n : Nat} (h : TbI t n) : t.fits n = true := by
  have := h.room
  have f : t.fill = n := by unfold SetTable.fill; rw [h.dum, h.sz]; rfl
  unfold SetTable.fits
  rw [h.sz, f]
  simp; omega
theorem TbI.fresh (led : Bool) : TbI (.fresh 0 0 led) 0 := ⟨.inl rfl, rfl, List.Pairwise.nil, rfl, rfl, by show 0 * 5 < 7 * 3; decide⟩
theorem lay_new {t : SetTable} {n : Nat} {es : Array (Int × Value)} (ti : TbI t n) (hn : es.size = n) (h : Int) (x : Value) : ∃ (es1 : Array (Int × Value)) (t1 : SetTable), layNew t es h x = (es1, t1, false, false) ∧ es1.toList.Perm (es.toList ++ [(h, x)]) ∧ t1.mask = t.mask ∧ t1.dummies = #[] ∧ Ris t1.place.toList ∧ t1.place.size = n + 1 ∧ t1.plain = true ∧ t1.led = t.led := by
  have room := ti.room
  obtain ⟨j, fs, nj⟩ := free_slot ti.cyc ti.ris ti.dum (by rw [ti.sz]; omega) h
  have hp : (t.put j) = ({ t with place := SetTable.insertAt t.place (SetTable.below t.place j) j, dummies := #[] }, SetTable.below t.place j) := by
    unfold SetTable.put
    dsimp only
    rw [ti.dum, has_nil, if_neg Bool.false_ne_true]
  have bl := (below_at ti.ris j).1
  have s1 : (SetTable.insertAt t.place (SetTable.below t.place j) j).size = n + 1 := by
    rw [← Array.length_toList, insertAt_list, List.length_append, List.length_cons, List.length_take, List.length_drop, Array.length_toList, ti.sz]
    rw [ti.sz] at bl
    omega
  have s2 : (SetTable.insertAt es (SetTable.below t.place j) (h, x)).size = n + 1 := by
    rw [← Array.length_toList, insertAt_list, List.length_append, List.length_cons, List.length_take, List.length_drop, Array.length_toList, hn]
    rw [ti.sz] at bl
    omega
  refine ⟨SetTable.insertAt es (SetTable.below t.place j) (h, x), { t with place := SetTable.insertAt t.place (SetTable.below t.place j) j, dummies := #[] }, ?_, ?_, rfl, rfl, ris_insert ti.ris nj, s1, ti.plain, rfl⟩
  · unfold layNew
    rw [fs]
    dsimp only
    rw [hp]
    dsimp only
    have f : SetTable.fits { t with place := SetTable.insertAt t.place (SetTable.below t.place j) j, dummies := #[] } (SetTable.insertAt es (SetTable.below t.place j) (h, x)).size = true := by
      unfold SetTable.fits SetTable.fill
      dsimp only
      rw [s1, s2]
      simp; omega
    unfold SetTable.orStandIn
    rw [if_pos f, f]
    rfl
  · rw [insertAt_list]
    refine List.Perm.trans ?_ (List.perm_append_singleton _ _).symm
    refine List.perm_middle.trans ?_
    rw [List.take_append_drop]
theorem relay {t : SetTable} {n : Nat} {es : Array (Int × Value)} (hn : es.size = n) (hm : t.mask = 7 ∨ t.mask = 31) (hf : n = if t.mask = 7 then 5 else 19) (pl : t.plain = true) : ∃ (es1 : Array (Int × Value)) (t1 : SetTable), relayAll t es (SetTable.grown n) = (es1, t1, false) ∧ es1.toList.Perm es.toList ∧ TbI t1 n ∧ t1.led = t.led := by
  have key : ∀ (m2 : Nat), SetTable.sizeAbove (SetTable.grown n) - 1 = m2 → m2 = 31 ∨ m2 = 127 → n * 5 < m2 * 3 → ∃ (es1 : Array (Int × Value)) (t1 : SetTable), relayAll t es (SetTable.grown n) = (es1, t1, false) ∧ es1.toList.Perm es.toList ∧ TbI t1 n ∧ t1.led = t.led := fun m2 e1 e2 e3 => by
    have cy : Cyc (m2 + 1) := by
      rcases e2 with e | e <;> rw [e]
      · exact cyc32
      · exact cyc128
    obtain ⟨place, order, l1, l2, l3, l4⟩ := laid_ok cy t.finger (t.movedTo m2) t.led t.plain (es.map (·.1)) (by rw [Array.size_map]; omega)
    rw [Array.size_map] at l3 l4
    have eo : (order.filterMap (es[·]?)).toList.Perm es.toList := by
      rw [Array.toList_filterMap]
      refine (l4.filterMap _).trans ?_
      have : (List.range es.size).filterMap (fun i => es[i]?) = es.toList := by
        have : ∀ l : List (Int × Value), (List.range l.length).filterMap (fun i => l[i]?) = l := fun l => by
          apply List.ext_getElem?
          intro q
          have e2 : (List.range l.length).filterMap (fun i => l[i]?) = (List.range l.length).attach.map fun i => l[i.1]'(List.mem_range.mp i.2) := by
            rw [← List.filterMap_eq_map]
            conv => lhs; rw [← List.attach_map_subtype_val (List.range l.length)]
            rw [List.filterMap_map]
            congr 1
            funext i
            exact List.getElem?_eq_getElem (List.mem_range.mp i.2)
          rw [e2, List.getElem?_map]
          by_cases z : q < l.length
          · rw [List.getElem?_attach]
            simp [z]
          · rw [List.getElem?_eq_none (by simp; omega), List.getElem?_eq_none (by omega)]; rfl
        have h := this es.toList
        rw [Array.length_toList] at h
        simpa using h
      rw [this]
    have sz : (order.filterMap (es[·]?)).size = n := by rw [← Array.length_toList, eo.length_eq, Array.length_toList, hn]
    refine ⟨order.filterMap (es[·]?), { mask := m2, place := place, dummies := #[], finger := t.finger, led := t.led, moves := t.movedTo m2, plain := t.plain }, ?_, eo, ⟨.inr e2, rfl, l2, by rw [← hn]; exact l3, pl, e3⟩, rfl⟩
    unfold relayAll SetTable.relaid
    rw [e1, l1]
    dsimp only
    have c1 : coversAll order es.size = true := by unfold coversAll; exact List.isPerm_iff.mpr l4
    have c2 : SetTable.fits { mask := m2, place := place, dummies := #[], finger := t.finger, led := t.led, moves := t.movedTo m2, plain := t.plain } (order.filterMap (es[·]?)).size = true := by
      unfold SetTable.fits SetTable.fill
      dsimp only
      rw [l3, sz, hn]
      simp; omega
    rw [c1, c2]
    rfl
  rcases hm with e | e
  · rw [e, if_pos rfl] at hf
    subst hf
    exact key 31 (by decide +kernel) (.inl rfl) (by decide)
  · rw [e, if_neg (by decide)] at hf
    subst hf
    exact key 127 (by decide +kernel) (.inr rfl) (by decide)
section
variable {prog : Program} {w : World} {A : Around} {E : Value → Shared → Prop} {s : Shared}
def SetI (prog : Program) (w : World) (led : Bool) (h : Heap) (a : Addr) (ms : List Int) : Prop := ∃ o es ep t, h.get? a = some o ∧ o.ExactSet ∧ o.data = .set es ep t ∧ ElemsOf (intKind prog w) es.toList ∧ (es.toList.map fun e => numOf e.2).Perm ms ∧ ms.Nodup ∧ TbI t es.size ∧ t.led = led
def addI (ms : List Int) (k : Int) : List Int := if k ∈ ms then ms else ms ++ [k]
theorem num_is {k : Int} {v : Value} (h : (intKind prog w).is k v = true) : numOf v = k := by
  obtain ⟨t, e⟩ := Value.isInt_shape (k := k) (v := v) h
  rw [e]; rfl
theorem set_add {a : Addr} {ms : List Int} {led : Bool} {k : Int} {tk : Tok} {Q : Bool → Shared → Prop} (hS : SetI prog w led s.heap a ms) (hb : ms.length < 64)
    (h : ∀ (b : Bool) (h' : Heap), Heap.SameBut a s.heap h' → SetI prog w led h' a (addI ms k) → Q b { s with heap := h' }) : wpAny (model prog w) A (setAddHashed a (.int k tk) ((intKind prog w).hash k)) Q E s := by
  obtain ⟨o, es, ep, t, ho, hex, hd, hel, hpm, hnd, ti, hled⟩ := hS
  have hkey : (intKind prog w).is k (.int k tk) = true := intKind_is _ _ _ _
  have hsc : (Value.int k tk).scannable = true := rfl
  have hf := ti.fits
  have hsz : es.size = ms.length := by
    have := hpm.length_eq
    rw [List.length_map, Array.length_toList] at this
    exact this
  have hb1 : es.size < scanBound := by unfold scanBound; omega
  have room := ti.room
  unfold setAddHashed setAddHashedIn
  refine wpAny_holding (wpAny_bind (wpAny_setState_of ho hd hf ?_))
  dsimp only
  rw [byScan_of hsc hb1 hel]
  simp only [↓reduceIte]
  unfold setAddByScan
  refine wpAny_bind (wpAny_bind (wpAny_rule (wpAny_bind (wpAny_setScan_of hkey ho hd hf hel ?_))))
  have mem : k ∈ ms ↔ ∃ e ∈ es.toList, (intKind prog w).is k e.2 = true := by
    rw [← hpm.mem_iff, List.mem_map]
    constructor
    · rintro ⟨e, he, q⟩
      obtain ⟨⟨k', hk', _⟩, _⟩ := hel e he
      have := num_is hk'
      rw [q] at this
      subst this
      exact ⟨e, he, hk'⟩
    · rintro ⟨e, he, q⟩
      exact ⟨e, he, num_is q⟩
  cases hr : List.findIdx? (fun e => (intKind prog w).is k e.2) es.toList with
  | some j =>
    dsimp only
    obtain ⟨hj, hpj, _⟩ := List.findIdx?_eq_some_iff_getElem.mp hr
    have hin : k ∈ ms := mem.mpr ⟨es.toList[j], List.getElem_mem hj, hpj⟩
    refine wpAny_pure (wpAny_pure ?_)
    have e : s = { s with heap := s.heap } := by cases s; rfl
    rw [e]
    refine h false s.heap (Heap.SameBut.refl a s.heap) ?_
    unfold addI
    rw [if_pos hin]
    exact ⟨o, es, ep, t, ho, hex, hd, hel, hpm, hnd, ti, hled⟩
  | none =>
    dsimp only
    have hout : k ∉ ms := fun hin => by
      obtain ⟨e, he, q⟩ := mem.mp hin
      have := List.findIdx?_eq_none_iff.mp hr e he
      rw [q] at this; cases this
    obtain ⟨es1, t1, eL, p1, m1, d1, r1, z1, pl1, led1⟩ := lay_new (es := es) ti rfl ((intKind prog w).hash k) (.int k tk)
    rw [eL]
    dsimp only
    refine wpAny_bind (wpAny_pure ?_)
    rw [pl1, if_pos rfl, hashByValue_scannable 8 hsc]
    refine wpAny_bind (wpAny_pure ?_)
    have hpk : plainKind (Value.int k tk) = true := rfl
    rw [hpk, if_pos rfl]
    have el1 : ElemsOf (intKind prog w) es1.toList := (hel.push hkey hsc).perm p1
    have sz1 : es1.size = es.size + 1 := by rw [← Array.length_toList, p1.length_eq, List.length_append, Array.length_toList]; rfl
    have pm1 : (es1.toList.map fun e => numOf e.2).Perm (ms ++ [k]) := by
      refine (p1.map _).trans ?_
      rw [List.map_append]
      exact List.Perm.append_right _ hpm
    have nd1 : (ms ++ [k]).Nodup := List.nodup_append.mpr ⟨hnd, by simp, fun x hx y hy e => hout (by rw [List.mem_singleton.mp hy] at e; exact e ▸ hx)⟩
    have ad : addI ms k = ms ++ [k] := if_neg hout
    have hz1 : es1.size ≤ sizeLine := by
      have : (1000 : Nat) ≤ sizeLine := by decide
      omega
    have put : ∀ {h0 : Heap} {o0 : Obj} {es0 : Array (Int × Value)} {ep0 : Nat} {t0 : SetTable} (es' : Array (Int × Value)) (t' : SetTable), h0.get? a = some o0 → o0.data = .set es0 ep0 t0 → (h0.update a (Obj.putSet es' t')).get? a = some { o0 with data := .set es' (ep0 + 1) t' } := fun {h0 o0 es0 ep0 t0} es' t' g1 g2 => by
      have := Heap.get?_update_self (Obj.putSet es' t') g1 (by rw [putSet_of es' t' g2] <;> rfl)
      rw [putSet_of es' t' g2] at this
      exact this
    have ho1 := put es1 t1 ho hd
    have sb1 := Heap.SameBut.update s.heap a (Obj.putSet es1 t1)
    have f1 : t1.fill = es.size + 1 := by unfold SetTable.fill; rw [d1, z1]; rfl
    refine wpAny_bind (wpAny_storeSet_of ho hd ?_ hz1)
    by_cases z : (!false && t1.tooFull) = true
    · rw [if_pos z]
      have zf : t1.mask * 3 ≤ (es.size + 1) * 5 := by
        have z : t1.tooFull = true := z
        unfold SetTable.tooFull at z
        rw [f1] at z
        simpa using z
      have hm : t1.mask = 7 ∨ t1.mask = 31 := by
        rcases ti.mask with e | e | e
        · exact .inl (m1.trans e)
        · exact .inr (m1.trans e)
        · rw [m1, e] at zf; omega
      have hn : es1.size = if t1.mask = 7 then 5 else 19 := by
        rw [← m1] at room
        rcases hm with e | e
        · rw [e, if_pos rfl]; rw [e] at zf room; omega
        · rw [e, if_neg (by decide)]; rw [e] at zf room; omega
      obtain ⟨es2, t2, eR, p2, ti2, led2⟩ := relay rfl hm hn pl1
      rw [eR]
      dsimp only
      refine wpAny_bind (wpAny_pure ?_)
      have sz2 : es2.size = es1.size := by rw [← Array.length_toList, p2.length_eq, Array.length_toList]
      refine wpAny_bind (wpAny_storeSet_of ho1 rfl ?_ (by omega))
      refine wpAny_pure (wpAny_pure (h true _ (sb1.trans (Heap.SameBut.update _ a _)) ?_))
      rw [ad]
      exact ⟨_, es2, _, t2, put es2 t2 ho1 rfl, hex, rfl, el1.perm p2, (p2.map _).trans pm1, nd1, by rw [sz2]; exact ti2, led2.trans (led1.trans hled)⟩
    · rw [if_neg z]
      refine wpAny_pure (wpAny_pure (h true _ sb1 ?_))
      rw [ad]
      refine ⟨_, es1, _, t1, ho1, hex, rfl, el1, pm1, nd1, ⟨by rw [m1]; exact ti.mask, d1, r1, by rw [sz1]; exact z1, pl1, ?_⟩, led1.trans hled⟩
      have z : ¬ t1.tooFull = true := z
      unfold SetTable.tooFull at z
      rw [f1] at z
      rw [sz1]
      simp at z
      omega
end
end L2
namespace PySem
open PyProof.Rows L2
/-! ### set(a list of numbers) -/
def seenI (val : Nat → Int) : Nat → List Int
  | 0 => []
  | i + 1 => addI (seenI val i) (val i)
theorem seenI_mem (val : Nat → Int) (k : Int) : ∀ i, k ∈ seenI val i ↔ ∃ j, j < i ∧ val j = k
  | 0 => ⟨fun h => (by cases h), fun ⟨j, hj, _⟩ => absurd hj (Nat.not_lt_zero _)⟩
  | i + 1 => by
    show k ∈ addI (seenI val i) (val i) ↔ _
    have ih := seenI_mem val k i
    unfold addI
    split
    · rename_i hin
      rw [ih]
      constructor
      · rintro ⟨j, hj, e⟩; exact ⟨j, by omega, e⟩
      · rintro ⟨j, hj, e⟩
        by_cases z : j < i
        · exact ⟨j, z, e⟩
        · have : j = i := by omega
          subst this
          rw [e] at hin
          exact ih.mp hin
    · rw [List.mem_append, List.mem_singleton, ih]
      constructor
      · rintro (⟨j, hj, e⟩ | e)
        · exact ⟨j, by omega, e⟩
        · exact ⟨i, by omega, e.symm⟩
      · rintro ⟨j, hj, e⟩
        by_cases z : j < i
        · exact .inl ⟨j, z, e⟩
        · have : j = i := by omega
          subst this
          exact .inr e.symm
section
variable {prog : Program} {w : World} {A : Around} {R : Result → Shared → Prop} {I : Addr} {fp wr : List Addr} {G : Array GenState → Array GenState → Prop} {n : Nat} {P : Nat → Value → Prop} {St : Nat → Shared → Prop} {led : Bool}
theorem setI_at {h h' : Heap} {S : Addr} {ms : List Int} (hS : SetI prog w led h S ms) (k : ∀ o, h.get? S = some o → h'.get? S = some o) : SetI prog w led h' S ms := by
  obtain ⟨o, es, ep, t, ho, rest⟩ := hS
  exact ⟨o, es, ep, t, k o ho, rest⟩
theorem set_loop (W : WalksS prog w A.in1 I fp wr G n P St) (S : Addr) (hSf : S ∉ fp) (val : Nat → Int) (hval : ∀ i v, P i v → ∃ t, v = .int (val i) t) (hb : ∀ i, i < n → (seenI val i).length < 64) :
    ∀ (k i : Nat) (s : Shared), n - i = k → i ≤ n → St i s → SetI prog w led s.heap S (seenI val i) → (∀ s', Moved (S :: wr) G s s' → SetI prog w led s'.heap S (seenI val n) → R (.ok (.ret .none)) s') →
      codeAny (model prog w) A (.builtin "set.update.loop" ⟨[.ref S, .ref I], []⟩) R s := by
  have nw : S ∉ wr := fun h => hSf (W.sub _ h)
  have more : ∀ b ∈ wr, b ∈ S :: wr := fun b hb => List.mem_cons_of_mem _ hb
  intro k
  induction k with
  | zero =>
    intro i s hk hi st hS hR
    obtain rfl : i = n := by omega
    refine codeAny_builtin F.entry_set_update_loop ?_
    rw [Around.under_plainId F.plain_set_update_loop _]
    refine wpAny_bind (m := pyNext (.ref I)) (W.done s _ _ st fun s' hm => ?_)
    show wpAny _ A.in1 (ret Value.none) _ _ s'
    exact wpAny_pure (hR s' (hm.mono more) (setI_at hS fun o ho => hm.heap S _ nw ho))
  | succ k ih =>
    intro i s hk hi st hS hR
    have hlt : i < n := by omega
    refine codeAny_builtin F.entry_set_update_loop ?_
    rw [Around.under_plainId F.plain_set_update_loop _]
    refine wpAny_bind (m := pyNext (.ref I)) (W.item i s _ _ hlt st fun v s' hP st' hm => ?_)
    obtain ⟨t, rfl⟩ := hval i v hP
    have hS' : SetI prog w led s'.heap S (seenI val i) := setI_at hS fun o ho => hm.heap S _ nw ho
    refine wpAny_bind (m := holding [Value.int (val i) t] (setAdd S (.int (val i) t))) (wpAny_holding ?_)
    unfold setAdd
    refine wpAny_holding (wpAny_bind ((intKind prog w).pyHash (k := val i) (intKind_is _ _ _ _) ?_))
    refine set_add (s := { s' with toks := s'.toks + 1 }) hS' (hb i hlt) fun b h' hsb hS2 => ?_
    refine wpAny_pure ⟨plainId_quiet F.plain_set_update_loop _, ih (i + 1) _ (by omega) hlt (W.frame _ s' _ _ st' (Nat.le_succ _) fun b hb o e => ?_) hS2 fun s'' hm'' hS'' => ?_⟩
    · rw [hsb.2 b (fun h : b = S => hSf (h ▸ hb))]; exact e
    · refine hR s'' (Moved.trans W.gtrans ((hm.mono more).then_heap (Nat.le_succ _) fun b o hb e => ?_) hm'') hS''
      rw [hsb.2 b (fun h : b = S => hb (h ▸ List.mem_cons_self))]; exact e
end
section
variable {prog : Program} {w : World} {A : Around} {E : Value → Shared → Prop} {s : Shared}
theorem set_new (a : Value) {Q₁ : Value → Shared → Prop}
    (h : Q₁ (.ref s.heap.objs.size) { s with heap := s.heap.push { cls := .type "set", dict := none, data := .set #[] 0 (.fresh 0 0 (!w.params.followText "set-order")) } }) :
    codeAny (model prog w) A (.call (.builtin "set.__new__") ⟨[.type "set", a], []⟩) (wants Q₁ E) s := by
  refine codeAny_of_tree ?_
  refine wpAny_bind (m := checkBuiltinCall "set.__new__" ⟨[.type "set", a], []⟩) (wpAny_of_eq (F.newCall_set_1 a) (wpAny_pure ⟨plainId_quiet F.plain_set_new _, codeAny_builtin F.entry_set_new ?_⟩))
  rw [Around.under_plainId F.plain_set_new _]
  unfold Builtin.«set.__new__» Builtin.Frozenset.newClass
  have hsub := sub_set_self
  obtain ⟨hp, g, d, tk, os⟩ := s
  dsimp only
  wp_walk
  refine wpAny_askSetting (wpAny_pure ?_)
  dsimp only
  simp only [newObj]
  refine wpAny_bind (wpAny_alloc (wpAny_pure ?_))
  exact wpAny_pure h
theorem set_of_list {l : Addr} {items : Array Value} {ns : List Int} {Q : Value → Shared → Prop} (hh : A.handled = none) (hl : s.heap.IsList l items) (hi : IntsAre items.toList ns) (hb : ∀ i, i < items.size → (seenI (fun i => ns.getD i 0) i).length < 64)
    (h : ∀ (h' : Heap) (tk : Nat), SetI prog w (!w.params.followText "set-order") h' s.heap.objs.size (seenI (fun i => ns.getD i 0) items.size) → (∀ b o, s.heap.get? b = some o → h'.get? b = some o) → Q (.ref s.heap.objs.size) { s with heap := h', toks := tk }) :
    wpAny (model prog w) A (call (.type "set") [.ref l]) Q E s := by
  obtain ⟨c, tl, hmro⟩ := F.called_set.mro
  have hmade := F.called_set.made
  have hsub := F.called_set.sub
  refine wpAny_call (codeAny_of_tree (show wpAny _ _ (callAny (.type "set") _) _ _ _ from wpAny_pure ⟨Code.quiet_builtin _ (by decide +kernel), codeAny_builtin F.entry_type_call ?_⟩))
  rw [Around.under_plain (weight_type_call_type "set" [.ref l] []) rfl]
  have q1 := F.called_set.notType
  have q2 := F.called_set.canCreate
  have q3 := F.typeCall_set_1 (.ref l)
  repeat (any_goals (first | assumption | wp_step))
  refine codeAny_mono (set_new (.ref l) (E := E) (Q₁ := fun obj s₁ => obj = .ref s.heap.objs.size ∧ s₁ = { s with heap := s.heap.push { cls := .type "set", dict := none, data := .set #[] 0 (.fresh 0 0 (!w.params.followText "set-order")) } }) ⟨rfl, rfl⟩) fun r s1 hr => ?_
  cases r with
  | error e => exact hr
  | ok fl =>
    cases fl with
    | ret obj =>
      obtain ⟨rfl, rfl⟩ := hr
      generalize hled : (!w.params.followText "set-order") = led at *
      have hS : (s.heap.push { cls := .type "set", dict := none, data := .set #[] 0 (.fresh 0 0 led) }).get? s.heap.objs.size = some { cls := .type "set", dict := none, data := .set #[] 0 (.fresh 0 0 led) } := Heap.get?_push_size _ rfl
      have hT : Shared.TypeIs { s with heap := s.heap.push { cls := .type "set", dict := none, data := .set #[] 0 (.fresh 0 0 led) } } (.ref s.heap.objs.size) "set" := ⟨_, hS, rfl⟩
      have q4 := F.called_set.init.lookup
      have q5 := F.called_set.init.bind (.ref s.heap.objs.size)
      repeat (any_goals (first | assumption | wp_step))
      refine codeAny_mono (codeAny_call_builtin (R := wants (fun r s₂ => r = .none ∧ ∃ h' tk, s₂ = { s with heap := h', toks := tk } ∧ SetI prog w led h' s.heap.objs.size (seenI (fun i => ns.getD i 0) items.size) ∧ (∀ b o, s.heap.get? b = some o → h'.get? b = some o)) E) F.called_set.init.plain F.entry_set_init (check_set_init_1 hT ?_)) fun r2 s2 hr2 => ?_
      · obtain ⟨⟨oc, od, odt, osl⟩, hol, hcl, nl, hdl⟩ := hl
        simp only at hcl hdl
        subst hcl hdl
        have hol' : (s.heap.push { cls := .type "set", dict := none, data := .set #[] 0 (.fresh 0 0 led) }).get? l = some { cls := .type "list", dict := od, data := .seq items nl, slots := osl } := Heap.get?_push_of_some _ hol
        have q6 := F.sub_list_set
        have q7 := F.sub_list_frozenset
        have q8 : (Value.type "list" == Value.type "dict") = false := by decide
        have hl1 : (s.heap.push { cls := .type "set", dict := none, data := .set #[] 0 (.fresh 0 0 led) }).IsList l items := ⟨_, hol', rfl, nl, rfl⟩
        unfold Builtin.«set.__init__» noKeywords Builtin.Frozenset.updateFrom
        generalize hPI : pyIter = PI
        wp_walk
        subst hPI
        refine wpAny_pyIter_list hl1 (wpAny_bind (wpAny_runValue ?_))
        have hlS : l < s.heap.objs.size := Heap.lt_size hol
        have hh3 : A.in1.in1.in1.handled = none := by simp [hh]
        have neI : l ≠ (s.heap.push { cls := .type "set", dict := none, data := .set #[] 0 (.fresh 0 0 led) }).objs.size := by
          rw [Heap.size_push]; exact Nat.ne_of_lt (Nat.lt_succ_of_lt hlS)
        have hSf : s.heap.objs.size ∉ [(s.heap.push { cls := .type "set", dict := none, data := .set #[] 0 (.fresh 0 0 led) }).objs.size, l] := by
          rw [Heap.size_push]
          simp only [List.mem_cons, List.not_mem_nil, or_false, not_or]
          exact ⟨Nat.ne_of_lt (Nat.lt_succ_self _), Nat.ne_of_gt hlS⟩
        have hval : ∀ (i : Nat) (v : Value), items[i]? = some v → ∃ t, v = .int ((fun i => ns.getD i 0) i) t := fun i v hv => IntsAre.int_at hi i v (by rw [Array.getElem?_toList]; exact hv)
        refine set_loop (led := led) ((Walks.list hh3 _ l neI items).toS) s.heap.objs.size hSf (fun i => ns.getD i 0) hval hb (items.size - 0) 0 _ (by omega) (Nat.zero_le _) ⟨⟨_, Heap.get?_push_size _ rfl, rfl, rfl⟩, (hl1.push _)⟩ ?hS0 ?hR
        case hS0 => exact ⟨_, #[], 0, .fresh 0 0 led, Heap.get?_push_of_some _ hS, ⟨rfl, rfl, rfl⟩, rfl, fun e he => by simp at he, List.Perm.refl _, List.nodup_nil, TbI.fresh led, rfl⟩
        case hR =>
          intro s' hm hS'
          obtain ⟨h', g', d', tk', os'⟩ := s'
          obtain rfl : g' = s.gens := hm.gens
          obtain rfl : d' = s.drawn := hm.drawn
          obtain rfl : os' = s.os := hm.os
          refine wpAny_pure (show wpAny _ _ (ret Value.none) _ _ _ from wpAny_pure ⟨rfl, h', tk', rfl, hS', fun b o e => ?_⟩)
          have hb : b < s.heap.objs.size := Heap.lt_size e
          refine hm.heap b o ?_ (Heap.get?_push_of_some _ (Heap.get?_push_of_some _ e))
          rw [Heap.size_push]
          simp only [List.mem_cons, List.not_mem_nil, or_false, not_or]
          exact ⟨Nat.ne_of_lt hb, Nat.ne_of_lt (Nat.lt_succ_of_lt hb)⟩
      · cases r2 with
        | error e => exact hr2
        | ok fl2 =>
          cases fl2 with
          | ret r =>
            obtain ⟨rfl, h', tk, rfl, hS', hk'⟩ := hr2
            repeat (any_goals (first | assumption | wp_step))
            exact h _ _ hS' hk'
          | _ => exact hr2.elim
    | _ => exact hr.elim
end
end PySem
namespace PySem
open PyProof.Rows L2
/-! ### the walk over a set of numbers -/
namespace SW
theorem slot_next : Slot "set_iterator" "__next__" "set_iterator.__next__" :=
  .of (owner := "set_iterator") (n := "__next__") (by rw [typeLookup_type, builtinLookup_eq_fast]; kernel_rfl) (by decide +kernel) (by decide +kernel) (by decide +kernel) (by first | exact .inl (by decide +kernel) | exact .inr (by decide +kernel)) (by rw [isSubtype_type]; kernel_rfl)
theorem entry_next : entryFor table "set_iterator.__next__" = some Builtin.«set_iterator.__next__» := entryFor_of_tree (by kernel_rfl)
theorem args_next (a : Value) : argsOk "set_iterator.__next__" ⟨[a], []⟩ := by unfold argsOk; kernel_rfl
theorem entry_iter : entryFor table "set.__iter__" = some Builtin.«frozenset.__iter__» := entryFor_alias (id' := "frozenset.__iter__") (by kernel_rfl) (by first | rfl | decide +kernel) (by decide +kernel) (by kernel_rfl)
end SW
theorem pick_go {α : Type} (next : Nat → Nat) : ∀ (fuel k : Nat) (left : List α) (out : Array α), left.length = fuel → (pickOrder.go next fuel k left out).toList.Perm (out.toList ++ left)
  | 0, k, left, out, h => by
    rw [List.eq_nil_of_length_eq_zero h, List.append_nil]
    exact List.Perm.refl _
  | fuel + 1, k, left, out, h => by
    have hi : next k % left.length < left.length := Nat.mod_lt _ (by omega)
    unfold pickOrder.go
    rw [List.getElem?_eq_getElem hi]
    dsimp only
    have hl : (left.eraseIdx (next k % left.length)).length = fuel := by rw [List.length_eraseIdx_of_lt hi]; omega
    refine (pick_go next fuel (k + 1) _ _ hl).trans ?_
    rw [Array.toList_push, List.append_assoc]
    refine List.Perm.append_left _ ?_
    rw [List.singleton_append]
    have sp : left = left.take (next k % left.length) ++ left[next k % left.length] :: left.drop (next k % left.length + 1) := by
      rw [← List.drop_eq_getElem_cons hi, List.take_append_drop]
    rw [List.eraseIdx_eq_take_drop_succ]
    conv => rhs; rw [sp]
    exact List.perm_middle.symm
theorem pick_perm {α : Type} (next : Nat → Nat) (xs : Array α) : (pickOrder next xs).toList.Perm xs.toList := by
  have := pick_go next xs.size 0 xs.toList #[] (by simp)
  exact this
section
variable {prog : Program} {w : World} {A : Around} {E : Value → Shared → Prop} {s : Shared}
def walkS (w : World) (r : Addr) (ep : Nat) (es : Array (Int × Value)) : Array (Int × Value) := if w.params.followText "set-order" = true then pickOrder (w.params.setOrder r ep) es else es
theorem walkS_perm (w : World) (r : Addr) (ep : Nat) (es : Array (Int × Value)) : (walkS w r ep es).toList.Perm es.toList := by
  unfold walkS
  split
  · exact pick_perm _ _
  · exact List.Perm.refl _
def slotS (w : World) (t : SetTable) (i : Nat) : Nat := if w.params.followText "set-order" = true then 0 else if i = 0 then 0 else (t.place[i - 1]?).getD 0 + 1
def IsSetIter (w : World) (h : Heap) (I r : Addr) (t : SetTable) (n ep i : Nat) : Prop := ∃ o, h.get? I = some o ∧ o.cls = .type "set_iterator" ∧ o.data = .fields #[.int (slotS w t i) 0, .int i 0, .ref r, .int n 0, .int ep 0]
structure SetAt (w : World) (r : Addr) (o : Obj) (es : Array (Int × Value)) (ep : Nat) (t : SetTable) : Prop where
  cls : o.cls = .type "set"
  data : o.data = .set es ep t
  ti : TbI t es.size
  led : t.led = !w.params.followText "set-order"
theorem set_next {r : Addr} {o : Obj} {es : Array (Int × Value)} {ep : Nat} {t : SetTable} (a : SetAt w r o es ep t) (ho : s.heap.get? r = some o) (i : Nat) (hi : i ≤ es.size) {Q : Option (Value × Nat) → Shared → Prop}
    (h : Q (match (walkS w r ep es)[i]? with | some e => some (e.2, slotS w t (i + 1)) | none => none) s) : wpAny (model prog w) A (setNext r (slotS w t i) i ep) Q E s := by
  unfold setNext
  refine wpAny_bind (wpAny_setState_of ho a.data a.ti.fits ?_)
  dsimp only
  refine wpAny_bind (m := setsByText) (wpAny_bind (wpAny_askSetting (wpAny_pure ?_)))
  show wpAny (model prog w) A (if w.params.followText "set-order" = true then _ else _) Q E s
  cases e : w.params.followText "set-order" with
  | true =>
    rw [if_pos rfl, if_neg (by simp)]
    refine wpAny_bind (m := setWalk r) ?_
    unfold setWalk
    refine wpAny_bind (wpAny_setState_of ho a.data a.ti.fits ?_)
    dsimp only
    refine wpAny_bind (m := setsByText) (wpAny_bind (wpAny_askSetting (wpAny_pure ?_)))
    show wpAny (model prog w) A (if w.params.followText "set-order" = true then _ else _) _ E s
    rw [e, if_pos rfl]
    refine wpAny_bind (wpAny_askSetting (wpAny_pure (wpAny_pure ?_)))
    have ws : walkS w r ep es = pickOrder (w.params.setOrder r ep) es := by unfold walkS; rw [e, if_pos rfl]
    have sl : ∀ j, slotS w t j = 0 := fun j => by unfold slotS; rw [e, if_pos rfl]
    rw [ws, sl] at h
    rw [sl]
    show Q (Option.map (fun e => (e.2, 0)) (pickOrder (w.params.setOrder r ep) es)[i]?) s
    cases ex : (pickOrder (w.params.setOrder r ep) es)[i]? with
    | none => rw [ex] at h; exact h
    | some x => rw [ex] at h; exact h
  | false =>
    have ws : walkS w r ep es = es := by unfold walkS; rw [e]; rfl
    have led : t.led = true := by rw [a.led, e]; rfl
    rw [if_neg Bool.false_ne_true]
    have nd : (!t.plain && decide (es.size > 1)) = false := by rw [a.ti.plain]; rfl
    refine wpAny_ite_split (fun hab => absurd (show (!t.plain && decide (es.size > 1)) = true from hab) (by rw [nd]; exact Bool.false_ne_true)) fun _ => ?_
    refine wpAny_bind ?_
    show wpAny (model prog w) A (if (!t.led && !es.isEmpty) = true then (unsupported _ : Sem Unit) else pure ()) _ E s
    rw [if_neg (by rw [led]; exact Bool.false_ne_true)]
    refine wpAny_pure (wpAny_pure ?_)
    have ps : t.place.size = es.size := a.ti.sz
    have bi : SetTable.below t.place (slotS w t i) = i := by
      unfold slotS
      rw [e, if_neg Bool.false_ne_true]
      by_cases z : i = 0
      · rw [if_pos z, z]; exact below_zero a.ti.ris
      · rw [if_neg z, Array.getElem?_eq_getElem (by omega)]
        show SetTable.below t.place (t.place[i - 1] + 1) = i
        rw [below_item a.ti.ris (by omega)]
        omega
    rw [bi]
    rw [ws] at h
    by_cases z : i < es.size
    · have sl : slotS w t (i + 1) = t.place[i] + 1 := by
        unfold slotS
        rw [e, if_neg Bool.false_ne_true, if_neg (by omega), Nat.add_sub_cancel, Array.getElem?_eq_getElem (by omega)]
        rfl
      rw [Array.getElem?_eq_getElem z, sl] at h
      rw [Array.getElem?_eq_getElem z, Array.getElem?_eq_getElem (by omega)]
      exact h
    · rw [Array.getElem?_eq_none (by omega)] at h
      rw [Array.getElem?_eq_none (by omega)]
      exact h
theorem set_iter {r : Addr} {o : Obj} {es : Array (Int × Value)} {ep : Nat} {t : SetTable} (a : SetAt w r o es ep t) (ho : s.heap.get? r = some o) {Q : Value → Shared → Prop}
    (h : Q (.ref s.heap.objs.size) { s with heap := s.heap.push { cls := .type "set_iterator", data := .fields #[.int 0 0, .int 0 0, .ref r, .int es.size 0, .int ep 0] } }) : wpAny (model prog w) A (pyIter (.ref r)) Q E s := by
  have hT : s.TypeIs (.ref r) "set" := ⟨o, ho, a.cls⟩
  have st : ∀ {R : (Array (Int × Value) × Nat × SetTable) → Shared → Prop} {A' : Around} {E' : Value → Shared → Prop}, R (es, ep, t) s → wpAny (model prog w) A' (setState r) R E' s := fun {R A' E'} q => wpAny_setState_of ho a.data a.ti.fits q
  refine wpAny_pyIter_slot hT F.slot_set_iter (wpAny_call_entry F.slot_set_iter hT SW.entry_iter ?_ (F.args_set_iter_1 _))
  unfold Builtin.«frozenset.__iter__» Builtin.Frozenset.slot0 slotArgs
  simp only [List.isEmpty_nil, Bool.not_true, Bool.false_eq_true, ↓reduceIte, bind_assoc, List.length_nil, bne_self_eq_false]
  unfold Builtin.Frozenset.addrOf Builtin.Frozenset.sizeOf
  refine wpAny_bind (wpAny_pure ?_)
  try dsimp only
  refine wpAny_bind (wpAny_pure ?_)
  refine wpAny_bind (wpAny_bind (wpAny_setEntries_of ho a.data a.ti.fits (wpAny_pure ?_)))
  refine wpAny_bind (m := setDrawn r) ?_
  unfold setDrawn
  refine wpAny_bind (st ?_)
  dsimp only
  refine wpAny_bind (m := setsByText) (wpAny_bind (wpAny_askSetting (wpAny_pure (wpAny_pure ?_))))
  have nd : (!w.params.followText "set-order" && (!t.plain && decide (es.size > 1))) = false := by rw [a.ti.plain]; simp
  refine wpAny_ite_split (fun hab => absurd (show (!w.params.followText "set-order" && (!t.plain && decide (es.size > 1))) = true from hab) (by rw [nd]; exact Bool.false_ne_true)) fun _ => ?_
  refine wpAny_bind (wpAny_pure ?_)
  refine wpAny_bind (wpAny_setEpoch_of ho a.data a.ti.fits ?_)
  refine wpAny_bind (wpAny_newObj_type (wpAny_pure ⟨_, rfl, "set_iterator", _, ⟨_, Heap.get?_push_size _ rfl, rfl⟩, SW.slot_next.lookup, ?_⟩))
  exact h
theorem set_item {I r : Addr} {o : Obj} {es : Array (Int × Value)} {ep : Nat} {t : SetTable} (a : SetAt w r o es ep t) (ho : s.heap.get? r = some o) {i : Nat} (hit : IsSetIter w s.heap I r t es.size ep i) (hi : i ≤ es.size) {e : Int × Value} (hx : (walkS w r ep es)[i]? = some e) {Q : Option Value → Shared → Prop}
    (hQ : ∀ h', IsSetIter w h' I r t es.size ep (i + 1) → Heap.SameBut I s.heap h' → Q (some e.2) { s with heap := h' }) : wpAny (model prog w) A (pyNext (.ref I)) Q E s := by
  obtain ⟨oI, hoI, hc, hd⟩ := id hit
  have hT : s.TypeIs (.ref I) "set_iterator" := ⟨oI, hoI, hc⟩
  unfold pyNext
  refine wpAny_bind (wpAny_attempt (wpAny_callSpecial?_slot (name := Str.ofString "__next__") hT SW.slot_next (wpAny_call_entry SW.slot_next hT SW.entry_next ?_ (SW.args_next _))))
  refine wpAny_bind (wpAny_pure ?_)
  refine wpAny_bind (wpAny_fieldsOf hoI hd ?_)
  show wpAny _ _ (do
    let x ← setEntries r
    _) _ _ _
  refine wpAny_bind (wpAny_setEntries_of ho a.data a.ti.fits ?_)
  rw [if_neg (by simp)]
  simp only [Int.toNat_natCast]
  refine wpAny_bind (set_next a ho i hi ?_)
  rw [hx]
  dsimp only
  refine wpAny_bind (wpAny_setField hoI hd (by simp) ?_)
  have h1 : (s.heap.update I (Obj.mapFields (·.setIfInBounds 0 (rawInt (slotS w t (i + 1) : Nat))))).get? I = some (Obj.mapFields (·.setIfInBounds 0 (rawInt (slotS w t (i + 1) : Nat))) oI) := Heap.get?_update_self _ hoI (Obj.isFreed_of_fields (Obj.data_mapFields hd _))
  have d1 := Obj.data_mapFields hd (·.setIfInBounds 0 (rawInt (slotS w t (i + 1) : Nat)))
  refine wpAny_bind (wpAny_setField h1 d1 (by simp) ?_)
  have h2 := Heap.get?_update_self (Obj.mapFields (·.setIfInBounds 1 (rawInt ((i : Int) + 1)))) h1 (Obj.isFreed_of_fields (Obj.data_mapFields d1 _))
  refine wpAny_pure ⟨_, rfl, wpAny_pure (hQ _ ⟨_, h2, ?_, ?_⟩ ((Heap.SameBut.update ..).trans (Heap.SameBut.update ..)))⟩
  · exact (Obj.cls_mapFields ..).trans ((Obj.cls_mapFields ..).trans hc)
  · rw [Obj.data_mapFields d1]
    simp [rawInt]
theorem set_done {I r : Addr} {o : Obj} {es : Array (Int × Value)} {ep : Nat} {t : SetTable} (hh : A.handled = none) (a : SetAt w r o es ep t) (ho : s.heap.get? r = some o) (hit : IsSetIter w s.heap I r t es.size ep es.size) {Q : Option Value → Shared → Prop}
    (hQ : ∀ h', Heap.ExtBut I s.heap h' → Q none { s with heap := h' }) : wpAny (model prog w) A (pyNext (.ref I)) Q E s := by
  obtain ⟨oI, hoI, hc, hd⟩ := id hit
  have hT : s.TypeIs (.ref I) "set_iterator" := ⟨oI, hoI, hc⟩
  have hx : (walkS w r ep es)[es.size]? = none := by
    have := (walkS_perm w r ep es).length_eq
    rw [Array.length_toList, Array.length_toList] at this
    exact Array.getElem?_eq_none (by omega)
  unfold pyNext
  refine wpAny_bind (wpAny_attempt (wpAny_callSpecial?_slot (name := Str.ofString "__next__") hT SW.slot_next (wpAny_call_entry SW.slot_next hT SW.entry_next ?_ (SW.args_next _))))
  refine wpAny_bind (wpAny_pure ?_)
  refine wpAny_bind (wpAny_fieldsOf hoI hd ?_)
  show wpAny _ _ (do
    let x ← setEntries r
    _) _ _ _
  refine wpAny_bind (wpAny_setEntries_of ho a.data a.ti.fits ?_)
  rw [if_neg (by simp)]
  simp only [Int.toNat_natCast]
  refine wpAny_bind (set_next a ho es.size (Nat.le_refl _) ?_)
  rw [hx]
  dsimp only
  refine wpAny_bind (wpAny_setField hoI hd (by simp) ?_)
  refine wpAny_bind (m := newExc (.type "StopIteration") []) ?_
  simp only [newExc, newTuple]
  refine wpAny_bind (wpAny_newObj_type ?_ (by size_fits))
  refine wpAny_bind (m := firstArgMember _ _) (wpAny_of_eq (a := Value.none) (by first | rfl | (simp only [firstArgMember]; rfl)) ?_)
  refine wpAny_newObj_type ?_ (by size_fits)
  simp only [raiseNew]
  refine wpAny_bind (wpAny_handled ?_)
  rw [show A.in1.handled = none from hh]
  refine wpAny_bind (wpAny_pure (wpAny_throw ?_))
  refine wpAny_bind (wpAny_isInstance (T := "StopIteration") (b := true) ⟨_, Heap.get?_push_size _ rfl, rfl⟩ isSubtype_stop ?_)
  exact wpAny_pure (hQ _ (((Heap.SameBut.update ..).extBut.push _).push _))
end
end PySem
namespace PySem
open PyProof.Rows L2
/-! ### sorted(set(..)) -/
namespace SW
theorem slot_sitit : Slot "set_iterator" "__iter__" "set_iterator.__iter__" :=
  .of (owner := "set_iterator") (n := "__iter__") (by rw [typeLookup_type, builtinLookup_eq_fast]; kernel_rfl) (by decide +kernel) (by decide +kernel) (by decide +kernel) (by first | exact .inl (by decide +kernel) | exact .inr (by decide +kernel)) (by rw [isSubtype_type]; kernel_rfl)
theorem args_sitit (a : Value) : argsOk "set_iterator.__iter__" ⟨[a], []⟩ := by unfold argsOk; kernel_rfl
theorem entry_sitit : entryFor table "set_iterator.__iter__" = some Builtin.«dict_keyiterator.__iter__» := entryFor_alias (id' := "dict_keyiterator.__iter__") (by kernel_rfl) (by first | rfl | decide +kernel) (by decide +kernel) (by kernel_rfl)
end SW
section
variable {prog : Program} {w : World} {A : Around} {E : Value → Shared → Prop} {s : Shared} {r : Addr}
theorem hint_set {Q : Bool → Shared → Prop} (hT : s.TypeIs (.ref r) "set") (h : Q false s) : wpAny (model prog w) A (Builtin.List.listLengthHint (.ref r)) Q E s := by
  unfold Builtin.List.listLengthHint
  refine wpAny_bind (wpAny_specialOf hT PySem.F.slot_set_len.lookup ?_)
  generalize hid : ("set.__len__" : String) = id0
  wp_delta
  rw [show splitId id0 = some ("set", "__len__") from by subst hid; decide +kernel]
  subst hid
  refine wpAny_bind (wpAny_isInstance (T := "set") (b := true) hT (by rw [isSubtype_type]; kernel_rfl) ?_)
  refine wpAny_ite_split (fun hab => absurd hab (by decide)) (fun _ => wpAny_ite_split (fun _ => ?_) (fun hab => absurd (by decide +kernel) hab))
  exact wpAny_bind (wpAny_typeOf hT (wpAny_pure h))
end
end PySem
namespace PySem
open PyProof.Rows L2 PySem.W PySem.Calls
section
variable {prog : Program} {w : World} {A : Around} {E : Value → Shared → Prop} {s : Shared} {r : Addr} {o : Obj} {es : Array (Int × Value)} {ep : Nat} {t : SetTable}
theorem IsSetIter.at {h h' : Heap} {I : Addr} {n i : Nat} (x : IsSetIter w h I r t n ep i) (e : ∀ o, h.get? I = some o → h'.get? I = some o) : IsSetIter w h' I r t n ep i := let ⟨o, ho, q⟩ := x; ⟨o, e _ ho, q⟩
theorem walks_set (a : SetAt w r o es ep t) (hh : A.handled = none) (I : Addr) (hne : r ≠ I) : Walks prog w A I [I, r] [I] es.size (fun i v => ∃ e, (walkS w r ep es)[i]? = some e ∧ e.2 = v) (fun i h => IsSetIter w h I r t es.size ep i ∧ h.get? r = some o) where
  sub := fun b hb => by simp at hb; simp [hb]
  frame := fun _ _ _ st hk => ⟨st.1.at fun o e => hk I (by simp) o e, hk r (by simp) _ st.2⟩
  item := fun i s Q E hi st hQ => by
    have hl : (walkS w r ep es).size = es.size := by
      have := (walkS_perm w r ep es).length_eq
      rw [Array.length_toList, Array.length_toList] at this
      exact this
    have hx : (walkS w r ep es)[i]? = some (walkS w r ep es)[i] := Array.getElem?_eq_getElem (by omega)
    refine set_item a st.2 st.1 (Nat.le_of_lt hi) hx fun h' it' hs => ?_
    exact hQ _ h' s.toks ⟨_, hx, rfl⟩ ⟨it', hs.extBut _ _ hne st.2⟩ fun b o hb e => hs.extBut b o (fun h => hb (by simp [h])) e
  done := fun s Q E st hQ => set_done hh a st.2 st.1 fun h' he => hQ h' s.toks fun b o hb e => he b o (fun h => hb (by simp [h])) e
  self := fun i s Q E st hQ => by
    obtain ⟨oI, hoI, hc, hd⟩ := st.1
    have hT : s.TypeIs (.ref I) "set_iterator" := ⟨oI, hoI, hc⟩
    refine wpAny_pyIter_slot hT SW.slot_sitit (wpAny_call_entry SW.slot_sitit hT SW.entry_sitit ?_ (SW.args_sitit _))
    show wpAny _ _ (ret (.ref I)) _ _ s
    exact wpAny_pure ⟨_, rfl, "set_iterator", _, hT, SW.slot_next.lookup, hQ⟩
theorem src_set (a : SetAt w r o es ep t) : KdlSrc prog w "set" r r es.size (fun i v => ∃ e, (walkS w r ep es)[i]? = some e ∧ e.2 = v) (fun h => h.get? r = some o) where
  type := fun _ h => ⟨o, h, a.cls⟩
  there := fun _ h => ⟨Heap.lt_size h, Heap.lt_size h⟩
  keep := fun _ _ h k => k r (.inl rfl) _ h
  notList := by decide
  notTuple := by decide
  hint := fun _ _ _ _ h q => hint_set ⟨o, h, a.cls⟩ q
  iter := fun A s hh h => ⟨_, _, (fun _ _ q => set_iter a h q), walks_set a hh _ (Nat.ne_of_lt (Heap.lt_size h)), ⟨⟨_, Heap.get?_push_size _ rfl, rfl, by
    have : slotS w t 0 = 0 := by unfold slotS; split <;> rfl
    rw [this]; rfl⟩, Heap.get?_push_of_some _ h⟩⟩
theorem sortedHeap_old {h : Heap} {a b : Addr} {vs : List Value} {out : Array Value} {o : Obj} (e : h.get? b = some o) (ne : b ≠ a) : (sortedHeap h a vs out).get? b = some o := by
  unfold sortedHeap
  have hlt := Heap.lt_size e
  rw [Heap.get?_update_ne _ _ _ _ ne, Heap.get?_push_ne _ _ _ (by rw [size_push', Heap.size_update]; exact Nat.ne_of_lt (Nat.lt_succ_of_lt hlt)), Heap.get?_push_ne _ _ _ (by rw [Heap.size_update]; exact Nat.ne_of_lt hlt), Heap.get?_update_ne _ _ _ _ ne]
  exact e
theorem sortedHeap_at {h : Heap} {a : Addr} {vs us : List Value} {out : Array Value} {n : Nat} (e : h.get? a = some (seqObj "list" us.toArray n)) : ∃ k, (sortedHeap h a vs out).get? a = some (seqObj "list" out k) := by
  have hlt := Heap.lt_size e
  have e1 := get?_update_seq e (fun _ => #[])
  generalize (if ((#[] : Array Value).size == us.toArray.size) = true then n else n + 1) = n1 at e1
  have e2 : (((h.update a (Obj.mapSeq fun _ => #[])).push (seqObj "tuple" vs.toArray 0)).push (seqObj "list" #[] 0)).get? a = some (seqObj "list" #[] n1) := by
    rw [Heap.get?_push_ne _ _ _ (by rw [size_push', Heap.size_update]; exact Nat.ne_of_lt (Nat.lt_succ_of_lt hlt)), Heap.get?_push_ne _ _ _ (by rw [Heap.size_update]; exact Nat.ne_of_lt hlt)]
    exact e1
  exact ⟨_, get?_update_seq e2 (fun _ => out)⟩
theorem collect_grown {T : String} {d : Addr} {n : Nat} {P : Nat → Value → Prop} {OK : Heap → Prop} {R : List Value → Shared → Prop} (K : KdlSrc prog w T r d n P OK) (hh : A.handled = none) (hok : OK s.heap) (hn : n ≤ sizeLine)
    (h : ∀ (h' : Heap) (tk : Nat) (acc : Array Value), s.heap.objs.size < h'.objs.size → (∀ b o, s.heap.get? b = some o → h'.get? b = some o) → ItemsOf P acc n → R acc.toList { s with heap := h', toks := tk }) :
    wpAny (model prog w) A (collect (.ref r)) R E s := by
  have hlt := K.there _ hok
  unfold collect
  refine wpAny_bind (wpAny_runValue (codeAny_builtin entry_proto_collect' ?_))
  rw [Around.under_plainId PySem.F.plain_proto_collect _]
  refine wpAny_bind (m := newList []) (wpAny_newObj_type (wpAny_pure ⟨plainId_quiet PySem.F.plain_list_iadd _, codeAny_builtin entry_list_iadd' ?_⟩))
  rw [Around.under_plainId PySem.F.plain_list_iadd _]
  have fin : ∀ (h' : Heap) (tk : Nat) (acc : Array Value) (c : Nat), (∀ b o, s.heap.get? b = some o → h'.get? b = some o) → h'.get? s.heap.objs.size = some { cls := .type "list", dict := none, data := .seq acc c, slots := #[] } → ItemsOf P acc n →
      wpAny (model prog w) A (load s.heap.objs.size >>= fun o => match o.data with | .seq xs _ => pure xs.toList | _ => unsupported "internal:collect") R E { s with heap := h', toks := tk } := fun h' tk acc c k e it =>
    wpAny_bind (wpAny_load e (wpAny_pure (h h' tk acc (Heap.lt_size e) k it)))
  have key := kdl_extend (A := A) (s := { s with heap := s.heap.push { cls := .type "list", data := .seq #[] } })
    (R := fun q s' => ∃ h' tk acc c, q = .ok (.ret (.ref s.heap.objs.size)) ∧ s' = { s with heap := h', toks := tk } ∧ (∀ b o, s.heap.get? b = some o → h'.get? b = some o) ∧ h'.get? s.heap.objs.size = some { cls := .type "list", dict := none, data := .seq acc c, slots := #[] } ∧ ItemsOf P acc n)
    K hh (K.keep _ _ hok fun b _ o e => Heap.get?_push_of_some _ e) s.heap.objs.size (Nat.ne_of_gt hlt.1) (Nat.ne_of_gt hlt.2) (.ref s.heap.objs.size) 0 (Heap.get?_push_size _ rfl)
    (fun h' tk acc c k e it => ⟨h', tk, acc, c, rfl, rfl, fun b o q => k b o (Nat.ne_of_lt (Heap.lt_size q)) (Heap.get?_push_of_some _ q), e, it⟩) hn
  refine wpAny_mono key (fun f s' x => ?_) fun e s' x => ?_
  · cases f with
    | done f =>
      obtain ⟨h', tk, acc, c, z, rfl, k, e, it⟩ := x
      cases z
      exact fin h' tk acc c k e it
    | again c₁ =>
      refine ⟨x.1, codeAny_mono x.2 fun q s2 y => ?_⟩
      obtain ⟨h', tk, acc, c, rfl, rfl, k, e, it⟩ := y
      exact fin h' tk acc c k e it
  · obtain ⟨_, _, _, _, e', _⟩ := x
    cases e'
theorem sorted_set {Q : Value → Shared → Prop} (a : SetAt w r o es ep t) (ho : s.heap.get? r = some o) (hE : ElemsOf (intKind prog w) es.toList) (hh : A.handled = none) (hz : es.size ≤ 1000000)
    (h : ∀ (h' : Heap) (tk : Nat) (D : Addr) (out : List Value) (k : Nat), s.heap.objs.size ≤ D → (∀ b o, s.heap.get? b = some o → h'.get? b = some o) → h'.get? D = some (seqObj "list" out.toArray k) → (∀ v ∈ out, ∃ n t, v = .int n t) → (out.map numOf).Perm (es.toList.map fun e => numOf e.2) → (out.map numOf).Pairwise (· ≤ ·) → Q (.ref D) { s with heap := h', toks := tk }) :
    wpAny (model prog w) A (call (.builtin "sorted") [.ref r]) Q E s := by
  have hsl : (1000000 : Nat) ≤ sizeLine := by decide
  refine call_function_entry kind_sorted plain_sorted entry_sorted (args_sorted1 _) ?_
  unfold Builtin.«sorted»
  refine wpAny_bind (m := checkCount "sorted" 1 1 _) (wpAny_pure ?_)
  refine wpAny_bind (collect_grown (A := A.in1) (src_set (prog := prog) a) hh ho (by omega) fun h' tk acc hgr hk hacc => ?_)
  have hl : acc.toList.length = es.size := by rw [Array.length_toList]; exact hacc.1
  have hw : acc.toList = (walkS w r ep es).toList.map fun e => e.2 := by
    have hl2 : (walkS w r ep es).toList.length = es.size := by rw [(walkS_perm w r ep es).length_eq, Array.length_toList]
    refine List.ext_getElem? fun j => ?_
    by_cases hj : j < es.size
    · rw [List.getElem?_eq_getElem (by omega), List.getElem?_map, List.getElem?_eq_getElem (by omega)]
      obtain ⟨e, e1, e2⟩ := hacc.2 j acc.toList[j] (by rw [← Array.getElem?_toList, List.getElem?_eq_getElem (by omega)])
      rw [← Array.getElem?_toList, List.getElem?_eq_getElem (by omega)] at e1
      cases e1
      rw [← e2]; rfl
    · rw [List.getElem?_eq_none (by omega), List.getElem?_eq_none (by rw [List.length_map]; omega)]
  have hint : ∀ v ∈ acc.toList, ∃ n t, v = Value.int n t := fun v hv => by
    rw [hw] at hv
    obtain ⟨e, he, rfl⟩ := List.mem_map.mp hv
    obtain ⟨⟨k, hk, _⟩, _⟩ := hE e ((walkS_perm w r ep es).mem_iff.mp he)
    obtain ⟨t, e1⟩ := Value.isInt_shape (k := k) (v := e.2) hk
    exact ⟨k, t, e1⟩
  have hI : IntsAre acc.toList (acc.toList.map numOf) := by
    clear hw hl hacc
    generalize acc.toList = vs at hint
    induction vs with
    | nil => exact .nil
    | cons v vs ih =>
      obtain ⟨n, t, rfl⟩ := hint v List.mem_cons_self
      exact .cons n t (ih fun u hu => hint u (List.mem_cons_of_mem _ hu))
  refine wpAny_bind (wpAny_newList ?_ (by omega))
  have ho2 : (h'.push (seqObj "list" acc.toList.toArray 0)).get? h'.objs.size = some (seqObj "list" acc.toList.toArray 0) := Heap.get?_push_size _ rfl
  show wpAny _ _ _ _ _ { s with heap := h'.push (seqObj "list" acc.toList.toArray 0), toks := tk }
  refine wpAny_bind (wpAny_holding (wpAny_call_entry slot_list_sort ⟨_, ho2, rfl⟩ entry_list_sort (list_sort_any (s := { s with heap := h'.push (seqObj "list" acc.toList.toArray 0), toks := tk }) (O := ordL) (key := keyI) (knd := oneType') (D := DI) ho2 (by omega) (fun h2 => kind_ints h2 hI) lt_ints (fun v hv => ?_) fun out p q => ⟨_, rfl, ?_⟩) (args_list_sort _)))
  · obtain ⟨n, t, e⟩ := hint v hv
    exact ⟨n, t, e⟩
  refine wpAny_pure ⟨_, rfl, ?_⟩
  obtain ⟨k, hk2⟩ := sortedHeap_at (vs := acc.toList) (out := out.toArray) ho2
  refine h _ tk _ out k ?_ (fun b o e => sortedHeap_old (Heap.get?_push_of_some _ (hk b o e)) ?_) hk2 (fun v hv => hint v (p.mem_iff.mp hv)) ?_ ?_
  · exact Nat.le_of_lt hgr
  · exact Nat.ne_of_lt (Heap.lt_size (hk b o e))
  · refine (p.map numOf).trans ?_
    rw [hw, List.map_map]
    exact (walkS_perm w r ep es).map _
  · rw [List.pairwise_map]
    refine q.imp fun {v u} hvu => ?_
    have hvu : decide ([numOf u] < [numOf v]) = false := hvu
    have : ¬ [numOf u] < [numOf v] := of_decide_eq_false hvu
    have : ¬ numOf u < numOf v := fun hlt => this (List.Lex.rel hlt)
    omega
end
end PySem
namespace L2
open PySem PySem.Spec PyProof.Rows
variable {X : Cx}
def SetO (prog : Program) (w : World) (a : Addr) (ms : List Int) : HO := .ext fun h => SetI prog w (!w.params.followText "set-order") h a ms
theorem seenI_nodup (val : Nat → Int) : ∀ i, (seenI val i).Nodup
  | 0 => List.nodup_nil
  | i + 1 => by
    have ih := seenI_nodup val i
    show (addI (seenI val i) (val i)).Nodup
    unfold addI
    split
    · exact ih
    · rename_i h
      refine List.nodup_append.mpr ⟨ih, by simp, fun a ha b hb e => h ?_⟩
      rw [List.mem_singleton.mp hb] at e
      rw [← e]; exact ha
theorem call_setW (hc : X.calm = true) : CallR X (.type "set") (fun xs H Q => ∃ (p : Addr) (ns : List Int) (lo : Int), xs = [.ref p] ∧ SqL X.K H p (ns.map V.int) ∧ (∀ n ∈ ns, lo ≤ n ∧ n ≤ lo + 62) ∧ ∀ l ms, H l = none → (∀ k, k ∈ ms ↔ k ∈ ns) → Q (.ref l) (upd H l (SetO X.prog X.w l ms))) := by
  intro pins s σ H xs us Q I r h
  obtain ⟨p, ns, lo, rfl, hq, hw, q⟩ := h
  obtain ⟨u, rfl, rx⟩ := vals1 r
  cases rx
  obtain ⟨its, r', pl, _⟩ := I.list hq
  have hlen := r'.length
  rw [List.length_map] at hlen
  have hs : its.toArray.size = its.length := by simp
  have mem : ∀ i, i ≤ ns.length → ∀ k ∈ seenI (fun i => ns.getD i 0) i, k ∈ ns := fun i hi k hk => by
    obtain ⟨j, hj, e⟩ := (seenI_mem _ k i).mp hk
    rw [List.getD_eq_getElem?_getD, List.getElem?_eq_getElem (by omega)] at e
    rw [← e]
    exact List.getElem_mem _
  refine set_of_list (I.ok.hd hc) pl.isList (intsAre_of r') (fun i hi => ?_) fun h' tk hS hk => ?_
  · have := nodup_le (seenI_nodup (fun i => ns.getD i 0) i) (m := (List.range 63).map fun (j : Nat) => lo + (j : Int)) fun k hk => by
      have := hw k (mem i (by omega) k hk)
      exact List.mem_map.mpr ⟨(k - lo).toNat, List.mem_range.mpr (by omega), by omega⟩
    rw [List.length_map, List.length_range] at this
    omega
  refine ⟨.ref s.heap.objs.size, _, I.laid (t' := tk) hk (Nat.le_refl _) (show ObjOk X.prog X.w _ h' _ (SetO X.prog X.w s.heap.objs.size _) from ⟨hS, ?_, fun h1 h2 a b => setI_at a b⟩), rfl, q _ _ (I.hok.fresh (Nat.le_refl _)) fun k => ?_⟩
  · obtain ⟨o, _, _, _, e, _⟩ := hS
    exact ⟨o, e⟩
  · rw [hs, ← hlen]
    refine ⟨mem _ (Nat.le_refl _) k, fun hm => (seenI_mem _ k _).mpr ?_⟩
    obtain ⟨j, hj, e⟩ := List.getElem_of_mem hm
    exact ⟨j, hj, by rw [List.getD_eq_getElem?_getD, List.getElem?_eq_getElem hj]; exact e⟩
theorem vals_nums : ∀ {us : List Value}, (∀ v ∈ us, ∃ n t, v = Value.int n t) → Vals ((us.map numOf).map V.int) us
  | [], _ => .nil
  | u :: us, h => by
    obtain ⟨n, t, rfl⟩ := h u List.mem_cons_self
    exact .cons ⟨t, rfl⟩ (vals_nums fun v hv => h v (List.mem_cons_of_mem _ hv))
theorem call_sortedS (hc : X.calm = true) : CallR X (.builtin "sorted") (fun xs H Q => ∃ (p : Addr) (ms : List Int), xs = [.ref p] ∧ H p = some (SetO X.prog X.w p ms) ∧ ∀ (l : Addr) (ns : List Int), H l = none → (∀ k, k ∈ ns ↔ k ∈ ms) → ns.Pairwise (· < ·) → Q (.ref l) (upd H l (.lst (ns.map V.int)))) := by
  intro pins s σ H xs us Q I r h
  obtain ⟨p, ms, rfl, hp, q⟩ := h
  obtain ⟨u, rfl, rx⟩ := vals1 r
  cases rx
  obtain ⟨hS, _, _⟩ := I.hok p _ hp
  obtain ⟨o, es, ep, t, ho, hex, hd, hel, hpm, hnd, ti, hled⟩ := hS
  have room : es.size ≤ 1000000 := by
    have := ti.room
    have := ti.mask
    omega
  refine sorted_set (r := p) (o := o) (es := es) (ep := ep) (t := t) ⟨hex.1, hd, ti, hled⟩ ho hel (I.ok.hd hc) room fun h' tk D out k hD hk hat hi hp hs => ?_
  have ln : (out.map numOf).length ≤ sizeLine := by
    have e := hp.length_eq
    simp only [List.length_map, Array.length_toList] at e
    rw [List.length_map]
    have : (1000000 : Nat) ≤ sizeLine := by decide
    omega
  refine ⟨.ref D, _, I.laid (t' := tk) hk hD (show ObjOk X.prog X.w _ h' _ (.lst ((out.map numOf).map V.int)) from ⟨by rw [List.length_map]; exact ln, out, k, vals_nums hi, hat⟩), rfl, q _ _ (I.hok.fresh hD) (fun k => (hp.trans hpm).mem_iff) ?_⟩
  have nd : (out.map numOf).Nodup := (hp.trans hpm).nodup_iff.mpr hnd
  have both := hs.and nd
  exact both.imp fun {a b} h => by omega
theorem bt_set : bootBuiltins "set" = some (.type "set") := by first | rfl | decide +kernel | kernel_rfl
end L2
namespace L2
open PySem PySem.Spec PyProof.Rows
variable {X : Cx}
def rEqI (K : PySem.W.Frag) : R2 := fun x y H Q => ∃ (a b : Addr) (ns ms : List Int), x = .ref a ∧ y = .ref b ∧ SqL K H a (ns.map V.int) ∧ SqL K H b (ms.map V.int) ∧ Q (.bl (decide (ns = ms))) H
end L2
namespace RW
end RW
namespace RW
/-! ### runs of free hours -/
def Cov (R : List (Int × Int)) (h : Int) : Prop := ∃ p ∈ R, p.1 ≤ h ∧ h < p.2
def endR (last : Int) (R : List (Int × Int)) : Int := (R.getLast?.map Prod.snd).getD last
theorem endR_nil (last : Int) : endR last [] = last := rfl
theorem endR_snoc (last : Int) (R : List (Int × Int)) (p : Int × Int) : endR last (R ++ [p]) = p.2 := by unfold endR; rw [List.getLast?_concat]; rfl
theorem endR_cons (last : Int) (p : Int × Int) (R : List (Int × Int)) : endR last (p :: R) = endR p.2 R := by
  cases R with
  | nil => rfl
  | cons q R =>
    unfold endR
    rw [List.getLast?_cons_cons]
    cases e : (q :: R).getLast? with
    | none => rw [List.getLast?_eq_none_iff] at e; cases e
    | some z => rfl
theorem Chained.mono {c d : Int} (h : c ≤ d) : ∀ {last : Int} {R : List (Int × Int)}, Chained c last R → Chained d last R
  | _, [], _ => trivial
  | _, p :: R, ⟨h1, h2, h3, h4⟩ => ⟨h1, h2, Int.le_trans h3 h, Chained.mono h h4⟩
theorem chained_snoc {c : Int} : ∀ {last : Int} {R : List (Int × Int)} {p : Int × Int}, Chained c last (R ++ [p]) ↔ Chained c last R ∧ endR last R < p.1 ∧ p.1 < p.2 ∧ p.2 ≤ c
  | last, [], p => by
    show (last < p.1 ∧ p.1 < p.2 ∧ p.2 ≤ c ∧ True) ↔ True ∧ last < p.1 ∧ p.1 < p.2 ∧ p.2 ≤ c
    exact ⟨fun ⟨h1, h2, h3, _⟩ => ⟨trivial, h1, h2, h3⟩, fun ⟨_, h1, h2, h3⟩ => ⟨h1, h2, h3, trivial⟩⟩
  | last, q :: R, p => by
    rw [endR_cons]
    show (last < q.1 ∧ q.1 < q.2 ∧ q.2 ≤ c ∧ Chained c q.2 (R ++ [p])) ↔ (last < q.1 ∧ q.1 < q.2 ∧ q.2 ≤ c ∧ Chained c q.2 R) ∧ _
    rw [chained_snoc]
    constructor
    · rintro ⟨h1, h2, h3, h4, h5⟩; exact ⟨⟨h1, h2, h3, h4⟩, h5⟩
    · rintro ⟨⟨h1, h2, h3, h4⟩, h5⟩; exact ⟨h1, h2, h3, h4, h5⟩
theorem Chained.end_le {c : Int} : ∀ {last : Int} {R : List (Int × Int)}, Chained c last R → endR last R ≤ c ∨ R = []
  | _, [], _ => .inr rfl
  | last, p :: R, ⟨h1, h2, h3, h4⟩ => by
    rw [endR_cons]
    rcases Chained.end_le h4 with h | h
    · exact .inl h
    · subst h; exact .inl h3
theorem Chained.low {c : Int} : ∀ {last : Int} {R : List (Int × Int)}, Chained c last R → ∀ p ∈ R, last < p.1 ∧ p.1 < p.2 ∧ p.2 ≤ c
  | _, [], _, p, hp => by cases hp
  | last, q :: R, ⟨h1, h2, h3, h4⟩, p, hp => by
    rcases List.mem_cons.mp hp with rfl | hp
    · exact ⟨h1, h2, h3⟩
    · obtain ⟨g1, g2, g3⟩ := Chained.low h4 p hp
      exact ⟨by omega, g2, g3⟩
def addRun (R : List (Int × Int)) (a b : Int) : List (Int × Int) :=
  if b ≤ a then R else match R.getLast? with
    | some p => if p.2 = a then R.dropLast ++ [(p.1, b)] else R ++ [(a, b)]
    | none => R ++ [(a, b)]
theorem cov_snoc {R : List (Int × Int)} {p : Int × Int} {h : Int} : Cov (R ++ [p]) h ↔ Cov R h ∨ (p.1 ≤ h ∧ h < p.2) := by
  unfold Cov
  constructor
  · rintro ⟨q, hq, e⟩
    rcases List.mem_append.mp hq with z | z
    · exact .inl ⟨q, z, e⟩
    · rw [List.mem_singleton.mp z] at e; exact .inr e
  · rintro (⟨q, hq, e⟩ | e)
    · exact ⟨q, List.mem_append_left _ hq, e⟩
    · exact ⟨p, by simp, e⟩
def Upto (lo cur : Int) (F : Int → Prop) (R : List (Int × Int)) : Prop := Chained cur (lo - 1) R ∧ ∀ h, lo ≤ h → h < cur → (Cov R h ↔ F h)
theorem Upto.nil (lo : Int) (F : Int → Prop) : Upto lo lo F [] := ⟨trivial, fun h h1 h2 => by omega⟩
theorem Upto.congr {lo cur : Int} {F G : Int → Prop} {R : List (Int × Int)} (u : Upto lo cur F R) (h : ∀ x, lo ≤ x → x < cur → (F x ↔ G x)) : Upto lo cur G R := ⟨u.1, fun x h1 h2 => (u.2 x h1 h2).trans (h x h1 h2)⟩
theorem Upto.skip {lo cur c : Int} {F : Int → Prop} {R : List (Int × Int)} (u : Upto lo cur F R) (hc : cur ≤ c) (hF : ∀ h, cur ≤ h → h < c → ¬ F h) : Upto lo c F R := by
  refine ⟨u.1.mono hc, fun h h1 h2 => ?_⟩
  by_cases z : h < cur
  · exact u.2 h h1 z
  · refine ⟨fun ⟨p, hp, e1, e2⟩ => ?_, fun f => absurd f (hF h (by omega) h2)⟩
    have := u.1.low p hp
    omega
theorem Upto.run {lo cur a b c : Int} {F : Int → Prop} {R : List (Int × Int)} (u : Upto lo cur F R) (hlo : lo ≤ cur) (h1 : cur ≤ a) (hc : cur ≤ c) (h2 : a < b → b ≤ c) (hF : ∀ h, cur ≤ h → h < c → (F h ↔ a ≤ h ∧ h < b)) : Upto lo c F (addRun R a b) := by
  unfold addRun
  by_cases z : b ≤ a
  · rw [if_pos z]
    exact u.skip hc fun h h3 h4 f => by have := (hF h h3 h4).mp f; omega
  · rw [if_neg z]
    have hb := h2 (by omega)
    have put : ∀ R', Chained c (lo - 1) R' → (∀ h, Cov R' h ↔ Cov R h ∨ (a ≤ h ∧ h < b)) → Upto lo c F R' := fun R' ch e => by
      refine ⟨ch, fun h h3 h4 => ?_⟩
      rw [e]
      by_cases y : h < cur
      · rw [u.2 h h3 y]
        exact ⟨fun q => q.elim id fun q => by omega, .inl⟩
      · rw [hF h (by omega) h4]
        refine ⟨fun q => q.elim (fun ⟨p, hp, e1, e2⟩ => ?_) id, .inr⟩
        have := u.1.low p hp
        omega
    have add : endR (lo - 1) R < a → Upto lo c F (R ++ [(a, b)]) := fun y => put _ (chained_snoc.mpr ⟨u.1.mono hc, y, by show a < b; omega, hb⟩) fun h => cov_snoc
    cases e : R.getLast? with
    | none =>
      have : R = [] := List.getLast?_eq_none_iff.mp e
      subst this
      exact add (by rw [endR_nil]; omega)
    | some p =>
      dsimp only
      have ne : R ≠ [] := fun y => by rw [y] at e; cases e
      have hp : R.getLast ne = p := by rw [List.getLast?_eq_some_getLast ne] at e; exact Option.some.inj e
      have sp : R = R.dropLast ++ [p] := by rw [← hp]; exact (List.dropLast_concat_getLast ne).symm
      have ch := u.1
      rw [sp, chained_snoc] at ch
      obtain ⟨g1, g2, g3, g4⟩ := ch
      by_cases y : p.2 = a
      · rw [if_pos y]
        refine put _ (chained_snoc.mpr ⟨g1.mono hc, g2, by show p.1 < b; omega, hb⟩) fun h => ?_
        conv => rhs; rw [sp]
        rw [cov_snoc, cov_snoc]
        show _ ∨ (p.1 ≤ h ∧ h < b) ↔ _
        constructor
        · rintro (q | q)
          · exact .inl (.inl q)
          · by_cases w : h < a
            · exact .inl (.inr ⟨q.1, by omega⟩)
            · exact .inr ⟨by omega, q.2⟩
        · rintro ((q | q) | q)
          · exact .inl q
          · exact .inr ⟨q.1, by omega⟩
          · exact .inr ⟨by omega, q.2⟩
      · rw [if_neg y]
        refine add ?_
        rw [sp, endR_snoc]
        omega
/-! ### the runs that pairs leave free in a week -/
def fwStep (st : List (Int × Int) × Int) (r : Int × Int) : List (Int × Int) × Int := (addRun st.1 st.2 r.1, if r.2 > st.2 then r.2 else st.2)
def NoneHas (hs : List (Int × Int)) (t : Int) : Prop := ∀ p ∈ hs, ¬ (p.1 ≤ t ∧ t < p.2)
structure FwOk (hs : List (Int × Int)) (i : Nat) (st : List (Int × Int) × Int) : Prop where
  pos : 0 ≤ st.2
  le : ∀ p ∈ hs.take i, p.2 ≤ st.2
  up : Upto 0 (min st.2 168) (NoneHas hs) st.1
theorem FwOk.start (hs : List (Int × Int)) : FwOk hs 0 ([], 0) := ⟨Int.le_refl _, by simp, by show Upto 0 (min 0 168) _ _; rw [show min (0 : Int) 168 = 0 by decide]; exact Upto.nil _ _⟩
theorem FwOk.step {hs : List (Int × Int)} (ord : hs.Pairwise fun p q => p.1 ≤ q.1) (hp : ∀ p ∈ hs, p.1 < p.2 ∧ p.1 < 168) {i : Nat} {st : List (Int × Int) × Int} {r : Int × Int} (o : FwOk hs i st) (hi : hs[i]? = some r) : FwOk hs (i + 1) (fwStep st r) := by
  have tk : hs.take (i + 1) = hs.take i ++ [r] := by rw [List.take_add_one, hi]; rfl
  have sp : hs = hs.take i ++ r :: hs.drop (i + 1) := by
    obtain ⟨h, e⟩ := List.getElem?_eq_some_iff.mp hi
    rw [← e, ← List.drop_eq_getElem_cons h, List.take_append_drop]
  have hr := hp r (List.mem_of_getElem? hi)
  have od := ord
  rw [sp, List.pairwise_append, List.pairwise_cons] at od
  have pos := o.pos
  have key : ∀ t, st.2 ≤ t → (t < r.2 ∨ t < r.1) → (NoneHas hs t ↔ t < r.1) := fun t h1 h2 => by
    constructor
    · intro n
      have := n r (List.mem_of_getElem? hi)
      omega
    · intro h p hm
      rw [sp] at hm
      rcases List.mem_append.mp hm with z | z
      · have := o.le p z; omega
      · rcases List.mem_cons.mp z with z | z
        · rw [z]; omega
        · have := od.2.1.1 p z; omega
  have rch : fwStep st r = (addRun st.1 st.2 r.1, if r.2 > st.2 then r.2 else st.2) := rfl
  rw [rch]
  refine ⟨by show 0 ≤ (if r.2 > st.2 then r.2 else st.2); split <;> omega, fun p hm => ?_, ?_⟩
  · show p.2 ≤ (if r.2 > st.2 then r.2 else st.2)
    rw [tk] at hm
    rcases List.mem_append.mp hm with z | z
    · have := o.le p z; split <;> omega
    · rw [List.mem_singleton.mp z]; split <;> omega
  · show Upto 0 (min (if r.2 > st.2 then r.2 else st.2) 168) (NoneHas hs) (addRun st.1 st.2 r.1)
    by_cases z : st.2 < 168
    · have u := o.up
      rw [show min st.2 168 = st.2 by omega] at u
      refine u.run pos (Int.le_refl _) (by split <;> omega) (fun h => by split <;> omega) fun t h1 h2 => ?_
      have h3 : t < r.2 ∨ t < r.1 := by split at h2 <;> omega
      rw [key t h1 h3]
      exact ⟨fun q => ⟨h1, q⟩, fun q => q.2⟩
    · have e : addRun st.1 st.2 r.1 = st.1 := by unfold addRun; rw [if_pos (by omega)]
      rw [e]
      have u := o.up
      rw [show min st.2 168 = 168 by omega] at u
      rw [show min (if r.2 > st.2 then r.2 else st.2) 168 = 168 by split <;> omega]
      exact u
theorem FwOk.fin {hs : List (Int × Int)} {st : List (Int × Int) × Int} (o : FwOk hs hs.length st) : Upto 0 168 (NoneHas hs) (addRun st.1 st.2 168) := by
  have pos := o.pos
  by_cases z : st.2 < 168
  · have u := o.up
    rw [show min st.2 168 = st.2 by omega] at u
    refine u.run pos (Int.le_refl _) (by omega) (fun _ => Int.le_refl _) fun t h1 h2 => ⟨fun _ => ⟨h1, h2⟩, fun _ p hm q => ?_⟩
    have := o.le p (by rw [List.take_length]; exact hm)
    omega
  · have e : addRun st.1 st.2 168 = st.1 := by unfold addRun; rw [if_pos (by omega)]
    rw [e]
    have u := o.up
    rw [show min st.2 168 = 168 by omega] at u
    exact u
/-! ### a span in a week, as if it had always been going -/
abbrev Tri := Int × Int × Int
def overAt (s : Tri) : Int := s.2.1 + 168 * (s.2.2 - 1)
def goes (s : Tri) (h : Int) : Prop := (h - s.1) % 168 < s.2.1 - s.1
def pairsIn (hour : Int) (s : Tri) : List (Int × Int) := [((s.1 - hour) % 168, (s.1 - hour) % 168 + s.2.1 - s.1), ((s.1 - hour) % 168 - 168, (s.1 - hour) % 168 + s.2.1 - s.1 - 168)]
theorem pairs_goes {s : Tri} {hour t : Int} (h0 : 0 ≤ t) (h1 : t < 168) (l0 : s.1 < s.2.1) (l1 : s.2.1 - s.1 ≤ 168) : (∃ p ∈ pairsIn hour s, p.1 ≤ t ∧ t < p.2) ↔ goes s (hour + t) := by
  unfold pairsIn goes
  constructor
  · rintro ⟨p, hp, e⟩
    rcases List.mem_cons.mp hp with rfl | hp
    · simp only at e; omega
    · rw [List.mem_singleton.mp hp] at e; simp only at e; omega
  · intro h
    by_cases z : (s.1 - hour) % 168 ≤ t
    · exact ⟨_, List.mem_cons_self, by simp only; omega⟩
    · exact ⟨_, List.mem_cons_of_mem _ List.mem_cons_self, by simp only; omega⟩
theorem goes_week {s : Tri} {h : Int} (j : Int) : goes s (h + 168 * j) ↔ goes s h := by unfold goes; omega
theorem goes_hrs {s : Tri} {h : Int} (l0 : s.1 < s.2.1) (l1 : s.2.1 - s.1 ≤ 168) (h1 : s.1 ≤ h) (h2 : h < overAt s) : h ∈ hrs s.1 s.2.1 s.2.2 ↔ goes s h := by
  rw [mem_hrs']
  unfold goes
  unfold overAt at h2
  constructor
  · rintro ⟨i, h3, h4, h5, h6⟩
    omega
  · intro q
    exact ⟨(h - s.1) / 168, by omega, by omega, by omega, by omega⟩
theorem hrs_in {s : Tri} {h : Int} (hh : h ∈ hrs s.1 s.2.1 s.2.2) : s.1 ≤ h ∧ h < overAt s := by
  rw [mem_hrs'] at hh
  obtain ⟨i, h3, h4, h5, h6⟩ := hh
  unfold overAt
  omega
def WeekOk (G : List Tri) (hour : Int) (R : List (Int × Int)) : Prop := Upto 0 168 (fun t => ∀ s ∈ G, ¬ goes s (hour + t)) R
theorem week_of {G : List Tri} {hour : Int} {hs R : List (Int × Int)} (hl : ∀ s ∈ G, s.1 < s.2.1 ∧ s.2.1 - s.1 ≤ 168) (hm : ∀ p, p ∈ hs ↔ p ∈ G.flatMap (pairsIn hour)) (u : Upto 0 168 (NoneHas hs) R) : WeekOk G hour R := by
  refine u.congr fun t h0 h1 => ?_
  unfold NoneHas
  constructor
  · intro n s hs' g
    obtain ⟨p, hp, e⟩ := (pairs_goes h0 h1 (hl s hs').1 (hl s hs').2).mpr g
    exact n p ((hm p).mpr (List.mem_flatMap.mpr ⟨s, hs', hp⟩)) e
  · intro n p hp e
    obtain ⟨s, hs', hp'⟩ := List.mem_flatMap.mp ((hm p).mp hp)
    exact n s hs' ((pairs_goes h0 h1 (hl s hs').1 (hl s hs').2).mp ⟨p, hp', e⟩)
/-! ### a piece -/
def wkAdd (week stop : Int) (R : List (Int × Int)) (r : Int × Int) : List (Int × Int) := addRun R (week + r.1) (if week + r.2 > stop then stop else week + r.2)
theorem cov_take_lt {fr : List (Int × Int)} (ch : Chained 168 (0 - 1) fr) {i : Nat} {r : Int × Int} (hi : fr[i]? = some r) : endR (-1) (fr.take i) < r.1 ∧ r.1 < r.2 ∧ r.2 ≤ 168 := by
  have sp : fr = fr.take i ++ r :: fr.drop (i + 1) := by
    obtain ⟨h, e⟩ := List.getElem?_eq_some_iff.mp hi
    rw [← e, ← List.drop_eq_getElem_cons h, List.take_append_drop]
  have tk : fr.take (i + 1) = fr.take i ++ [r] := by rw [List.take_add_one, hi]; rfl
  have pre : ∀ {last : Int} {A B : List (Int × Int)}, Chained 168 last (A ++ B) → Chained 168 last A := by
    intro last A
    induction A generalizing last with
    | nil => intro B _; trivial
    | cons q A ih => intro B h; exact ⟨h.1, h.2.1, h.2.2.1, ih h.2.2.2⟩
  have : Chained 168 (0 - 1) (fr.take (i + 1)) := pre (B := fr.drop (i + 1)) (by rw [List.take_append_drop]; exact ch)
  rw [tk, chained_snoc] at this
  exact this.2
def wkCur (week stop : Int) (fr : List (Int × Int)) (i : Nat) : Int := if i = fr.length then min (week + 168) stop else min (week + max 0 (endR (-1) (fr.take i))) stop
theorem week_step {lo week stop : Int} {F : Int → Prop} {fr R : List (Int × Int)} {i : Nat} {r : Int × Int} (hw : lo ≤ week) (hs : week < stop) (w : Upto 0 168 (fun t => F (week + t)) fr) (hi : fr[i]? = some r)
    (u : Upto lo (min (week + max 0 (endR (-1) (fr.take i))) stop) F R) : Upto lo (min (week + r.2) stop) F (wkAdd week stop R r) := by
  obtain ⟨g1, g2, g3⟩ := cov_take_lt w.1 hi
  have g0 := (w.1.low r (List.mem_of_getElem? hi)).1
  have hF : ∀ t, max 0 (endR (-1) (fr.take i)) ≤ t → t < r.2 → (F (week + t) ↔ r.1 ≤ t) := fun t h1 h2 => by
    have wt : Cov fr t ↔ F (week + t) := w.2 t (by omega) (by omega)
    rw [← wt]
    have sp : fr = fr.take i ++ r :: fr.drop (i + 1) := by
      obtain ⟨h, e⟩ := List.getElem?_eq_some_iff.mp hi
      rw [← e, ← List.drop_eq_getElem_cons h, List.take_append_drop]
    constructor
    · rintro ⟨p, hp, e1, e2⟩
      rw [sp] at hp
      rcases List.mem_append.mp hp with z | z
      · -- those ahead end ahead
        obtain ⟨k, hk⟩ := List.getElem?_of_mem z
        have hkl := (List.getElem?_eq_some_iff.mp hk).1
        rw [List.length_take] at hkl
        have ends : ∀ {last : Int} {A : List (Int × Int)} {q : Int × Int}, Chained 168 last A → q ∈ A → q.2 ≤ endR last A := by
          intro last A
          induction A generalizing last with
          | nil => intro q _ hq; cases hq
          | cons x A ih =>
            intro q ch hq
            rw [endR_cons]
            rcases List.mem_cons.mp hq with rfl | hq
            · cases A with
              | nil => exact Int.le_refl _
              | cons y A =>
                have h1 := ch.2.2.2.1
                have h2 := ih ch.2.2.2 List.mem_cons_self
                have h3 := ch.2.2.2.2.1
                omega
            · exact ih ch.2.2.2 hq
        have pre : ∀ {last : Int} {A B : List (Int × Int)}, Chained 168 last (A ++ B) → Chained 168 last A := by
          intro last A
          induction A generalizing last with
          | nil => intro B _; trivial
          | cons q A ih => intro B h; exact ⟨h.1, h.2.1, h.2.2.1, ih h.2.2.2⟩
        have := ends (pre (A := fr.take i) (B := fr.drop i) (by rw [List.take_append_drop]; exact w.1)) z
        have e3 : (0 : Int) - 1 = -1 := rfl
        rw [e3] at this
        omega
      · rcases List.mem_cons.mp z with z | z
        · rw [z] at e1; exact e1
        · have suf : ∀ {last : Int} {A B : List (Int × Int)}, Chained 168 last (A ++ B) → Chained 168 (endR last A) B := by
            intro last A
            induction A generalizing last with
            | nil => intro B h; exact h
            | cons q A ih => intro B h; rw [endR_cons]; exact ih h.2.2.2
          have ch : Chained 168 (endR (0 - 1) (fr.take i ++ [r])) (fr.drop (i + 1)) := suf (by rw [List.append_assoc]; show Chained 168 (0 - 1) (fr.take i ++ r :: fr.drop (i + 1)); rw [← sp]; exact w.1)
          rw [endR_snoc] at ch
          have := ch.low p z
          omega
    · intro h
      exact ⟨r, List.mem_of_getElem? hi, h, h2⟩
  unfold wkAdd
  by_cases z : week + max 0 (endR (-1) (fr.take i)) < stop
  · rw [show min (week + max 0 (endR (-1) (fr.take i))) stop = week + max 0 (endR (-1) (fr.take i)) by omega] at u
    refine u.run (by omega) (by omega) (by omega) (fun h => by split <;> omega) fun h h1 h2 => ?_
    have := hF (h - week) (by omega) (by omega)
    rw [show week + (h - week) = h by omega] at this
    rw [this]
    split <;> omega
  · have e : addRun R (week + r.1) (if week + r.2 > stop then stop else week + r.2) = R := by
      unfold addRun
      rw [if_pos (by split <;> omega)]
    rw [e]
    rw [show min (week + max 0 (endR (-1) (fr.take i))) stop = stop by omega] at u
    rw [show min (week + r.2) stop = stop by omega]
    exact u
theorem week_end {lo week stop : Int} {F : Int → Prop} {fr R : List (Int × Int)} (w : Upto 0 168 (fun t => F (week + t)) fr) (u : Upto lo (min (week + max 0 (endR (-1) fr)) stop) F R) : Upto lo (min (week + 168) stop) F R := by
  have le : endR (-1) fr ≤ 168 := by
    rcases w.1.end_le with h | h
    · exact h
    · rw [h, endR_nil]; decide
  refine u.skip (by omega) fun h h1 h2 f => ?_
  have := (w.2 (h - week) (by omega) (by omega)).mpr (by show F (week + (h - week)); rw [show week + (h - week) = h by omega]; exact f)
  obtain ⟨p, hp, e1, e2⟩ := this
  have ends : ∀ {last : Int} {A : List (Int × Int)} {q : Int × Int}, Chained 168 last A → q ∈ A → q.2 ≤ endR last A := by
    intro last A
    induction A generalizing last with
    | nil => intro q _ hq; cases hq
    | cons x A ih =>
      intro q ch hq
      rw [endR_cons]
      rcases List.mem_cons.mp hq with rfl | hq
      · cases A with
        | nil => exact Int.le_refl _
        | cons y A =>
          have h1 := ch.2.2.2.1
          have h2 := ih ch.2.2.2 List.mem_cons_self
          have h3 := ch.2.2.2.2.1
          omega
      · exact ih ch.2.2.2 hq
  have := ends w.1 hp
  have e3 : (0 : Int) - 1 = -1 := rfl
  rw [e3] at this
  omega
end RW
namespace RW
/-! ### the stretch, cut at the edges -/
theorem mem_between {E : List Int} (ord : E.Pairwise (· < ·)) {k : Nat} {e f x : Int} (h1 : E[k]? = some e) (h2 : E[k + 1]? = some f) (hx : x ∈ E) : x ≤ e ∨ f ≤ x := by
  obtain ⟨j, hj⟩ := List.getElem?_of_mem hx
  obtain ⟨l1, rfl⟩ := List.getElem?_eq_some_iff.mp h1
  obtain ⟨l2, rfl⟩ := List.getElem?_eq_some_iff.mp h2
  obtain ⟨l3, rfl⟩ := List.getElem?_eq_some_iff.mp hj
  have p := List.pairwise_iff_getElem.mp ord
  by_cases z : j ≤ k
  · by_cases y : j = k
    · subst y; exact .inl (Int.le_refl _)
    · exact .inl (Int.le_of_lt (p j k l3 l1 (by omega)))
  · by_cases y : j = k + 1
    · subst y; exact .inr (Int.le_refl _)
    · exact .inr (Int.le_of_lt (p (k + 1) j l2 l3 (by omega)))
def FreeOf (S : List Tri) (h : Int) : Prop := ∀ s ∈ S, h ∉ hrs s.1 s.2.1 s.2.2
def SpanOk (s : Tri) : Prop := s.1 < s.2.1 ∧ s.2.1 - s.1 ≤ 168
structure Edges (S : List Tri) (start stop : Int) (E : List Int) : Prop where
  ord : E.Pairwise (· < ·)
  fst : E[0]? = some start
  lst : E[E.length - 1]? = some stop
  two : 2 ≤ E.length
  inn : ∀ x ∈ E, start ≤ x ∧ x ≤ stop
  has : ∀ s ∈ S, ∀ x, x = s.1 ∨ x = overAt s → start < x → x < stop → x ∈ E
theorem edges_of {S : List Tri} {start stop : Int} {E : List Int} (h : start < stop) (ord : E.Pairwise (· < ·)) (hm : ∀ x, x ∈ E ↔ x = start ∨ x = stop ∨ ((∃ s ∈ S, x = s.1 ∨ x = overAt s) ∧ start < x ∧ x < stop)) : Edges S start stop E := by
  have inn : ∀ x ∈ E, start ≤ x ∧ x ≤ stop := fun x hx => by
    rcases (hm x).mp hx with e | e | ⟨_, e1, e2⟩ <;> omega
  have m1 : start ∈ E := (hm _).mpr (.inl rfl)
  have m2 : stop ∈ E := (hm _).mpr (.inr (.inl rfl))
  have p := List.pairwise_iff_getElem.mp ord
  obtain ⟨i, hi⟩ := List.getElem?_of_mem m1
  obtain ⟨j, hj⟩ := List.getElem?_of_mem m2
  obtain ⟨li, ei⟩ := List.getElem?_eq_some_iff.mp hi
  obtain ⟨lj, ej⟩ := List.getElem?_eq_some_iff.mp hj
  have ne : i ≠ j := fun z => by subst z; rw [ei] at ej; omega
  have i0 : i = 0 := by
    by_cases z : i = 0
    · exact z
    · have h1 := p 0 i (by omega) li (by omega)
      have h2 := (inn E[0] (List.getElem_mem _)).1
      omega
  have jl : j = E.length - 1 := by
    by_cases z : j = E.length - 1
    · exact z
    · have h1 := p j (E.length - 1) lj (by omega) (by omega)
      have h2 := (inn (E[E.length - 1]'(by omega)) (List.getElem_mem _)).2
      omega
  subst i0
  refine ⟨ord, hi, by rw [← jl]; exact hj, by omega, inn, fun s hs x hx h1 h2 => (hm x).mpr (.inr (.inr ⟨⟨s, hs, hx⟩, h1, h2⟩))⟩
theorem piece_free {S G : List Tri} {start stop e f : Int} {E : List Int} {k : Nat} (ed : Edges S start stop E) (ok : ∀ s ∈ S, SpanOk s) (h1 : E[k]? = some e) (h2 : E[k + 1]? = some f) (hG : ∀ s, s ∈ G ↔ s ∈ S ∧ s.1 ≤ e ∧ e < overAt s) {h : Int} (a : e ≤ h) (b : h < f) : FreeOf S h ↔ ∀ s ∈ G, ¬ goes s h := by
  have he := ed.inn e (List.mem_of_getElem? h1)
  have hf := ed.inn f (List.mem_of_getElem? h2)
  have bt : ∀ s ∈ S, ∀ x, x = s.1 ∨ x = overAt s → e < x → f ≤ x := fun s hs x hx z => by
    by_cases y : x < stop
    · have := mem_between ed.ord h1 h2 (ed.has s hs x hx (by omega) y)
      omega
    · omega
  constructor
  · intro fr s hs g
    obtain ⟨m, s1, s2⟩ := (hG s).mp hs
    have := bt s m _ (.inr rfl) s2
    exact fr s m ((goes_hrs (ok s m).1 (ok s m).2 (by omega) (by omega)).mpr g)
  · intro n s m hh
    obtain ⟨g1, g2⟩ := hrs_in hh
    by_cases z : s.1 ≤ e
    · exact n s ((hG s).mpr ⟨m, z, by omega⟩) ((goes_hrs (ok s m).1 (ok s m).2 g1 g2).mp hh)
    · have := bt s m _ (.inl rfl) (by omega)
      omega
def Mix (F P : Int → Prop) (e h : Int) : Prop := (h < e → F h) ∧ (e ≤ h → P h)
theorem mix_lt {F P : Int → Prop} {e h : Int} (z : h < e) : Mix F P e h ↔ F h := ⟨fun q => q.1 z, fun q => ⟨fun _ => q, fun y => absurd z (by omega)⟩⟩
theorem mix_ge {F P : Int → Prop} {e h : Int} (z : e ≤ h) : Mix F P e h ↔ P h := ⟨fun q => q.2 z, fun q => ⟨fun y => absurd y (by omega), fun _ => q⟩⟩
theorem week_mix {G : List Tri} {e week : Int} {F : Int → Prop} {fr : List (Int × Int)} (w : WeekOk G e fr) (j : Nat) (hw : week = e + 168 * (j : Int)) : Upto 0 168 (fun t => Mix F (fun h => ∀ s ∈ G, ¬ goes s h) e (week + t)) fr := by
  refine Upto.congr w fun t h0 h1 => ?_
  rw [mix_ge (by omega)]
  have : ∀ s, goes s (week + t) ↔ goes s (e + t) := fun s => by
    have := goes_week (s := s) (h := e + t) (j : Int)
    rw [show week + t = e + t + 168 * (j : Int) by omega]
    exact this
  exact ⟨fun q s hs g => q s hs ((this s).mp g), fun q s hs g => q s hs ((this s).mpr g)⟩
theorem piece_all {G : List Tri} {lo e f : Int} {F : Int → Prop} {R : List (Int × Int)} (hlo : lo ≤ e) (hef : e ≤ f) (w : WeekOk G e [(0, 168)]) (hF : ∀ h, e ≤ h → h < f → (F h ↔ ∀ s ∈ G, ¬ goes s h)) (u : Upto lo e F R) : Upto lo f F (addRun R e f) := by
  refine u.run hlo (Int.le_refl _) hef (fun _ => Int.le_refl _) fun h h1 h2 => ⟨fun _ => ⟨h1, h2⟩, fun _ => (hF h h1 h2).mpr fun s hs g => ?_⟩
  have := (w.2 ((h - e) % 168) (by omega) (by omega)).mp ⟨(0, 168), by simp, by simp only; omega⟩ s hs
  refine this ?_
  have q := goes_week (s := s) (h := e + (h - e) % 168) ((h - e) / 168)
  rw [show e + (h - e) % 168 + 168 * ((h - e) / 168) = h by omega] at q
  exact q.mp g
theorem piece_none {G : List Tri} {lo e f : Int} {F : Int → Prop} {R : List (Int × Int)} (hef : e ≤ f) (w : WeekOk G e []) (hF : ∀ h, e ≤ h → h < f → (F h ↔ ∀ s ∈ G, ¬ goes s h)) (u : Upto lo e F R) : Upto lo f F R := by
  refine u.skip hef fun h h1 h2 q => ?_
  have q := (hF h h1 h2).mp q
  have := (w.2 ((h - e) % 168) (by omega) (by omega)).mpr fun s hs g => q s hs (by
    have q' := goes_week (s := s) (h := e + (h - e) % 168) ((h - e) / 168)
    rw [show e + (h - e) % 168 + 168 * ((h - e) / 168) = h by omega] at q'
    exact q'.mpr g)
  obtain ⟨p, hp, _⟩ := this
  cases hp
structure Going (C : List Tri) (begun : Nat) (edge : Int) (G : List Tri) : Prop where
  sub : ∀ s ∈ G, s ∈ C.take begun
  all : ∀ s ∈ C.take begun, edge < overAt s → s ∈ G
theorem Going.add {C G : List Tri} {n : Nat} {e : Int} {s : Tri} (g : Going C n e G) (hs : C[n]? = some s) : Going C (n + 1) e (G ++ [s]) := by
  have tk : C.take (n + 1) = C.take n ++ [s] := by rw [List.take_add_one, hs]; rfl
  refine ⟨fun x hx => ?_, fun x hx h => ?_⟩
  · rw [tk]
    rcases List.mem_append.mp hx with z | z
    · exact List.mem_append_left _ (g.sub x z)
    · exact List.mem_append_right _ z
  · rw [tk] at hx
    rcases List.mem_append.mp hx with z | z
    · exact List.mem_append_left _ (g.all x z h)
    · exact List.mem_append_right _ z
theorem Going.later {C G : List Tri} {n : Nat} {e f : Int} (g : Going C n e G) (h : e ≤ f) : Going C n f G := ⟨g.sub, fun s hs z => g.all s hs (by omega)⟩
theorem Going.left {C G : List Tri} {n : Nat} {e : Int} (g : Going C n e G) : Going C n e (G.filter fun s => decide (e < overAt s)) :=
  ⟨fun s hs => g.sub s (List.mem_filter.mp hs).1, fun s hs h => List.mem_filter.mpr ⟨g.all s hs h, decide_eq_true h⟩⟩
theorem Going.iff {C G : List Tri} {n : Nat} {e : Int} (g : Going C n e G) (h1 : ∀ s ∈ C.take n, s.1 ≤ e) (h2 : ∀ s ∈ C.drop n, e < s.1) (s : Tri) : s ∈ G.filter (fun s => decide (e < overAt s)) ↔ s ∈ C ∧ s.1 ≤ e ∧ e < overAt s := by
  rw [List.mem_filter, decide_eq_true_eq]
  constructor
  · rintro ⟨m, o⟩
    have := g.sub s m
    exact ⟨List.mem_of_mem_take this, h1 s this, o⟩
  · rintro ⟨m, l, o⟩
    refine ⟨g.all s ?_ o, o⟩
    rw [← List.take_append_drop n C] at m
    rcases List.mem_append.mp m with z | z
    · exact z
    · have := h2 s z; omega
end RW
namespace L2
open PySem PySem.Spec PyProof.Rows
/-! ### range(i, j, 168) where one turn is enough -/
theorem turn_one {P : Program} {w : World} {K : PySem.W.Frag} {tg : Expr} (it : Addr) (lo : Int) : Turn P w K tg (Itr lo 1) [it] it (fun i h => IsRangeIter h it (lo + (i : Nat) * 168) (((1 : Nat) : Int) - (i : Nat)) 168) where
  mem := by simp
  obj := fun i h st b hb => by
    have e : b = it := by simpa using hb
    subst e
    exact ⟨_, st, fun v z => by
      have z' : Data.fields _ = Data.cell v := z
      cases z'⟩
  keep := fun i h h' st k => k it (by simp) _ st
  item := by
    intro X hP hw hK hc i pins s σ H E I hf st hg
    subst hP hw hK
    obtain ⟨f0, f1, f2, f3, f4, f5⟩ := hf it (by simp)
    have W := Walks.range (prog := X.prog) (w := X.w) (I.ok.hd hc) it lo 168 1
    refine W.item i s _ _ hg st fun v h' tk hv st' kk => ?_
    obtain ⟨t, rfl⟩ := hv
    have I1 : Inv X pins σ H { s with heap := h', toks := tk } := I.turned (fun b o hb e => kk b o (by simpa using hb) e) f0 f1 f3 f4 f5
    refine ⟨_, rfl, go_of (s := { s with heap := h', toks := tk }) (n := "range_iterator") st' rfl rfl (by decide) ⟨.int (lo + i), H, I1, ⟨t, ?_⟩, ⟨rfl, rfl⟩, st', fun b hb => (hf b hb).1⟩⟩
    have : i = 0 := by have : i < 1 := hg; omega
    subst this
    simp
  done := by
    intro X hP hw hK hc i pins s σ H E I hf st hg
    subst hP hw hK
    obtain ⟨f0, f1, f2, f3, f4, f5⟩ := hf it (by simp)
    exact wpAny_pyNext_range_end (I.ok.hd hc) st (by have : 1 ≤ i := hg; omega) fun h' eb => ⟨rfl, I.turned (t' := s.toks) (fun b o hb e => eb b o hb e) f0 f1 f3 f4 f5⟩
  self := fun _ _ _ _ _ st h => wpAny_pyIter_rangeiter st h
theorem rangeSize_168 {i j : Int} (h1 : i < j) (h2 : j ≤ i + 168) : Builtin.Range.rangeSize i j 168 = 1 := by
  unfold Builtin.Range.rangeSize
  simp only [show (168 : Int) > 0 by decide, if_true, h1]
  try omega
theorem small_168 {i j : Int} (a : -(2 ^ 61) ≤ i) (b : i < 2 ^ 61) (h1 : i < j) (h2 : j ≤ i + 168) : Builtin.Range.small i j 168 = true := by
  unfold Builtin.Range.small
  rw [rangeSize_168 h1 h2]
  simp only [Builtin.Range.rangeFitsLong, Bool.and_eq_true, Bool.or_eq_true, decide_eq_true_eq, beq_iff_eq, show (168 : Int) > 0 by decide, if_true]
  omega
section
variable {X : Cx} {tg : Expr}
def iRng3 (ta : TA) : TI := fun σ H R => ta σ H fun vs H1 => ∃ i j : Int, vs = [.int i, .int j, .int 168] ∧ (-(2 ^ 61) ≤ i ∧ i < 2 ^ 61 ∧ i < j ∧ j ≤ i + 168) ∧ R (Itr i 1) H1
theorem pi_range3 {a b c : Expr} {ta : TA} {p pos : Pos} (hg : Gl X "range") (hm : X.mg "range" = none) (ha : PA X [a, b, c] ta) (hs : starEach [a, b, c] X.env = [(false, eval a X.env), (false, eval b X.env), (false, eval c X.env)] := by rfl) (hs2 : starEach [b, c] X.env = [(false, eval b X.env), (false, eval c X.env)] := by rfl) :
    PI X tg (.Call (.Name "range" p) [a, b, c] [] pos) (iRng3 ta) := by
  intro pins s σ H R I h
  refine Call_ (ld_blt I hg hm boot_range (PyProof.Rows.callWith_type1 (thn (ha pos pins s σ H _ I h) fun us s1 ⟨vs, H1, I1, r1, q1⟩ => ?_) (by rw [hs, hs2]) (by rw [hs2]; rfl)))
  obtain ⟨lo, hi, e, ⟨q1, q2, q3, q4⟩, q⟩ := q1
  subst e
  cases r1 with
  | cons r rr =>
    cases rr with
    | cons r' rr =>
      cases rr with
      | cons r'' rr =>
        cases rr
        obtain ⟨t, rfl⟩ := r
        obtain ⟨u, rfl⟩ := r'
        obtain ⟨v, rfl⟩ := r''
        refine call_range_3 (by decide) ?_ (.inl (PyProof.noPylong_small (by omega)))
        refine wpAny_pyIter_range (IsRange.new ..) (small_168 q1 q2 q3 q4) ?_
        have I2 : Inv X pins σ H1 { s1 with heap := s1.heap.push { cls := .type "range", data := .fields #[.int lo t, .int hi u, .int 168 v] }, toks := s1.toks } := I1.kept fun b o e => Heap.get?_push_of_some _ e
        refine ⟨(s1.heap.push { cls := .type "range", data := .fields #[.int lo t, .int hi u, .int 168 v] }).objs.size, [(s1.heap.push { cls := .type "range", data := .fields #[.int lo t, .int hi u, .int 168 v] }).objs.size], _, _, H1, rfl,
          I2.kept (t' := s1.toks) fun b o e => Heap.get?_push_of_some _ e, turn_one _ lo, ?_, fun b hb => ?_, q⟩
        · have e1 : lo + ((0 : Nat) : Int) * 168 = lo := by simp
          have e2 : ((1 : Nat) : Int) - ((0 : Nat) : Int) = Builtin.Range.rangeSize lo hi 168 := by rw [rangeSize_168 q3 q4]; rfl
          show IsRangeIter _ _ (lo + ((0 : Nat) : Int) * 168) (((1 : Nat) : Int) - ((0 : Nat) : Int)) 168
          rw [e1, e2]
          exact Heap.get?_push_size _ rfl
        · have e : b = (s1.heap.push { cls := .type "range", data := .fields #[.int lo t, .int hi u, .int 168 v] }).objs.size := by simpa using hb
          subst e
          exact I2.fpOk (Nat.le_refl _) (I2.hok.fresh (Nat.le_refl _))
end
end L2
namespace KX
open PySem PySem.Spec PyProof.Rows L2 RW
def top (i : Nat) : Stmt := PySem.Challenge.pw_roomweek_k06_whole_gaps.main.body.getD i (.Pass ⟨0, 0, 0, 0⟩)
structure Txt (mg : Str → Option Value) : Prop where
  z_len : mg "len" = none
  z_range : mg "range" = none
  z_isinstance : mg "isinstance" = none
  z_bool : mg "bool" = none
  z_int : mg "int" = none
  z_str : mg "str" = none
  z_list : mg "list" = none
  z_tuple : mg "tuple" = none
  z_max : mg "max" = none
  z_min : mg "min" = none
  z_sorted : mg "sorted" = none
  z_set : mg "set" = none
/-! ### the law's own defs -/
def spAt (K : PySem.W.Frag) : Sp := fun vs H Q _ => ∃ (a : Addr) (ns : List Int) (k : Nat), vs = [.ref a, .int k] ∧ SqL K H a (ns.map V.int) ∧ Q (.int (ns.getD k 0)) H
def spAll : Sp := fun vs H Q _ => ∃ (a b w : Int), vs = [.int a, .int b, .int w] ∧ (-(2 ^ 62) ≤ a ∧ a < 2 ^ 62 ∧ -(2 ^ 62) ≤ b ∧ b < 2 ^ 62) ∧ (-(2 ^ 62) ≤ w ∧ w < 2 ^ 62) ∧ w.toNat * (b - a).toNat ≤ 1000000 ∧
  ∀ (p : Addr) (H' : Hp), H p = none → Same H H' → H' p = some (.lst ((hrs a b w).map V.int)) → Q (.ref p) H'
def spJudged : Sp := fun vs H Q _ => ∃ (a b : Addr) (rs : List V) (rows : List Bkg) (d : Deed), vs = [.ref a, .ref b] ∧ H a = some (.lst rs) ∧ TupsAt H rs (rows.map Bkg.vs) ∧ H b = some (.tup d.vs) ∧ RowsOk rows ∧ DeedOk d ∧ rows.length ≤ 2000 ∧
  ∀ (p q : Addr) (rs' : List V) (H' : Hp), Same H H' → H' p = some (.tup [.str (judge rows d).1, .ref q]) → H' q = some (.lst rs') → TupsAt H' rs' ((judge rows d).2.map Bkg.vs) → Q (.ref p) H'
section
seal wpAny
variable {P : Program} {w : World} {K : PySem.W.Frag} {mg : Str → Option Value} {base : Heap}
abbrev s__law_at : Stmt := top 16
theorem sc__law_at : FnScope ["_law_script", "_law_k"] ["_law_script", "_law_k"] (defScope s__law_at) := ⟨rfl, rfl, rfl, by decide +kernel, rfl, by decide +kernel, by decide +kernel⟩
theorem ok__law_at {f : Addr} {fd : FuncData} (F : Fun K "_law_at" "_law_at" s__law_at f fd) (T : Txt mg) : FnOk P w K mg base CX0 1 f fd ["_law_script", "_law_k"] (spAt K) := by
  refine F.ok sc__law_at (fun vs H Q E h => ?_) (fun cdv A outer s H vs Q E hr h => ?_)
  · obtain ⟨_, _, _, rfl, _⟩ := h
    rfl
  · obtain ⟨a, ns, n, rfl, hL, k⟩ := h
    refine ⟨_, pss_cons (ps_if (pt_cmpR op_lt (pv 1) (pe_callB call_len_seq (by rfl) T.z_len PySem.boot_len (pa_cons (pv 0) pa_nil)) (nomark _))
          (pss_one (ps_ret (pe_ix ix_list (pv 0) (pv 1) (fun _ _ => rfl))))
          (pss_nil))
      (pss_one (ps_ret pe_int)), ?_⟩
    refine ⟨_, rfl, _, rfl, _, _, rfl, .inl hL, _, _, rfl, rfl, _, rfl, ?_⟩
    refine ite2 (fun h => ?_) (fun h => ?_)
    · have h' : n < ns.length := by
        have := of_decide_eq_true h
        rw [List.length_map] at this
        omega
      exact ⟨_, rfl, _, rfl, _, _, _, _, rfl, rfl, hL, atI_ints h', k⟩
    · have h' : ¬ n < ns.length := fun z => h (decide_eq_true (by rw [List.length_map]; omega))
      rw [List.getD_eq_getElem?_getD, List.getElem?_eq_none (by omega)] at k
      exact k
abbrev s__law_all_hours : Stmt := top 18
theorem sc__law_all_hours : FnScope ["_law_start", "_law_stop", "_law_weeks", "_law_hours", "_law_week", "_law_hour"] ["_law_start", "_law_stop", "_law_weeks"] (defScope s__law_all_hours) := ⟨rfl, rfl, rfl, by decide +kernel, rfl, by decide +kernel, by decide +kernel⟩
theorem ok__law_all_hours {f : Addr} {fd : FuncData} (F : Fun K "_law_all_hours" "_law_all_hours" s__law_all_hours f fd) (T : Txt mg) : FnOk P w K mg base CX0 1 f fd ["_law_start", "_law_stop", "_law_weeks"] spAll := by
  refine F.ok sc__law_all_hours (fun vs H Q E h => ?_) (fun cdv A outer s H vs Q E hr h => ?_)
  · obtain ⟨_, _, _, rfl, _⟩ := h
    rfl
  · obtain ⟨a, b, n, rfl, hab, hn, hsz, k⟩ := h
    refine ⟨_, pss_cons (ps_set (i := 3) sc__law_all_hours.nd rfl (Or.inl rfl) (pe_lst pa_nil))
      (pss_cons (ps_for PassesOwn.never rfl (pi_range1 rfl T.z_range (pa_cons (pv 2) pa_nil)) (pg_name (i := 4) sc__law_all_hours.nd rfl (Or.inl rfl))
          (pss_one (ps_for PassesOwn.never rfl (pi_range2 rfl T.z_range (pa_cons (pv 0) (pa_cons (pv 1) pa_nil))) (pg_name (i := 5) sc__law_all_hours.nd rfl (Or.inl rfl))
            (pss_one (ps_expr (pe_bm PySem.F.plainAttrs_list PySem.slot_list_append rfl mt_append (pv 3) (pa_cons (pe_op op_add (pv 5) (pe_op op_mul pe_int (pv 4))) pa_nil)))))))
      (pss_one (ps_ret (pv 3)))), ?_⟩
    refine ⟨Nat.zero_le _, fun p hp => ?_⟩
    refine ⟨_, rfl, n, rfl, hn.1, hn.2, for_range (lo := 0) (n := n.toNat) (fun i σ H2 => ∃ u v, σ = [some (.int a), some (.int b), some (.int n), some (.ref p), u, v] ∧ H2 = upd H p (.lst ((hrsN a b i).map V.int))) ⟨none, none, rfl, rfl⟩ ?_ ?_⟩
    · rintro i σ H2 hi ⟨u, v, rfl, rfl⟩
      refine ⟨_, rfl, _, rfl, a, b, rfl, hab, for_range (lo := a) (n := (b - a).toNat) (fun j σ H3 => ∃ v, σ = [some (.int a), some (.int b), some (.int n), some (.ref p), some (.int (0 + (i : Int))), v] ∧ H3 = upd H p (.lst ((hrsN a b i ++ rowH a i j).map V.int))) ⟨v, rfl, by rw [show rowH a i 0 = [] from rfl, List.append_nil]⟩ ?_ ?_⟩
      · rintro j σ H3 hj ⟨v, rfl, rfl⟩
        have hlen : ((hrsN a b i ++ rowH a i j).map V.int).length < sizeLine := by
          rw [List.length_map, List.length_append, len_hrsN, len_rowH]
          have h1 : (i + 1) * (b - a).toNat ≤ n.toNat * (b - a).toNat := Nat.mul_le_mul_right _ hi
          rw [Nat.succ_mul] at h1
          exact small_of (by omega)
        refine ⟨_, rfl, .inl ⟨rfl, _, SqL.of upd_same⟩, _, rfl, _, rfl, _, _, rfl, rfl, .inl ⟨by decide, by decide⟩, _, _, rfl, rfl, p, _, _, rfl, rfl, upd_same, hlen, ?_⟩
        refine ⟨_, rfl, ?_⟩
        rw [upd_upd, rowH_succ, ← List.append_assoc, List.map_append (l₂ := [_]), Int.zero_add]
        rfl
      · rintro σ H3 ⟨v, rfl, rfl⟩
        exact ⟨_, _, rfl, by rw [hrsN_succ]⟩
    · rintro σ H2 ⟨u, v, rfl, rfl⟩
      exact ⟨_, rfl, k p _ hp (Same.new hp) (by rw [upd_same]; rfl)⟩
def spUpto (K : PySem.W.Frag) : Sp := fun vs H Q _ => ∃ (a : Addr) (ns : List Int) (i j : Int), vs = [.ref a, .int i, .int j] ∧ SqL K H a (ns.map V.int) ∧ ns.length ≤ 63 ∧ Q (.int i) H
abbrev s__law_upto : Stmt := top 14
theorem sc__law_upto : FnScope ["_law_script", "_law_small", "_law_great"] ["_law_script", "_law_small", "_law_great"] (defScope s__law_upto) := ⟨rfl, rfl, rfl, by decide +kernel, rfl, by decide +kernel, by decide +kernel⟩
theorem ok__law_upto {f : Addr} {fd : FuncData} (F : Fun K "_law_upto" "_law_upto" s__law_upto f fd) (T : Txt mg) : FnOk P w K mg base CX0 1 f fd ["_law_script", "_law_small", "_law_great"] (spUpto K) := by
  refine F.ok sc__law_upto (fun vs H Q E h => ?_) (fun cdv A outer s H vs Q E hr h => ?_)
  · obtain ⟨_, _, _, _, rfl, _⟩ := h
    rfl
  · obtain ⟨a, ns, i, j, rfl, hL, hlen, k⟩ := h
    refine ⟨_, pss_cons (ps_if (pt_cmpR op_gt (pe_callB call_len_seq (by rfl) T.z_len PySem.boot_len (pa_cons (pv 0) pa_nil)) pe_int (nomark _))
          (pss_one (ps_ret (pv 2)))
          (pss_nil))
      (pss_one (ps_ret (pv 1))), ?_⟩
    refine ⟨_, rfl, _, _, rfl, .inl hL, _, _, rfl, rfl, _, rfl, ?_⟩
    rw [decide_eq_false (by rw [List.length_map]; omega)]
    exact iteF ⟨_, rfl, k⟩
def spWhole : Sp := fun vs H Q _ => ∃ n : Int, vs = [.int n] ∧ Q (.bl true) H
abbrev s__law_whole : Stmt := top 15
theorem sc__law_whole : FnScope ["_law_found"] ["_law_found"] (defScope s__law_whole) := ⟨rfl, rfl, rfl, by decide +kernel, rfl, by decide +kernel, by decide +kernel⟩
theorem ok__law_whole {f : Addr} {fd : FuncData} (F : Fun K "_law_whole" "_law_whole" s__law_whole f fd) (T : Txt mg) : FnOk P w K mg base CX0 1 f fd ["_law_found"] spWhole := by
  refine F.ok sc__law_whole (fun vs H Q E h => ?_) (fun cdv A outer s H vs Q E hr h => ?_)
  · obtain ⟨_, rfl, _⟩ := h
    rfl
  · obtain ⟨n, rfl, k⟩ := h
    refine ⟨_, pss_one (ps_ret (pe_and (pe_callB call_isin (by rfl) T.z_isinstance boot_isinstance (pa_cons (pv 0) (pa_cons (pe_gty T.z_int bt_int) pa_nil))) (pe_one (pe_not (pe_callB call_isin (by rfl) T.z_isinstance boot_isinstance (pa_cons (pv 0) (pa_cons (pe_gty T.z_bool bt_bool) pa_nil))))))), ?_⟩
    exact ⟨_, rfl, _, _, _, _, rfl, TyOf.int _, kit_self, _, rfl, iteT ⟨_, rfl, _, _, _, _, rfl, TyOf.int _, kit_int_bool, _, rfl, k⟩⟩
abbrev s__law_judged : Stmt := top 19
theorem sc__law_judged : FnScope ["_law_rows", "_law_deed", "_law_names", "_law_made", "_law_spot", "_law_stop", "_law_hours", "_law_hour", "_law_k"] ["_law_rows", "_law_deed"] (defScope s__law_judged) := ⟨rfl, rfl, rfl, by decide +kernel, rfl, by decide +kernel, by decide +kernel⟩
structure JTail (H0 H1 : Hp) (a b pn pm : Addr) (rs : List V) (rows : List Bkg) (m : Bkg) (bk : Bool) (spot : Nat) : Prop where
  sm : Same H0 H1
  la : H1 a = some (.lst rs)
  ta : TupsAt H1 rs (rows.map Bkg.vs)
  db : ∃ dv, H1 b = some (.tup dv) ∧ atI dv 0 = some (.str (if bk then "book" else "move")) ∧ atI dv 1 = some (.str m.name)
  ln : H1 pn = some (.lst (rows.map fun r => V.str r.name))
  tm : H1 pm = some (.tup m.vs)
  ok : RowsOk rows
  mo : m.start ≤ 1000 ∧ m.weeks ≤ 100
  le : spot ≤ rows.length
  len : rows.length ≤ 2000
def JRes (rows : List Bkg) (m : Bkg) (bk : Bool) (spot : Nat) : Str × List Bkg := if noSpan m then ("no span", rows) else if bk && named rows m.name then ("same name", rows) else RW.settle rows spot m
theorem bk_move : decide (V.str (if false = true then ("book" : Str) else "move") = V.str "book") = false := by decide +kernel
theorem bk_book : decide (V.str (if true = true then ("book" : Str) else "move") = V.str "book") = true := by decide +kernel
theorem judged_tail {f : Addr} (T : Txt mg) (G__law_all_hours : Fn P w K mg base 1 "_law_all_hours" ["_law_start", "_law_stop", "_law_weeks"] spAll) (cdv : Value) (A : Around) (outer : List Env) (s : Shared) (H : Hp) (Q : VK) (E : XK)
    (hr : Room 1 (A.deeper (envOfC "_law_judged" (defScope s__law_judged) s.heap.objs.size f cdv))) :
    ∃ t, PSs (cxOf CX0 P w K mg base ["_law_rows", "_law_deed", "_law_names", "_law_made", "_law_spot", "_law_stop", "_law_hours", "_law_hour", "_law_k"] "_law_judged" (defScope s__law_judged) f cdv A outer s H E).nox ((defBody s__law_judged).drop 6) t ∧
      ∀ (H0 H1 : Hp) (a b pn pm : Addr) (rs : List V) (rows : List Bkg) (m : Bkg) (bk : Bool) (spot : Nat) (x : Option V), JTail H0 H1 a b pn pm rs rows m bk spot →
        (∀ (p q : Addr) (rs' : List V) (H' : Hp), Same H0 H' → H' p = some (.tup [.str (JRes rows m bk spot).1, .ref q]) → H' q = some (.lst rs') → TupsAt H' rs' ((JRes rows m bk spot).2.map Bkg.vs) → Q (.ref p) H') →
        t { nx := fun _ H' => Q .non H', rt := Q } [some (.ref a), some (.ref b), some (.ref pn), some (.ref pm), some (.int spot), x, none, none, none] H1 := by
  have hu := hu_of hr
  refine ⟨_, pss_cons (ps_if (pw_or (pt_cmpR op_lt (pe_ix ix_tup (pv 3) pe_int (fun _ _ => rfl)) pe_int (nomark _)) (pw_or (pt_cmpR op_le (pe_ix ix_tup (pv 3) pe_int (fun _ _ => rfl)) (pe_ix ix_tup (pv 3) pe_int (fun _ _ => rfl)) (nomark _)) (pw_or (pt_cmpR op_gt (pe_op op_sub (pe_ix ix_tup (pv 3) pe_int (fun _ _ => rfl)) (pe_ix ix_tup (pv 3) pe_int (fun _ _ => rfl))) pe_int (nomark _)) (pw_or1 (pt_cmpR op_lt (pe_ix ix_tup (pv 3) pe_int (fun _ _ => rfl)) pe_int (nomark _)))))).pt
          (pss_one (ps_ret (pe_tup (pa_cons pe_str (pa_cons (pv 0) pa_nil)))))
          (pss_nil))
      (pss_cons (ps_if (pw_and (pt_cmpR op_eq (pe_ix ix_tup (pv 1) pe_int (fun _ _ => rfl)) pe_str (nomark _)) (pw_and1 (pt_cmpR op_in_seq (pe_ix ix_tup (pv 1) pe_int (fun _ _ => rfl)) (pv 2) (by with_unfolding_all rfl)))).pt
          (pss_one (ps_ret (pe_tup (pa_cons pe_str (pa_cons (pv 0) pa_nil)))))
          (pss_nil))
      (pss_cons (ps_set (i := 6) sc__law_judged.nd rfl (Or.inl rfl) pe_dnewK)
      (pss_cons (ps_for PassesOwn.never rfl (pi_list (pe_fn G__law_all_hours hr (pa_cons (pe_ix ix_tup (pv 3) pe_int (fun _ _ => rfl)) (pa_cons (pe_ix ix_tup (pv 3) pe_int (fun _ _ => rfl)) (pa_cons (pe_ix ix_tup (pv 3) pe_int (fun _ _ => rfl)) pa_nil))))) (pg_name (i := 7) sc__law_judged.nd rfl (Or.inl rfl))
          (pss_one (ps_dput hu (pv 6) (pv 7) pe_bl rfl)))
      (pss_cons (ps_for PassesOwn.never rfl (pi_range1 rfl T.z_range (pa_cons (pe_callB call_len_seq (by rfl) T.z_len PySem.boot_len (pa_cons (pv 0) pa_nil)) pa_nil)) (pg_name (i := 8) sc__law_judged.nd rfl (Or.inl rfl))
          (pss_one (ps_if (pw_and (pt_cmpR op_ne (pv 8) (pv 4) (nomark _)) (pw_and1 (pt_cmpR op_eq (pe_ix ix_tup (pe_ix ix_list (pv 0) (pv 8) (fun _ _ => rfl)) pe_int (fun _ _ => rfl)) (pe_ix ix_tup (pv 3) pe_int (fun _ _ => rfl)) (nomark _)))).pt
            (pss_one (ps_for PassesOwn.never rfl (pi_list (pe_fn G__law_all_hours hr (pa_cons (pe_ix ix_tup (pe_ix ix_list (pv 0) (pv 8) (fun _ _ => rfl)) pe_int (fun _ _ => rfl)) (pa_cons (pe_ix ix_tup (pe_ix ix_list (pv 0) (pv 8) (fun _ _ => rfl)) pe_int (fun _ _ => rfl)) (pa_cons (pe_ix ix_tup (pe_ix ix_list (pv 0) (pv 8) (fun _ _ => rfl)) pe_int (fun _ _ => rfl)) pa_nil))))) (pg_name (i := 7) sc__law_judged.nd rfl (Or.inl rfl))
              (pss_one (ps_if (pt_cmp (pc_din hu (pv 7) (pv 6)))
                (pss_one (ps_ret (pe_tup (pa_cons pe_str (pa_cons (pv 0) pa_nil)))))
                (pss_nil)))))
            (pss_nil))))
      (pss_one (ps_ret (pe_tup (pa_cons pe_str (pa_cons (pe_op op_cat (pe_op op_cat (pe_slice sl_list (pv 0) po_none (po_some (pv 4))) (pe_lst (pa_cons (pv 3) pa_nil))) (pe_slice sl_list (pv 0) (po_some (pe_op op_add (pv 4) pe_int)) po_none)) pa_nil))))))))), ?_⟩
  intro H0 H1 a b pn pm rs rows m bk spot x J k
  obtain ⟨sm, la, ta, ⟨dv, db, d0, d1⟩, ln, tm, ok, mo, le, len⟩ := J
  -- a result that leaves the rows as they are
  have back : ∀ (word : Str) (H' : Hp), Same H1 H' → (JRes rows m bk spot) = (word, rows) → ∀ p, H' p = none → Q (.ref p) (upd H' p (.tup [.str word, .ref a])) := fun word H' s' e p hp =>
    k p a rs _ ((sm.trans s').trans (Same.new hp)) (by rw [upd_same, e]) ((Same.new hp) _ _ (s' _ _ la)) (by rw [e]; exact (ta.same s').same (Same.new hp))
  -- no span
  refine seq_at (fun σ H' => H1 = H' ∧ σ = [some (.ref a), some (.ref b), some (.ref pn), some (.ref pm), some (.int spot), x, none, none, none] ∧ noSpan m = false) (fun M hM => ?_) ?_
  · have ret : noSpan m = true → ∀ p, H1 p = none → Q (.ref p) (upd H1 p (.tup [.str "no span", .ref a])) := fun e p hp => back "no span" H1 (Same.refl _) (by unfold JRes; rw [e]; rfl) p hp
    unfold noSpan at ret hM
    refine ⟨_, rfl, _, _, _, _, rfl, rfl, SqT.of tm, rfl, _, _, rfl, rfl, _, rfl, ?_⟩
    cases c1 : decide (m.start < 0) with
    | true => exact iteT (iteT ⟨_, rfl, len2, fun p hp => ret (by rw [c1]; rfl) p hp⟩)
    | false =>
      refine iteF ⟨_, rfl, _, _, _, _, rfl, rfl, SqT.of tm, rfl, _, rfl, _, _, _, _, rfl, rfl, SqT.of tm, rfl, _, _, rfl, rfl, _, rfl, ?_⟩
      cases c2 : decide (m.stop ≤ m.start) with
      | true => exact iteT (iteT ⟨_, rfl, len2, fun p hp => ret (by rw [c1, c2]; rfl) p hp⟩)
      | false =>
        refine iteF ⟨_, rfl, _, _, _, _, rfl, rfl, SqT.of tm, rfl, _, rfl, _, _, _, _, rfl, rfl, SqT.of tm, rfl, _, _, rfl, rfl, _, _, rfl, rfl, _, rfl, ?_⟩
        cases c3 : decide (168 < m.stop - m.start) with
        | true => exact iteT (iteT ⟨_, rfl, len2, fun p hp => ret (by rw [c1, c2, c3]; rfl) p hp⟩)
        | false =>
          refine iteF ⟨_, rfl, _, _, _, _, rfl, rfl, SqT.of tm, rfl, _, _, rfl, rfl, _, rfl, ?_⟩
          cases c4 : decide (m.weeks < 1) with
          | true => exact iteT ⟨_, rfl, len2, fun p hp => ret (by rw [c1, c2, c3, c4]; rfl) p hp⟩
          | false => exact iteF (hM _ _ ⟨rfl, rfl, by rw [c1, c2, c3, c4]; rfl⟩)
  rintro σ H' ⟨rfl, rfl, nsp⟩
  have bm : RowOk m := ⟨nsp, mo.1, mo.2⟩
  -- the same name
  refine seq_at (fun σ H2 => H1 = H2 ∧ σ = [some (.ref a), some (.ref b), some (.ref pn), some (.ref pm), some (.int spot), x, none, none, none] ∧ (bk && named rows m.name) = false) (fun M hM => ?_) ?_
  · refine ⟨_, rfl, _, _, _, _, rfl, rfl, SqT.of db, d0, rfl, _, rfl, ?_⟩
    cases bk with
    | false =>
      rw [bk_move]
      exact iteF (iteF (hM _ _ ⟨rfl, rfl, rfl⟩))
    | true =>
      rw [bk_book]
      refine iteT ⟨_, rfl, _, _, _, _, rfl, rfl, SqT.of db, d1, _, rfl, pn, _, rfl, .inl (SqL.of ln), rfl, flat_names rows, _, rfl, ?_⟩
      rw [if_neg (by decide), inV_names]
      cases e : named rows m.name with
      | true => exact iteT ⟨_, rfl, len2, fun p hp => back "same name" H1 (Same.refl _) (by unfold JRes; rw [nsp, e]; rfl) p hp⟩
      | false => exact iteF (hM _ _ ⟨rfl, rfl, by rw [e]; rfl⟩)
  rintro σ H2 ⟨rfl, rfl, nsn⟩
  have hJ : JRes rows m bk spot = RW.settle rows spot m := by
    unfold JRes
    rw [nsp, nsn]; rfl
  -- hours = {}
  intro dd hdd
  have s4 : Same H1 (upd H1 dd (.dK [])) := Same.new hdd
  obtain ⟨q1, q2, q3⟩ := bm.bd
  refine ⟨_, rfl, _, _, _, _, rfl, rfl, SqT.of (s4 _ _ tm), rfl, _, rfl, _, _, _, _, rfl, rfl, SqT.of (s4 _ _ tm), rfl, _, rfl, _, _, _, _, rfl, rfl, SqT.of (s4 _ _ tm), rfl, m.start, m.stop, m.weeks, rfl, q1, q2, Nat.le_trans q3 (by decide), fun p5 H5 hp5 s5 e5 => ?_⟩
  have ed : H5 dd = some (.dK []) := s5 _ _ upd_same
  have nd : p5 ≠ dd := fun z => by rw [z, upd_same] at hp5; cases hp5
  refine ⟨_, rfl, ⟨_, SqL.of e5⟩, for_list (K := K) (a := p5) (xs := m.hours.map V.int) (fun i σ H' => ∃ kvs u, σ = [some (.ref a), some (.ref b), some (.ref pn), some (.ref pm), some (.int spot), x, some (.ref dd), u, none] ∧ Same H1 H' ∧ H' dd = some (.dK kvs) ∧ H' p5 = some (.lst (m.hours.map V.int)) ∧ KeysAre kvs (m.hours.take i) ∧ kvs.length ≤ i)
    ⟨[], none, rfl, s4.trans s5, ed, e5, KeysAre.nil, Nat.le_refl _⟩ (fun i σ H' _ ⟨_, _, _, _, _, z, _⟩ => SqL.of z) ?_ ?_⟩
  · rintro i y σ H' hi ⟨kvs, u, rfl, s6, e6, f6, k6, z6⟩
    obtain ⟨h, rfl, ht, _, hil⟩ := get_ints hi
    have hil' : i < m.weeks.toNat * (m.stop - m.start).toNat := by rw [← len_hrs]; exact hil
    have hz : kvs.length < sizeLine := small_of (by omega)
    refine ⟨_, rfl, _, rfl, dd, _, rfl, DPut.k (k := Sum.inl h) e6 hz, ?_⟩
    refine ⟨_, _, rfl, s6.put hdd, upd_same, ?_, ?_, ?_⟩
    · rw [upd_ne nd]; exact f6
    · rw [ht]; exact k6.put h _
    · exact Nat.le_trans (length_putK _ _ _) (Nat.succ_le_succ z6)
  rintro σ H6 ⟨kvs, u, rfl, s6, e6, _, k6, _⟩
  rw [List.length_map, List.take_length] at k6
  -- the others' hours
  have rl := ta.len
  rw [List.length_map] at rl
  refine ⟨_, rfl, _, _, rfl, .inl (SqL.of (s6 _ _ la)), _, rfl, by rw [rl]; omega, by rw [rl]; omega, ?_⟩
  rw [show ((rs.length : Nat) : Int).toNat = rows.length by rw [rl]; rfl]
  refine for_range (lo := 0) (n := rows.length) (fun i σ H' => ∃ u v, σ = [some (.ref a), some (.ref b), some (.ref pn), some (.ref pm), some (.int spot), x, some (.ref dd), u, v] ∧ Same H6 H' ∧ ∀ j r, j < i → rows[j]? = some r → (decide (j ≠ spot) && clash m r) = false)
    ⟨_, _, rfl, Same.refl _, fun j r hj => absurd hj (Nat.not_lt_zero _)⟩ ?_ ?_
  · rintro i σ H7 hi ⟨u, v, rfl, s7, no⟩
    obtain ⟨r, hrow⟩ : ∃ r, rows[i]? = some r := ⟨_, List.getElem?_eq_getElem hi⟩
    have s17 := s6.trans s7
    obtain ⟨ar, har, hrt⟩ := row_of (ta.same s17) hrow
    have har' : atI rs (0 + (i : Int)) = some (.ref ar) := by rw [Int.zero_add]; exact atI_nat har
    have next : (decide (i ≠ spot) && clash m r) = false → ∀ H8, Same H6 H8 → ∀ u, ∃ u' v', [some (V.ref a), some (.ref b), some (.ref pn), some (.ref pm), some (.int spot), x, some (.ref dd), u, some (.int (0 + (i : Int)))] = [some (V.ref a), some (.ref b), some (.ref pn), some (.ref pm), some (.int spot), x, some (.ref dd), u', v'] ∧ Same H6 H8 ∧ ∀ j r, j < i + 1 → rows[j]? = some r → (decide (j ≠ spot) && clash m r) = false := fun e H8 s8 u =>
      ⟨_, _, rfl, s8, fun j r' hj hr' => by
        by_cases z : j = i
        · subst z; rw [hrow] at hr'; cases hr'; exact e
        · exact no j r' (by omega) hr'⟩
    have dk : decide (V.int (0 + (i : Int)) = V.int spot) = decide (i = spot) := decide_eq_decide.mpr ⟨fun z => by have := V.int.inj z; omega, fun z => by rw [z, Int.zero_add]⟩
    refine ⟨_, rfl, _, rfl, rfl, _, rfl, ?_⟩
    rw [dk]
    cases c1 : decide (i = spot) with
    | true =>
      refine iteF (iteF ?_)
      exact next (by rw [decide_eq_false (fun z => z (of_decide_eq_true c1))]; rfl) _ s7 _
    | false =>
      refine iteT ⟨_, rfl, _, rfl, _, _, _, _, rfl, rfl, SqL.of (s17 _ _ la), har', _, _, _, _, rfl, rfl, SqT.of hrt, rfl, _, rfl, _, _, _, _, rfl, rfl, SqT.of (s17 _ _ tm), rfl, rfl, _, rfl, ?_⟩
      have dr : decide (V.int r.room = V.int m.room) = decide (r.room = m.room) := decide_eq_decide.mpr ⟨V.int.inj, congrArg _⟩
      have di : decide (i ≠ spot) = true := decide_eq_true (of_decide_eq_false c1)
      show (if decide (V.int r.room = V.int m.room) = true then _ else _)
      rw [dr]
      cases c2 : decide (r.room = m.room) with
      | false =>
        refine iteF ?_
        exact next (by rw [di]; unfold clash; rw [c2]; rfl) _ s7 _
      | true =>
        have rok := ok r (List.mem_of_getElem? hrow)
        obtain ⟨g1, g2, g3⟩ := rok.bd
        refine iteT ⟨_, rfl, _, rfl, _, _, _, _, rfl, rfl, SqL.of (s17 _ _ la), har', _, _, _, _, rfl, rfl, SqT.of hrt, rfl, _, rfl, _, rfl, _, _, _, _, rfl, rfl, SqL.of (s17 _ _ la), har', _, _, _, _, rfl, rfl, SqT.of hrt, rfl, _, rfl, _, rfl, _, _, _, _, rfl, rfl, SqL.of (s17 _ _ la), har', _, _, _, _, rfl, rfl, SqT.of hrt, rfl,
          r.start, r.stop, r.weeks, rfl, g1, g2, Nat.le_trans g3 (by decide), fun p8 H8 hp8 s8 e8 => ?_⟩
        refine ⟨_, rfl, ⟨_, SqL.of e8⟩, for_list (K := K) (a := p8) (xs := r.hours.map V.int) (fun j σ H' => H' = H8 ∧ (∃ u, σ = [some (.ref a), some (.ref b), some (.ref pn), some (.ref pm), some (.int spot), x, some (.ref dd), u, some (.int (0 + (i : Int)))]) ∧ ((r.hours.take j).any fun h => decide (h ∈ m.hours)) = false)
          ⟨rfl, ⟨_, rfl⟩, rfl⟩ (fun j σ H' _ ⟨z, _⟩ => by rw [z]; exact SqL.of e8) ?_ ?_⟩
        · rintro j y σ H' hj ⟨rfl, ⟨u, rfl⟩, na⟩
          obtain ⟨h, rfl, ht, hmem, _⟩ := get_ints hj
          refine ⟨_, rfl, _, rfl, dd, _, rfl, DGet.k (k := Sum.inl h) (s8 _ _ (s7 _ _ e6)), _, rfl, ?_⟩
          rw [k6 h]
          cases c3 : decide (h ∈ m.hours) with
          | true =>
            refine iteT ⟨_, rfl, len2, fun p hp => back "taken" H' (s17.trans s8) ?_ p hp⟩
            rw [hJ]
            have oth : others rows spot m = true := by
              unfold others
              refine List.any_eq_true.mpr ⟨i, List.mem_range.mpr hi, ?_⟩
              rw [hrow, di]
              show clash m r = true
              unfold clash
              rw [c2]
              exact (meetB_iff _ _ _ _ _ _).mpr ⟨h, hmem, of_decide_eq_true c3⟩
            unfold RW.settle
            rw [if_pos oth]
          | false =>
            refine iteF ⟨rfl, ⟨_, rfl⟩, ?_⟩
            rw [ht, List.any_append, na]
            simp [c3]
        · rintro σ H' ⟨rfl, ⟨u, rfl⟩, na⟩
          rw [List.length_map, List.take_length] at na
          refine next ?_ _ (s7.trans s8) _
          rw [di]
          unfold clash
          rw [c2, ← meetB_comm, ← any_due]
          exact na
  · rintro σ H7 ⟨u, v, rfl, s7, no⟩
    have s17 := s6.trans s7
    have oth : others rows spot m = false := by
      unfold others
      refine List.any_eq_false.mpr fun j hj => ?_
      have hj' := List.mem_range.mp hj
      rw [List.getElem?_eq_getElem hj']
      rw [no j _ hj' (List.getElem?_eq_getElem hj')]
      decide
    have hS : JRes rows m bk spot = (("done" : Str), rows.take spot ++ [m] ++ rows.drop (spot + 1)) := by
      rw [hJ]; unfold RW.settle; rw [oth]; rfl
    -- rows[:spot] + [made] + rows[spot + 1:]
    refine ⟨_, rfl, _, rfl, _, rfl, a, rs, rfl, SqL.of (s17 _ _ la), fun p1 hp1 => ⟨_, rfl, len1, fun p2 hp2 => ?_⟩⟩
    rw [cut_take] at hp2 ⊢
    have z1 : Same H7 (upd H7 p1 (.lst (rs.take spot))) := Same.new hp1
    have z2 := Same.new (o := .lst [.ref pm]) hp2
    refine ⟨p1, p2, _, _, rfl, rfl, z2 _ _ upd_same, upd_same, ?_, fun p3 hp3 => ?_⟩
    · rw [List.length_take]; exact Nat.le_of_lt (small_of (by show min spot rs.length + 1 ≤ 1000000; omega))
    have z3 := Same.new (o := .lst (rs.take spot ++ [.ref pm])) hp3
    have z13 := (z1.trans z2).trans z3
    refine ⟨_, rfl, _, rfl, _, _, rfl, rfl, _, rfl, a, rs, rfl, SqL.of (z13 _ _ (s17 _ _ la)), fun p4 hp4 => ?_⟩
    rw [cut_drop (xs := rs) (i := (spot : Int) + 1) (n := spot + 1) rfl]
    have hp4' := hp4
    have z4 : ∀ o, Same _ (upd _ p4 o) := fun o => Same.new (o := o) hp4
    refine ⟨p3, p4, _, _, rfl, rfl, z4 _ _ _ upd_same, upd_same, ?_, fun p5 hp5 => ?_⟩
    · rw [List.length_append, List.length_take, List.length_drop]; exact Nat.le_of_lt (small_of (by show min spot rs.length + 1 + (rs.length - (spot + 1)) ≤ 1000000; omega))
    have z5 : ∀ o, Same _ (upd _ p5 o) := fun o => Same.new (o := o) hp5
    refine ⟨len2, fun p hp => ?_⟩
    have z6 := Same.new (o := .tup [.str "done", .ref p5]) hp
    have zz := ((s17.trans z13).trans (z4 _)).trans ((z5 _).trans z6)
    refine k p p5 _ _ (sm.trans zz) (by rw [upd_same, hS]) (z6 _ _ upd_same) ?_
    rw [hS]
    show TupsAt _ _ ((rows.take spot ++ [m] ++ rows.drop (spot + 1)).map Bkg.vs)
    rw [List.map_append, List.map_append, List.map_take, List.map_drop]
    have tz := ta.same zz
    exact ((tz.take spot).append (.cons ⟨pm, rfl, zz _ _ tm⟩ .nil)).append (tz.drop (spot + 1))
theorem ok__law_judged {f : Addr} {fd : FuncData} (F : Fun K "_law_judged" "_law_judged" s__law_judged f fd) (T : Txt mg) (G__law_all_hours : Fn P w K mg base 1 "_law_all_hours" ["_law_start", "_law_stop", "_law_weeks"] spAll) : FnOk P w K mg base CX0 2 f fd ["_law_rows", "_law_deed"] spJudged := by
  refine F.ok sc__law_judged (fun vs H Q E h => ?_) (fun cdv A outer s H vs Q E hr h => ?_)
  · obtain ⟨_, _, _, _, _, rfl, _⟩ := h
    rfl
  · obtain ⟨a, b, rs, rows, d, rfl, la, ta, db, ok, dok, len, k⟩ := h
    have hu := hu_of hr
    have rl := ta.len
    rw [List.length_map] at rl
    obtain ⟨tt, hRest, tail⟩ := judged_tail T G__law_all_hours cdv A outer s H Q E hr
    refine ⟨_, pss_cons (ps_setComp (i := 2) rfl (fv := []) (js := []) ⟨rfl, rfl, by decide +kernel, by decide +kernel, rfl, trivial, trivial, rfl, by decide +kernel⟩ (pi_list (pv 0)) (fun _ _ _ _ => .inl ⟨rfl, rfl⟩) (fun _ _ _ _ => (pe_ix (ix_tupK (K := K)) (pv 0) pe_int (fun _ _ => rfl))) sc__law_judged.nd rfl (Or.inl rfl) rfl)
      (pss_cons (ps_if (pw_and (pt_cmpR op_ne (pe_ix ix_tup (pv 1) pe_int (fun _ _ => rfl)) pe_str (nomark _)) (pw_and1 (pt_cmpR op_notIn_seq (pe_ix ix_tup (pv 1) pe_int (fun _ _ => rfl)) (pv 2) (by with_unfolding_all rfl)))).pt
          (pss_one (ps_ret (pe_tup (pa_cons pe_str (pa_cons (pv 0) pa_nil)))))
          (pss_nil))
      (pss_cons (ps_if (pt_cmpR op_eq (pe_ix ix_tup (pv 1) pe_int (fun _ _ => rfl)) pe_str (nomark _))
          (pss_one (ps_ret (pe_tup (pa_cons pe_str (pa_cons (pe_comp rfl (fv := ["_law_deed"]) (js := [1]) ⟨rfl, rfl, by decide +kernel, by decide +kernel, rfl, ⟨⟨rfl, rfl, Or.inl rfl, rfl⟩, trivial⟩, ⟨rfl, trivial⟩, rfl, by decide +kernel⟩ (pi_list (pv 0)) (fun _ _ _ _ => .inr ⟨_, rfl, (pt_cmpR op_ne (pe_ix (ix_tupK (K := K)) (pv 0) pe_int (fun _ _ => rfl)) (pe_ix (ix_tupK (K := K)) (pv 1) pe_int (fun _ _ => rfl)) (nomark _))⟩) (fun _ _ _ _ => (pv 0))) pa_nil)))))
          (pss_nil))
      (pss_cons (ps_set (i := 3) sc__law_judged.nd rfl (Or.inl rfl) (pe_slice sl_tup (pv 1) (po_some pe_int) po_none))
      (pss_cons (ps_set (i := 4) sc__law_judged.nd rfl (Or.inl rfl) (pe_callB call_len_seq (by rfl) T.z_len PySem.boot_len (pa_cons (pv 0) pa_nil)))
      (pss_cons (ps_if (pt_cmpR op_eq (pe_ix ix_tup (pv 1) pe_int (fun _ _ => rfl)) pe_str (nomark _))
          (pss_cons (ps_set (i := 4) sc__law_judged.nd rfl (Or.inl rfl) (pe_bm PySem.F.plainAttrs_list PySem.F.slot_list_index rfl mt_index (pv 2) (pa_cons (pe_ix ix_tup (pv 1) pe_int (fun _ _ => rfl)) pa_nil)))
          (pss_cons (ps_set (i := 5) sc__law_judged.nd rfl (Or.inl rfl) (pe_op op_sub (pe_op op_add (pe_ix ix_tup (pv 1) pe_int (fun _ _ => rfl)) (pe_ix ix_tup (pe_ix ix_list (pv 0) (pv 4) (fun _ _ => rfl)) pe_int (fun _ _ => rfl))) (pe_ix ix_tup (pe_ix ix_list (pv 0) (pv 4) (fun _ _ => rfl)) pe_int (fun _ _ => rfl))))
          (pss_one (ps_set (i := 3) sc__law_judged.nd rfl (Or.inl rfl) (pe_tup (pa_cons (pe_ix ix_tup (pv 1) pe_int (fun _ _ => rfl)) (pa_cons (pe_ix ix_tup (pv 1) pe_int (fun _ _ => rfl)) (pa_cons (pe_ix ix_tup (pv 1) pe_int (fun _ _ => rfl)) (pa_cons (pv 5) (pa_cons (pe_ix ix_tup (pe_ix ix_list (pv 0) (pv 4) (fun _ _ => rfl)) pe_int (fun _ _ => rfl)) pa_nil))))))))))
          (pss_nil))
      (hRest)))))), ?_⟩
    -- names
    refine ⟨_, rfl, a, rfl, ⟨_, SqL.of la⟩, fun pn hpn => comp_pure (fun _ => true) (fstOf H) (SqL.of la) hpn (by omega) (fun x hx H' s' R hR => hR) (fun x hx H' s' R hR => ?_) ?_⟩
    · obtain ⟨i, hi⟩ := List.getElem?_of_mem hx
      obtain ⟨r, row, rfl, hrow, _⟩ := row_at ta hi
      have e : fstOf H (.ref r) = .str row.name := by
        show (match H r with | some (.tup (v :: _)) => v | _ => .non) = _
        rw [hrow]; rfl
      rw [e] at hR
      exact ⟨_, rfl, r, _, _, _, rfl, rfl, SqT.of (s' _ _ hrow), rfl, hR⟩
    rw [List.filter_eq_self.mpr (fun _ _ => rfl), fst_rows ta]
    have s1 : Same H (upd H pn (.lst (rows.map fun r => V.str r.name))) := Same.new hpn
    have ln : (upd H pn (.lst (rows.map fun r => V.str r.name))) pn = some (.lst (rows.map fun r => V.str r.name)) := upd_same
    generalize upd H pn (.lst (rows.map fun r => V.str r.name)) = H1 at s1 ln
    -- a result that leaves the rows as they are
    have back : ∀ (word : Str) (H' : Hp), Same H H' → judge rows d = (word, rows) → ∀ p, H' p = none → Q (.ref p) (upd H' p (.tup [.str word, .ref a])) := fun word H' s' e p hp =>
      k p a rs _ (s'.trans (Same.new hp)) (by rw [upd_same, e]) ((Same.new hp) _ _ (s' _ _ la)) (by rw [e]; exact (ta.same s').same (Same.new hp))
    have db1 := s1 _ _ db
    have la1 := s1 _ _ la
    cases d with
    | book m =>
      refine ⟨_, rfl, _, _, _, _, rfl, rfl, SqT.of db1, rfl, rfl, _, rfl, ?_⟩
      rw [show decide (V.str ("book" : Str) = V.str "book") = true by decide +kernel]
      refine iteF (iteF ⟨_, rfl, _, _, _, _, rfl, rfl, SqT.of db1, rfl, rfl, _, rfl, ?_⟩)
      rw [show decide (V.str ("book" : Str) = V.str "cancel") = false by decide +kernel]
      refine iteF ⟨_, rfl, _, rfl, b, _, rfl, SqT.of db1, fun z => absurd (show HT.sIx 6 0 (some 1) = 0 from z.1) (by decide), fun pm hpm => ?_⟩
      have s2 : Same H1 (upd H1 pm (.tup m.vs)) := Same.new hpm
      refine ⟨_, rfl, a, rs, rfl, .inl (SqL.of (s2 _ _ la1)), ?_⟩
      refine ⟨_, rfl, _, _, _, _, rfl, rfl, SqT.of (s2 _ _ db1), rfl, rfl, _, rfl, ?_⟩
      rw [show decide (V.str ("book" : Str) = V.str "move") = false by decide +kernel]
      refine iteF ?_
      have dok' : m.start ≤ 1000 ∧ m.weeks ≤ 100 := dok
      have := tail H (upd H1 pm (.tup m.vs)) a b pn pm rs rows m true rs.length none
        ⟨s1.trans s2, s2 _ _ la1, ta.same (s1.trans s2), ⟨_, s2 _ _ db1, rfl, rfl⟩, s2 _ _ ln, upd_same, ok, dok', by omega, len⟩ (by
          have e : judge rows (.book m) = JRes rows m true rs.length := by rw [judge_book]; unfold JRes; rw [Bool.true_and, rl]
          rw [← e]; exact k)
      exact this
    | cancel n =>
      refine ⟨_, rfl, _, _, _, _, rfl, rfl, SqT.of db1, rfl, rfl, _, rfl, ?_⟩
      rw [show decide (V.str ("cancel" : Str) = V.str "book") = false by decide +kernel]
      refine iteT ⟨_, rfl, _, _, _, _, rfl, rfl, SqT.of db1, rfl, _, rfl, pn, _, rfl, .inl (SqL.of ln), rfl, flat_names rows, _, rfl, ?_⟩
      rw [if_pos rfl, inV_names]
      cases e : named rows n with
      | false => exact iteT ⟨_, rfl, len2, fun p hp => back "no name" H1 s1 (by rw [judge_cancel, e]; rfl) p hp⟩
      | true =>
        refine iteF ⟨_, rfl, _, _, _, _, rfl, rfl, SqT.of db1, rfl, rfl, _, rfl, ?_⟩
        rw [show decide (V.str ("cancel" : Str) = V.str "cancel") = true by decide +kernel]
        refine iteT ⟨_, rfl, a, rfl, ⟨_, SqL.of la1⟩, fun pf hpf => comp_pure (fun x => !decide (fstOf H x = .str n)) (fun x => x) (SqL.of la1) hpf (by omega) (fun x hx H' s' R hR => ?_) (fun x hx H' s' R hR => ⟨_, rfl, hR⟩) ?_⟩
        · obtain ⟨i, hi⟩ := List.getElem?_of_mem hx
          obtain ⟨r, row, rfl, hrow, _⟩ := row_at ta hi
          have e2 : fstOf H (.ref r) = .str row.name := by
            show (match H r with | some (.tup (v :: _)) => v | _ => .non) = _
            rw [hrow]; rfl
          rw [e2] at hR
          exact ⟨_, rfl, r, _, _, _, rfl, rfl, SqT.of (s' _ _ (s1 _ _ hrow)), rfl, _, rfl, _, _, _, _, rfl, rfl, SqT.of (s' _ _ db1), rfl, rfl, _, rfl, hR⟩
        rw [List.map_id']
        have s2 := Same.new (o := .lst (rs.filter fun x => !decide (fstOf H x = .str n))) hpf
        refine ⟨len2, fun p hp => ?_⟩
        have s3 := Same.new (o := .tup [.str "done", .ref pf]) hp
        have e3 : judge rows (.cancel n) = (("done" : Str), rows.filter fun r => !decide (r.name = n)) := by rw [judge_cancel, e]; rfl
        refine k p pf _ _ ((s1.trans s2).trans s3) (by rw [upd_same, e3]) (s3 _ _ upd_same) ?_
        rw [e3]
        exact (filter_rows ta).same ((s1.trans s2).trans s3)
    | move n room beg =>
      refine ⟨_, rfl, _, _, _, _, rfl, rfl, SqT.of db1, rfl, rfl, _, rfl, ?_⟩
      rw [show decide (V.str ("move" : Str) = V.str "book") = false by decide +kernel]
      refine iteT ⟨_, rfl, _, _, _, _, rfl, rfl, SqT.of db1, rfl, _, rfl, pn, _, rfl, .inl (SqL.of ln), rfl, flat_names rows, _, rfl, ?_⟩
      rw [if_pos rfl, inV_names]
      cases e : named rows n with
      | false => exact iteT ⟨_, rfl, len2, fun p hp => back "no name" H1 s1 (judge_move0 (idx_none e)) p hp⟩
      | true =>
        obtain ⟨i, r, i1, i2, i3, i4⟩ := idx_named e
        have hi : i < rows.length := (List.getElem?_eq_some_iff.mp i2).1
        refine iteF ⟨_, rfl, _, _, _, _, rfl, rfl, SqT.of db1, rfl, rfl, _, rfl, ?_⟩
        rw [show decide (V.str ("move" : Str) = V.str "cancel") = false by decide +kernel]
        refine iteF ⟨_, rfl, _, rfl, b, _, rfl, SqT.of db1, fun z => absurd (show HT.sIx 4 0 (some 1) = 0 from z.1) (by decide), fun p0 hp0 => ?_⟩
        have s2 : ∀ o, Same H1 (upd H1 p0 o) := fun o => Same.new hp0
        refine ⟨_, rfl, a, rs, rfl, .inl (SqL.of (s2 _ _ _ la1)), ?_⟩
        refine ⟨_, rfl, _, _, _, _, rfl, rfl, SqT.of (s2 _ _ _ db1), rfl, rfl, _, rfl, ?_⟩
        rw [show decide (V.str ("move" : Str) = V.str "move") = true by decide +kernel]
        obtain ⟨ar, har, hrt⟩ := row_of ta i2
        have hrt2 : ∀ o, (upd H1 p0 o) ar = some (.tup r.vs) := fun o => s2 o _ _ (s1 _ _ hrt)
        refine iteT ⟨_, rfl, .inl ⟨rfl, _, SqL.of (s2 _ _ _ ln)⟩, _, rfl, _, _, _, _, rfl, rfl, SqT.of (s2 _ _ _ db1), rfl, pn, _, _, i, rfl, rfl, s2 _ _ _ ln, rfl, flat_names rows, ⟨.str r.name, by rw [List.getElem?_map, i2]; rfl, ?_⟩, fun j z hj hz => ?_, ?_⟩
        · show (r.name == n) = true
          rw [i3]; exact beq_self_eq_true _
        · rw [List.getElem?_map] at hz
          cases q : rows[j]? with
          | none => rw [q] at hz; cases hz
          | some rr =>
            rw [q] at hz; cases hz
            exact beq_eq_false_iff_ne.mpr (i4 j rr hj q)
        have hat : atI rs (i : Int) = some (.ref ar) := atI_nat har
        -- stop, made
        refine ⟨_, rfl, _, _, _, _, rfl, rfl, SqT.of (s2 _ _ _ db1), rfl, _, rfl, _, rfl, _, _, _, _, rfl, rfl, SqL.of (s2 _ _ _ la1), hat, _, _, _, _, rfl, rfl, SqT.of (hrt2 _), rfl, _, _, rfl, rfl, _, rfl, _, rfl, _, _, _, _, rfl, rfl, SqL.of (s2 _ _ _ la1), hat, _, _, _, _, rfl, rfl, SqT.of (hrt2 _), rfl, _, _, rfl, rfl, ?_⟩
        refine ⟨_, rfl, _, _, _, _, rfl, rfl, SqT.of (s2 _ _ _ db1), rfl, _, rfl, _, _, _, _, rfl, rfl, SqT.of (s2 _ _ _ db1), rfl, _, rfl, _, _, _, _, rfl, rfl, SqT.of (s2 _ _ _ db1), rfl, _, rfl, _, rfl, _, rfl, _, _, _, _, rfl, rfl, SqL.of (s2 _ _ _ la1), hat, _, _, _, _, rfl, rfl, SqT.of (hrt2 _), rfl, len5, fun pm hpm => ?_⟩
        have s3 := Same.new (o := .tup (movedRow rows i n room beg).vs) hpm
        have em : movedRow rows i n room beg = ⟨n, room, beg, beg + r.stop - r.start, r.weeks⟩ := by unfold movedRow; rw [i2]
        have rok := ok r (List.mem_of_getElem? i2)
        have s123 := (s1.trans (s2 _)).trans s3
        have := tail H _ a b pn pm rs rows (movedRow rows i n room beg) false i (some (.int (beg + r.stop - r.start)))
          ⟨s123, s123 _ _ la, ta.same s123, ⟨_, s123 _ _ db, rfl, by rw [em]; rfl⟩, s3 _ _ (s2 _ _ _ ln), upd_same, ok, by rw [em]; exact ⟨dok, rok.2.2⟩, by omega, len⟩ (by
            have e3 : judge rows (.move n room beg) = JRes rows (movedRow rows i n room beg) false i := by
              rw [judge_move1 i1]
              unfold JRes
              rw [Bool.false_and]
              rfl
            rw [← e3]; exact k)
        rw [em] at this
        exact this
def spDeeds (K : PySem.W.Frag) : Sp := fun vs H Q _ => ∃ (a : Addr) (ns : List Int) (seed : Int), vs = [.ref a, .int seed] ∧ SqL K H a (ns.map V.int) ∧ ns.length ≤ 1000 ∧
  ∀ (p : Addr) (rs : List V) (ds : List Deed) (H' : Hp), H p = none → Same H H' → H' p = some (.lst rs) → TupsAt H' rs (ds.map Deed.vs) → (∀ d ∈ ds, DeedOk d) → ds.length ≤ 2 * ns.length → Q (.ref p) H'
abbrev s__law_deeds : Stmt := top 17
theorem sc__law_deeds : FnScope ["_law_cells", "_law_seed", "_law_names", "_law_spot", "_law_asked", "_law_k", "_law_rest", "_law_name", "_law_room", "_law_start", "_law_stop", "_law_weeks"] ["_law_cells", "_law_seed"] (defScope s__law_deeds) := ⟨rfl, rfl, rfl, by decide +kernel, rfl, by decide +kernel, by decide +kernel⟩
theorem ok__law_deeds {f : Addr} {fd : FuncData} (F : Fun K "_law_deeds" "_law_deeds" s__law_deeds f fd) (T : Txt mg) : FnOk P w K mg base CX0 1 f fd ["_law_cells", "_law_seed"] (spDeeds K) := by
  refine F.ok sc__law_deeds (fun vs H Q E h => ?_) (fun cdv A outer s H vs Q E hr h => ?_)
  · obtain ⟨_, _, _, rfl, _⟩ := h
    rfl
  · obtain ⟨a, ns, seed, rfl, hL, hlen, k⟩ := h
    have hu := hu_of hr
    refine ⟨_, pss_cons (ps_set (i := 2) sc__law_deeds.nd rfl (Or.inl rfl) (pe_lst (pa_cons pe_str (pa_cons pe_str (pa_cons pe_str (pa_cons pe_str (pa_cons pe_str (pa_cons (pe_op op_mul_str pe_str pe_int) (pa_cons (pe_op op_add_str (pe_op op_mul_str pe_str pe_int) pe_str) (pa_cons pe_str pa_nil))))))))))
      (pss_cons (ps_if (pt_cmpR op_eq (pe_op op_mod (pv 1) pe_int) pe_int (nomark _))
          (pss_cons (ps_set (i := 3) sc__law_deeds.nd rfl (Or.inr rfl) (pe_op op_mod (pe_op op_fdiv (pv 1) pe_int) pe_int))
          (pss_one (ps_setComp (i := 2) rfl (fv := ["_law_spot"]) (js := [3]) ⟨rfl, rfl, by decide +kernel, by decide +kernel, rfl, ⟨⟨rfl, rfl, Or.inl rfl, rfl⟩, trivial⟩, ⟨rfl, trivial⟩, rfl, by decide +kernel⟩ (pi_strC (by decide +kernel)) (fun _ _ _ _ => .inl ⟨rfl, rfl⟩) (fun _ _ _ _ => (pe_op op_add_str (pe_op op_add_str (pe_slice sl_str pe_str po_none (po_some (pv 1))) (pv 0)) (pe_slice sl_str pe_str (po_some (pv 1)) po_none))) sc__law_deeds.nd rfl (Or.inl rfl) rfl)))
          (pss_nil))
      (pss_cons (ps_set (i := 4) sc__law_deeds.nd rfl (Or.inl rfl) (pe_lst pa_nil))
      (pss_cons (ps_for PassesOwn.never rfl (pi_range1 rfl T.z_range (pa_cons (pe_callB call_len_seq (by rfl) T.z_len PySem.boot_len (pa_cons (pv 0) pa_nil)) pa_nil)) (pg_name (i := 5) sc__law_deeds.nd rfl (Or.inl rfl))
          (pss_cons (ps_set (i := 6) sc__law_deeds.nd rfl (Or.inl rfl) (pe_op op_fdiv (pe_ix ix_list (pv 0) (pv 5) (fun _ _ => rfl)) pe_int))
          (pss_cons (ps_set (i := 7) sc__law_deeds.nd rfl (Or.inl rfl) (pe_ix ix_list (pv 2) (pe_op op_mod (pe_op op_add (pv 6) (pv 5)) pe_int) (fun _ _ => rfl)))
          (pss_cons (ps_set (i := 8) sc__law_deeds.nd rfl (Or.inl rfl) (pe_ix ix_list (pe_lst (pa_cons pe_int (pa_cons (pe_un un_neg pe_int) (pa_cons (pe_op op_add pe_int (pe_op op_mod (pe_ix ix_list (pv 0) pe_int (fun _ _ => rfl)) (pe_op op_pow pe_int pe_int))) pa_nil)))) (pe_op op_mod (pe_op op_add (pe_op op_fdiv (pv 6) pe_int) (pv 5)) pe_int) (fun _ _ => rfl)))
          (pss_cons (ps_set (i := 9) sc__law_deeds.nd rfl (Or.inl rfl) (pe_op op_add (pe_op op_mod (pe_op op_add (pe_op op_fdiv (pv 6) pe_int) (pe_op op_mul pe_int (pv 5))) pe_int) (pe_op op_mul pe_int (pe_op op_mod (pe_op op_add (pe_op op_fdiv (pv 6) pe_int) (pv 5)) pe_int))))
          (pss_cons (ps_set (i := 10) sc__law_deeds.nd rfl (Or.inl rfl) (pe_op op_add (pe_op op_add (pv 9) pe_int) (pe_op op_mod (pv 6) pe_int)))
          (pss_cons (ps_set (i := 11) sc__law_deeds.nd rfl (Or.inl rfl) (pe_op op_add pe_int (pe_op op_mod (pe_op op_add (pv 6) (pe_op op_fdiv (pv 5) pe_int)) pe_int)))
          (pss_cons (ps_if (pt_cmpR op_eq (pe_op op_mod (pv 6) pe_int) pe_int (nomark _))
            (pss_one (ps_set (i := 10) sc__law_deeds.nd rfl (Or.inl rfl) (pe_op op_add (pe_op op_add (pv 9) pe_int) (pe_op op_mod (pe_op op_fdiv (pv 6) pe_int) pe_int))))
            (pss_nil))
          (pss_cons (ps_if (pt_cmpR op_eq (pe_op op_mod (pv 6) pe_int) pe_int (nomark _))
            (pss_cons (ps_set (i := 11) sc__law_deeds.nd rfl (Or.inl rfl) (pe_op op_add pe_int (pe_op op_mod (pe_op op_fdiv (pv 6) pe_int) pe_int)))
            (pss_one (ps_set (i := 10) sc__law_deeds.nd rfl (Or.inl rfl) (pe_op op_add (pe_op op_add (pv 9) pe_int) (pe_op op_mod (pv 6) pe_int)))))
            (pss_nil))
          (pss_cons (ps_if (pw_or (pt_cmpR op_eq (pe_op op_mod (pv 6) pe_int) pe_int (nomark _)) (pw_or1 (pw_and (pt_cmpR op_gt (pe_op op_mod (pe_ix ix_list (pv 0) (pv 5) (fun _ _ => rfl)) pe_int) pe_int (nomark _)) (pw_and1 (pt_cmpR op_eq (pe_op op_mod (pv 6) pe_int) pe_int (nomark _)))).pt)).pt
            (pss_one (ps_set (i := 9) sc__law_deeds.nd rfl (Or.inl rfl) (pe_op op_sub (pe_op op_sub pe_int pe_int) (pe_op op_mod (pv 6) pe_int))))
            (pss_nil))
          (pss_cons (ps_if (pt_cmpR op_eq (pe_op op_mod (pv 6) pe_int) pe_int (nomark _))
            (pss_one (ps_set (i := 10) sc__law_deeds.nd rfl (Or.inl rfl) (pe_op op_add (pv 9) (pe_ix ix_list (pe_lst (pa_cons pe_int (pa_cons pe_int (pa_cons (pe_un un_neg pe_int) (pa_cons pe_int pa_nil))))) (pe_op op_mod (pe_op op_fdiv (pv 6) pe_int) pe_int) (fun _ _ => rfl)))))
            (pss_nil))
          (pss_cons (ps_if (pt_cmpR op_eq (pe_op op_mod (pv 6) pe_int) pe_int (nomark _))
            (pss_one (ps_set (i := 11) sc__law_deeds.nd rfl (Or.inl rfl) (pe_op op_sub pe_int (pe_op op_mod (pe_op op_fdiv (pv 6) pe_int) pe_int))))
            (pss_nil))
          (pss_cons (ps_if (pt_cmpR op_eq (pe_op op_mod (pv 6) pe_int) pe_int (nomark _))
            (pss_one (ps_set (i := 9) sc__law_deeds.nd rfl (Or.inl rfl) pe_int))
            (pss_nil))
          (pss_one (ps_if (pt_cmpR op_lt (pe_op op_mod (pe_ix ix_list (pv 0) (pv 5) (fun _ _ => rfl)) pe_int) pe_int (nomark _))
            (pss_cons (ps_expr (pe_bm PySem.F.plainAttrs_list PySem.slot_list_append rfl mt_append (pv 4) (pa_cons (pe_tup (pa_cons pe_str (pa_cons (pv 7) (pa_cons (pv 8) (pa_cons (pv 9) (pa_cons (pv 10) (pa_cons (pv 11) pa_nil))))))) pa_nil)))
            (pss_one (ps_if (pt_cmpR op_eq (pe_op op_mod (pv 6) pe_int) pe_int (nomark _))
              (pss_one (ps_expr (pe_bm PySem.F.plainAttrs_list PySem.slot_list_append rfl mt_append (pv 4) (pa_cons (pe_tup (pa_cons pe_str (pa_cons (pv 7) (pa_cons (pv 8) (pa_cons (pe_op op_add (pv 9) pe_int) pa_nil))))) pa_nil))))
              (pss_nil))))
            (pss_one (ps_if (pt_cmpR op_eq (pe_op op_mod (pe_ix ix_list (pv 0) (pv 5) (fun _ _ => rfl)) pe_int) pe_int (nomark _))
              (pss_one (ps_expr (pe_bm PySem.F.plainAttrs_list PySem.slot_list_append rfl mt_append (pv 4) (pa_cons (pe_tup (pa_cons pe_str (pa_cons (pv 7) pa_nil))) pa_nil))))
              (pss_one (ps_expr (pe_bm PySem.F.plainAttrs_list PySem.slot_list_append rfl mt_append (pv 4) (pa_cons (pe_tup (pa_cons pe_str (pa_cons (pv 7) (pa_cons (pv 8) (pa_cons (pv 9) pa_nil))))) pa_nil)))))))))))))))))))))
      (pss_one (ps_ret (pv 4)))))), ?_⟩
    -- names
    refine ⟨_, _, rfl, rfl, by decide, by decide, by decide, by decide, fun t1 h1 => ⟨_, _, rfl, rfl, by decide, by decide, by decide, by decide, fun t2 h2 => ⟨_, _, rfl, rfl, ?_, len8, fun p0 hp0 => set_go ?_⟩⟩⟩
    · exact Nat.le_trans (show t2.length + 1 ≤ 1000001 by omega) (by decide)
    dsimp only
    refine seq_at (fun σ H' => ∃ (pn : Addr) (ss : List Str) (x : Option V), σ = [some (.ref a), some (.int seed), some (.ref pn), x, none, none, none, none, none, none, none, none] ∧ Same H H' ∧ H' pn = some (.lst (ss.map V.str)) ∧ ss.length = 8) (fun M hM => ?_) ?_
    · refine ⟨_, rfl, _, _, rfl, rfl, (by show (0 : Int) < 2; decide), rfl, _, rfl, ?_⟩
      refine ite2 (fun _ => ?_) (fun _ => ?_)
      · refine ⟨_, rfl, _, _, rfl, rfl, ⟨by decide, by decide⟩, _, _, rfl, rfl, (by show (0 : Int) < 12; decide), ?_⟩
        intro pn hpn
        refine comp_str hpn (by decide) rfl (fun c hc H' s' R hR => ?_) (fun ss hss => ?_)
        · refine ⟨_, rfl, _, rfl, _, rfl, by decide, fun u1 g1 => ⟨_, rfl, _, _, rfl, rfl, ?_, _, rfl, _, rfl, _, rfl, by decide, fun u2 g2 => ⟨_, _, rfl, rfl, ?_, hR _⟩⟩⟩
          · exact Nat.le_of_lt (small_of (by have : u1.length ≤ 12 := g1; omega))
          · have e : (u1 ++ c).length = u1.length + c.length := Array.size_append ..
            exact Nat.le_of_lt (small_of (by have : u1.length ≤ 12 := g1; have : u2.length ≤ 12 := g2; omega))
        · exact hM _ _ ⟨pn, ss, _, rfl, (Same.new hp0).trans (Same.new hpn), upd_same, hss⟩
      · exact hM _ _ ⟨p0, ["a", "ab", "B 2", "c", "d-d", t1, t2 ++ "f", "G"], _, rfl, Same.new hp0, upd_same, rfl⟩
    rintro σ H1 ⟨pn, ss, x3, rfl, s1, ln, l8⟩
    have hL1 := s1.seq hL
    -- asked = []
    refine ⟨Nat.zero_le _, fun pa hpa => ?_⟩
    have s2 : ∀ o, Same H1 (upd H1 pa o) := fun o => Same.new hpa
    refine ⟨_, rfl, a, _, rfl, .inl ((s2 _).seq hL1), _, rfl, ?_, ?_, ?_⟩
    · rw [List.length_map]; omega
    · rw [List.length_map]; omega
    rw [List.length_map, Int.toNat_natCast]
    refine for_range (lo := 0) (n := ns.length) (fun i σ H' => ∃ (rs : List V) (ds : List Deed) (x5 x6 x7 x8 x9 x10 x11 : Option V), σ = [some (.ref a), some (.int seed), some (.ref pn), x3, some (.ref pa), x5, x6, x7, x8, x9, x10, x11] ∧ Same H1 H' ∧ H' pa = some (.lst rs) ∧ TupsAt H' rs (ds.map Deed.vs) ∧ (∀ d ∈ ds, DeedOk d) ∧ ds.length ≤ 2 * i)
      ⟨[], [], _, _, _, _, _, _, _, rfl, s2 _, upd_same, .nil, fun d hd => (by cases hd), Nat.le_refl _⟩ ?_ ?_
    · rintro i σ H2 hi ⟨rs, ds, x5, x6, x7, x8, x9, x10, x11, rfl, s3, lp, tp, dok, hd2⟩
      have hc := fun (H' : Hp) (z : Same H1 H') => z.seq hL1
      have at1 : atI (ns.map V.int) (0 + (i : Int)) = some (.int (ns.getD i 0)) := by rw [Int.zero_add]; exact atI_ints hi
      have at0 : atI (ns.map V.int) 0 = some (.int (ns.getD 0 0)) := atI_ints (k := 0) (by omega)
      -- rest
      generalize hcell : ns.getD i 0 = cell at at1
      generalize hrest : cell / 8 = rest
      refine ⟨_, rfl, _, rfl, _, _, _, _, rfl, rfl, hc _ s3, at1, _, _, rfl, rfl, ⟨by decide, by decide⟩, ?_⟩
      refine set_go ?_
      dsimp only
      rw [hrest]
      -- name
      obtain ⟨nm, _, hnm⟩ := atI_map V.str ss ((rest + (0 + (i : Int))) % 8) (by omega) (by omega)
      refine ⟨_, rfl, _, rfl, _, rfl, _, _, rfl, rfl, _, _, rfl, rfl, (by show (0 : Int) < 8; decide), _, _, _, _, rfl, rfl, SqL.of (s3 _ _ ln), hnm, ?_⟩
      -- room
      refine set_go ?_
      dsimp only
      refine ⟨_, rfl, _, rfl, _, _, _, _, rfl, rfl, hc _ s3, at0, _, _, rfl, rfl, ⟨by decide, by decide, by decide⟩, _, _, rfl, rfl, (by show (0 : Int) < 10 ^ Int.toNat 30; decide), _, _, rfl, rfl, len3, fun pr hpr => ?_⟩
      have s4 : ∀ o, Same H2 (upd H2 pr o) := fun o => Same.new hpr
      obtain ⟨room, _, hroom⟩ := atI_map V.int [0, -3, 2 + ns.getD 0 0 % 10 ^ Int.toNat 30] ((rest / 3 + (0 + (i : Int))) % 3) (by omega) (by show _ < (3 : Int); omega)
      refine ⟨_, rfl, _, _, rfl, rfl, ⟨by decide, by decide⟩, _, rfl, _, _, rfl, rfl, _, _, rfl, rfl, (by show (0 : Int) < 3; decide), _, _, _, _, rfl, rfl, SqL.of upd_same, hroom, ?_⟩
      generalize hk : (0 + (i : Int)) = kk at *
      have hkk : kk = i := by omega
      refine set_go ?_
      dsimp only
      generalize (2 + ns.getD 0 0 % 10 ^ Int.toNat 30) = big at *
      have s13 := s3.trans (s4 (.lst [.int 0, .int (-3), .int big]))
      have lp3 := s4 (.lst [.int 0, .int (-3), .int big]) _ _ lp
      have tp3 := tp.same (s4 (.lst [.int 0, .int (-3), .int big]))
      generalize hH3 : upd H2 pr (.lst [.int 0, .int (-3), .int big]) = H3 at s13 lp3 tp3 ⊢
      -- start
      refine seq_at (fun σ H' => H3 = H' ∧ ∃ st : Int, σ = [some (.ref a), some (.int seed), some (.ref pn), x3, some (.ref pa), some (.int kk), some (.int rest), some (.str nm), some (.int room), some (.int st), x10, x11] ∧ st ≤ 500) (fun M hM => ?_) ?_
      · refine ⟨_, rfl, _, _, rfl, rfl, ⟨by decide, by decide⟩, _, rfl, _, _, rfl, rfl, .inl ⟨by decide, by decide⟩, _, _, rfl, rfl, _, _, rfl, rfl, (by show (0 : Int) < 26; decide), _, rfl, _, _, rfl, rfl, ⟨by decide, by decide⟩, _, rfl, _, _, rfl, rfl, _, _, rfl, rfl, (by show (0 : Int) < 3; decide), _, _, rfl, rfl, .inl ⟨by decide, by decide⟩, _, _, rfl, rfl, set_go ?_⟩
        exact hM _ _ ⟨rfl, _, rfl, by omega⟩
      rintro σ H' ⟨rfl, st, rfl, hst⟩
      -- stop, weeks
      refine seq_at (fun σ H' => H3 = H' ∧ ∃ sp : Int, σ = [some (.ref a), some (.int seed), some (.ref pn), x3, some (.ref pa), some (.int kk), some (.int rest), some (.str nm), some (.int room), some (.int st), some (.int sp), x11]) (fun M hM => ?_) ?_
      · refine ⟨_, rfl, _, _, rfl, rfl, _, rfl, _, _, rfl, rfl, (by show (0 : Int) < 9; decide), _, _, rfl, rfl, set_go ?_⟩
        exact hM _ _ ⟨rfl, _, rfl⟩
      rintro σ H' ⟨rfl, sp, rfl⟩
      refine seq_at (fun σ H' => H3 = H' ∧ ∃ wk : Int, σ = [some (.ref a), some (.int seed), some (.ref pn), x3, some (.ref pa), some (.int kk), some (.int rest), some (.str nm), some (.int room), some (.int st), some (.int sp), some (.int wk)] ∧ wk ≤ 50) (fun M hM => ?_) ?_
      · refine ⟨_, rfl, _, rfl, _, _, rfl, rfl, ⟨by decide, by decide⟩, _, _, rfl, rfl, _, _, rfl, rfl, (by show (0 : Int) < 3; decide), _, _, rfl, rfl, set_go ?_⟩
        exact hM _ _ ⟨rfl, _, rfl, by omega⟩
      rintro σ H' ⟨rfl, wk, rfl, hwk⟩
      -- % 11
      refine seq_at (fun σ H' => H3 = H' ∧ ∃ sp : Int, σ = [some (.ref a), some (.int seed), some (.ref pn), x3, some (.ref pa), some (.int kk), some (.int rest), some (.str nm), some (.int room), some (.int st), some (.int sp), some (.int wk)]) (fun M hM => ?_) ?_
      · refine ⟨_, rfl, _, _, rfl, rfl, (by show (0 : Int) < 11; decide), rfl, _, rfl, ite2 (fun _ => ?_) (fun _ => hM _ _ ⟨rfl, _, rfl⟩)⟩
        refine ⟨_, rfl, _, _, rfl, rfl, _, rfl, _, _, rfl, rfl, ⟨by decide, by decide⟩, _, _, rfl, rfl, (by show (0 : Int) < 60; decide), _, _, rfl, rfl, set_go ?_⟩
        exact hM _ _ ⟨rfl, _, rfl⟩
      rintro σ H' ⟨rfl, sp1, rfl⟩
      -- % 17
      refine seq_at (fun σ H' => H3 = H' ∧ ∃ sp wk : Int, σ = [some (.ref a), some (.int seed), some (.ref pn), x3, some (.ref pa), some (.int kk), some (.int rest), some (.str nm), some (.int room), some (.int st), some (.int sp), some (.int wk)] ∧ wk ≤ 50) (fun M hM => ?_) ?_
      · refine ⟨_, rfl, _, _, rfl, rfl, (by show (0 : Int) < 17; decide), rfl, _, rfl, ite2 (fun _ => ?_) (fun _ => hM _ _ ⟨rfl, _, _, rfl, hwk⟩)⟩
        refine ⟨_, rfl, _, _, rfl, rfl, ⟨by decide, by decide⟩, _, _, rfl, rfl, (by show (0 : Int) < 30; decide), _, _, rfl, rfl, set_go ?_⟩
        refine ⟨_, rfl, _, _, rfl, rfl, _, rfl, _, _, rfl, rfl, (by show (0 : Int) < 9; decide), _, _, rfl, rfl, set_go ?_⟩
        exact hM _ _ ⟨rfl, _, _, rfl, by omega⟩
      rintro σ H' ⟨rfl, sp2, wk2, rfl, hwk2⟩
      -- below nought
      refine seq_at (fun σ H' => H3 = H' ∧ ∃ st : Int, σ = [some (.ref a), some (.int seed), some (.ref pn), x3, some (.ref pa), some (.int kk), some (.int rest), some (.str nm), some (.int room), some (.int st), some (.int sp2), some (.int wk2)] ∧ st ≤ 500) (fun M hM => ?_) ?_
      · have go : ∀ H4, H3 = H4 → (tAsg (tOp (rI0 fun i j => V.int (i - j)) (tOp (rI0 fun i j => V.int (i - j)) (tC (V.int 0)) (tC (V.int 1))) (tOp (rI (fun x j => 0 < j) fun i j => V.int (i % j)) (tVar 6) (tC (V.int 2)))) (gName 9)) { nx := M, rt := fun _ _ => True } [some (.ref a), some (.int seed), some (.ref pn), x3, some (.ref pa), some (.int kk), some (.int rest), some (.str nm), some (.int room), some (.int st), some (.int sp2), some (.int wk2)] H4 := by
          rintro _ rfl
          refine ⟨_, _, rfl, rfl, _, rfl, _, _, rfl, rfl, (by show (0 : Int) < 2; decide), _, _, rfl, rfl, set_go ?_⟩
          exact hM _ _ ⟨rfl, _, rfl, by omega⟩
        refine ⟨_, rfl, _, _, rfl, rfl, (by show (0 : Int) < 13; decide), rfl, _, rfl, ite2 (fun _ => iteT (go _ rfl)) (fun _ => ?_)⟩
        refine ⟨_, rfl, _, rfl, _, _, _, _, rfl, rfl, hc _ s13, at1, _, _, rfl, rfl, (by show (0 : Int) < 8; decide), _, _, rfl, rfl, _, rfl, ite2 (fun _ => ?_) (fun _ => iteF (hM _ _ ⟨rfl, _, rfl, hst⟩))⟩
        refine ⟨_, rfl, _, _, rfl, rfl, (by show (0 : Int) < 4; decide), rfl, _, rfl, ite2 (fun _ => go _ rfl) (fun _ => hM _ _ ⟨rfl, _, rfl, hst⟩)⟩
      rintro σ H' ⟨rfl, st2, rfl, hst2⟩
      -- stop by a list
      refine seq_at (fun σ H' => Same H3 H' ∧ ∃ sp : Int, σ = [some (.ref a), some (.int seed), some (.ref pn), x3, some (.ref pa), some (.int kk), some (.int rest), some (.str nm), some (.int room), some (.int st2), some (.int sp), some (.int wk2)]) (fun M hM => ?_) ?_
      · refine ⟨_, rfl, _, _, rfl, rfl, (by show (0 : Int) < 13; decide), rfl, _, rfl, ite2 (fun _ => ?_) (fun _ => hM _ _ ⟨Same.refl _, _, rfl⟩)⟩
        refine ⟨_, rfl, _, rfl, len4, fun pq hpq => ?_⟩
        obtain ⟨dl, _, hdl⟩ := atI_map V.int [0, 169, -3, 168] (rest / 13 % 4) (by omega) (by show _ < (4 : Int); omega)
        refine ⟨_, rfl, _, _, rfl, rfl, ⟨by decide, by decide⟩, _, _, rfl, rfl, (by show (0 : Int) < 4; decide), _, _, _, _, rfl, rfl, SqL.of upd_same, hdl, _, _, rfl, rfl, set_go ?_⟩
        exact hM _ _ ⟨Same.new hpq, _, rfl⟩
      rintro σ H4 ⟨s5, sp3, rfl⟩
      -- weeks below one
      refine seq_at (fun σ H' => H4 = H' ∧ ∃ wk : Int, σ = [some (.ref a), some (.int seed), some (.ref pn), x3, some (.ref pa), some (.int kk), some (.int rest), some (.str nm), some (.int room), some (.int st2), some (.int sp3), some (.int wk)] ∧ wk ≤ 50) (fun M hM => ?_) ?_
      · refine ⟨_, rfl, _, _, rfl, rfl, (by show (0 : Int) < 13; decide), rfl, _, rfl, ite2 (fun _ => ?_) (fun _ => hM _ _ ⟨rfl, _, rfl, hwk2⟩)⟩
        refine ⟨_, rfl, _, _, rfl, rfl, ⟨by decide, by decide⟩, _, _, rfl, rfl, (by show (0 : Int) < 2; decide), _, _, rfl, rfl, set_go ?_⟩
        exact hM _ _ ⟨rfl, _, rfl, by omega⟩
      rintro σ H' ⟨rfl, wk3, rfl, hwk3⟩
      -- start at nought
      refine seq_at (fun σ H' => H4 = H' ∧ ∃ st : Int, σ = [some (.ref a), some (.int seed), some (.ref pn), x3, some (.ref pa), some (.int kk), some (.int rest), some (.str nm), some (.int room), some (.int st), some (.int sp3), some (.int wk3)] ∧ st ≤ 500) (fun M hM => ?_) ?_
      · refine ⟨_, rfl, _, _, rfl, rfl, (by show (0 : Int) < 13; decide), rfl, _, rfl, ite2 (fun _ => ?_) (fun _ => hM _ _ ⟨rfl, _, rfl, hst2⟩)⟩
        exact hM _ _ ⟨rfl, _, rfl, by decide⟩
      rintro σ H' ⟨rfl, st3, rfl, hst3⟩
      -- the deeds
      have s14 := s13.trans s5
      have lp4 := s5 _ _ lp3
      have tp4 := tp3.same s5
      have hlr : rs.length = ds.length := by rw [tp4.len, List.length_map]
      have szs : rs.length < sizeLine := small_of (by omega)
      have lpt : ∀ {pt vs}, H4 pt = none → upd H4 pt (.tup vs) pa = some (.lst rs) := fun h => (Same.new h) _ _ lp4
      have one : ∀ (d : Deed) (pt : Addr), DeedOk d → H4 pt = none → Same H1 (upd (upd H4 pt (.tup d.vs)) pa (.lst (rs ++ [.ref pt]))) ∧ TupsAt (upd (upd H4 pt (.tup d.vs)) pa (.lst (rs ++ [.ref pt]))) (rs ++ [.ref pt]) ((ds ++ [d]).map Deed.vs) ∧ (∀ x ∈ ds ++ [d], DeedOk x) ∧ (ds ++ [d]).length ≤ 2 * i + 1 := fun d pt hd hp => by
        obtain ⟨e1, e2⟩ := app_tup (vs := d.vs) hpa s14 lp4 tp4 hp
        refine ⟨e1, by rw [List.map_append]; exact e2, fun x hx => ?_, by rw [List.length_append, List.length_singleton]; omega⟩
        rcases List.mem_append.mp hx with h | h
        · exact dok x h
        · rw [List.mem_singleton.mp h]; exact hd
      refine ⟨_, rfl, _, rfl, _, _, _, _, rfl, rfl, hc _ s14, at1, _, _, rfl, rfl, (by show (0 : Int) < 8; decide), _, _, rfl, rfl, _, rfl, ite2 (fun _ => ?_) (fun _ => ?_)⟩
      · refine ⟨_, rfl, .inl ⟨rfl, _, SqL.of lp4⟩, _, rfl, _, rfl, _, rfl, _, rfl, _, rfl, len6, fun pt hpt => ?_⟩
        refine ⟨pa, _, _, rfl, rfl, lpt hpt, szs, ?_⟩
        obtain ⟨e1, e2, e3, e4⟩ := one (.book ⟨nm, room, st3, sp3, wk3⟩) pt ⟨by show st3 ≤ 1000; omega, by show wk3 ≤ 100; omega⟩ hpt
        refine ⟨_, rfl, _, _, rfl, rfl, (by show (0 : Int) < 5; decide), rfl, _, rfl, ite2 (fun _ => ?_) (fun _ => ?_)⟩
        · refine ⟨_, rfl, .inl ⟨rfl, _, SqL.of upd_same⟩, _, rfl, _, rfl, _, rfl, _, _, rfl, rfl, len4, fun pu hpu => ?_⟩
          obtain ⟨g1, g2⟩ := app_tup (vs := (Deed.move nm room (st3 + 1)).vs) hpa e1 upd_same e2 hpu
          refine ⟨pa, _, _, rfl, rfl, (Same.new hpu) _ _ upd_same, ?_, ?_⟩
          · rw [List.length_append, List.length_singleton]; exact small_of (by omega)
          · refine ⟨_, (ds ++ [Deed.book ⟨nm, room, st3, sp3, wk3⟩]) ++ [Deed.move nm room (st3 + 1)], _, _, _, _, _, _, _, rfl, g1, upd_same, ?_, ?_, ?_⟩
            · rw [List.map_append]; exact g2
            · intro x hx
              rcases List.mem_append.mp hx with h | h
              · exact e3 x h
              · rw [List.mem_singleton.mp h]; show st3 + 1 ≤ 1000; omega
            · rw [List.length_append, List.length_singleton]; omega
        · exact ⟨_, ds ++ [Deed.book ⟨nm, room, st3, sp3, wk3⟩], _, _, _, _, _, _, _, rfl, e1, upd_same, e2, e3, by omega⟩
      · refine ⟨_, rfl, _, rfl, _, _, _, _, rfl, rfl, hc _ s14, at1, _, _, rfl, rfl, (by show (0 : Int) < 8; decide), rfl, _, rfl, ite2 (fun _ => ?_) (fun _ => ?_)⟩
        · refine ⟨_, rfl, .inl ⟨rfl, _, SqL.of lp4⟩, _, rfl, len2, fun pt hpt => ?_⟩
          refine ⟨pa, _, _, rfl, rfl, lpt hpt, szs, ?_⟩
          obtain ⟨e1, e2, e3, e4⟩ := one (.cancel nm) pt trivial hpt
          exact ⟨_, ds ++ [Deed.cancel nm], _, _, _, _, _, _, _, rfl, e1, upd_same, e2, e3, by omega⟩
        · refine ⟨_, rfl, .inl ⟨rfl, _, SqL.of lp4⟩, _, rfl, _, rfl, _, rfl, len4, fun pt hpt => ?_⟩
          refine ⟨pa, _, _, rfl, rfl, lpt hpt, szs, ?_⟩
          obtain ⟨e1, e2, e3, e4⟩ := one (.move nm room st3) pt (by show st3 ≤ 1000; omega) hpt
          exact ⟨_, ds ++ [Deed.move nm room st3], _, _, _, _, _, _, _, rfl, e1, upd_same, e2, e3, by omega⟩
    · rintro σ H2 ⟨rs, ds, x5, x6, x7, x8, x9, x10, x11, rfl, s3, lp, tp, dok, hd2⟩
      exact ⟨_, rfl, k pa rs ds H2 (s1.free hpa) (s1.trans s3) lp tp dok hd2⟩
/-! ### the program's own: spans -/
def spHas (K : PySem.W.Frag) : Sp := fun vs H Q _ => ∃ (s : Addr) (a b w h : Int), vs = [.ref s, .int h] ∧ SqT K H s [.int a, .int b, .int w] ∧ Q (.bl (hasB a b w h)) H
def spEmpty (K : PySem.W.Frag) : Sp := fun vs H Q _ => ∃ (s : Addr) (a b w : Int), vs = [.ref s] ∧ SqT K H s [.int a, .int b, .int w] ∧ Q (.bl (emptyB a b w)) H
def spMeet (K : PySem.W.Frag) : Sp := fun vs H Q _ => ∃ (s t : Addr) (a b w c d v : Int), vs = [.ref s, .ref t] ∧ SqT K H s [.int a, .int b, .int w] ∧ SqT K H t [.int c, .int d, .int v] ∧ Q (.bl (meetB a b w c d v)) H
abbrev s_is_empty : Stmt := top 2
theorem sc_is_empty : FnScope ["span"] ["span"] (defScope s_is_empty) := ⟨rfl, rfl, rfl, by decide +kernel, rfl, by decide +kernel, by decide +kernel⟩
theorem ok_is_empty {f : Addr} {fd : FuncData} (F : Fun K "is_empty" "is_empty" s_is_empty f fd) : FnOk P w K mg base CX0 1 f fd ["span"] (spEmpty K) := by
  refine F.ok sc_is_empty (fun vs H Q E h => ?_) (fun cdv A outer s H vs Q E hr h => ?_)
  · obtain ⟨_, _, _, _, rfl, _⟩ := h
    rfl
  · obtain ⟨s, a, b, w, rfl, hT, k⟩ := h
    refine ⟨_, pss_one (ps_ret (pe_or (pe_cmpR op_le (pe_ix ix_tup (pv 0) pe_int (fun _ _ => rfl)) (pe_ix ix_tup (pv 0) pe_int (fun _ _ => rfl)) (nomark _)) (pe_one (pe_cmpR op_lt (pe_ix ix_tup (pv 0) pe_int (fun _ _ => rfl)) pe_int (nomark _))))), ?_⟩
    refine ⟨_, rfl, _, _, _, _, rfl, rfl, hT, rfl, _, rfl, _, _, _, _, rfl, rfl, hT, rfl, _, _, rfl, rfl, _, rfl, ?_⟩
    unfold emptyB at k
    by_cases e : b ≤ a
    · rw [decide_eq_true e] at k ⊢
      exact iteT k
    · rw [decide_eq_false e] at k ⊢
      refine iteF ?_
      exact ⟨_, rfl, _, _, _, _, rfl, rfl, hT, rfl, _, _, rfl, rfl, k⟩
/-! ### the program's own: the book -/
def spSpanOf : Sp := fun vs H Q _ => ∃ (p : Addr) (r : Bkg), vs = [.ref p] ∧ H p = some (.tup r.vs) ∧ ∀ q, H q = none → Q (.ref q) (upd H q (.tup [.int r.start, .int r.stop, .int r.weeks]))
abbrev s_span_of : Stmt := top 12
theorem sc_span_of : FnScope ["row"] ["row"] (defScope s_span_of) := ⟨rfl, rfl, rfl, by decide +kernel, rfl, by decide +kernel, by decide +kernel⟩
theorem ok_span_of {f : Addr} {fd : FuncData} (F : Fun K "span_of" "span_of" s_span_of f fd) : FnOk P w K mg base CX0 1 f fd ["row"] spSpanOf := by
  refine F.ok sc_span_of (fun vs H Q E h => ?_) (fun cdv A outer s H vs Q E hr h => ?_)
  · obtain ⟨_, _, rfl, _⟩ := h
    rfl
  · obtain ⟨p, r, rfl, hp, k⟩ := h
    refine ⟨_, pss_one (ps_ret (pe_slice sl_tup (pv 0) (po_some pe_int) po_none)), ?_⟩
    exact ⟨_, rfl, _, rfl, p, _, rfl, SqT.of hp, fun z => absurd (show HT.sIx 5 0 (some 2) = 0 from z.1) (by decide), fun q hq => k q hq⟩
/-! ### the program's own: runs -/
def triVs (s : Tri) : List V := [.int s.1, .int s.2.1, .int s.2.2]
def KeepBut (p : Addr) (H H' : Hp) : Prop := ∀ b o, b ≠ p → H b = some o → H' b = some o
theorem KeepBut.refl (p : Addr) (H : Hp) : KeepBut p H H := fun _ _ _ e => e
theorem KeepBut.trans {p : Addr} {H H1 H2 : Hp} (a : KeepBut p H H1) (b : KeepBut p H1 H2) : KeepBut p H H2 := fun c o n e => b c o n (a c o n e)
theorem KeepBut.same {p : Addr} {H H' : Hp} (a : Same H H') : KeepBut p H H' := fun c o _ e => a c o e
theorem KeepBut.put {p : Addr} {H H' : Hp} (a : KeepBut p H H') (o : HO) : KeepBut p H (upd H' p o) := fun c o' n e => by rw [upd_ne n]; exact a c o' n e
theorem KeepBut.tups {p : Addr} {H H' : Hp} (k : KeepBut p H H') {xs rs : List V} {vss : List (List V)} (hp : H p = some (.lst xs)) (t : TupsAt H rs vss) : TupsAt H' rs vss :=
  Paired.mapP t fun _ _ ⟨a, h1, h2⟩ => ⟨a, h1, k _ _ (fun e => by rw [e, hp] at h2; cases h2) h2⟩
theorem KeepBut.fresh {p : Addr} {H0 H H' : Hp} (a : Same H0 H) (hp : H0 p = none) (k : KeepBut p H H') : Same H0 H' := fun b o e => k b o (fun z => by rw [z, hp] at e; cases e) (a b o e)
def spAddRun : Sp := fun vs H Q _ => ∃ (p : Addr) (a b : Int) (rs : List V) (R : List (Int × Int)), vs = [.ref p, .int a, .int b] ∧ H p = some (.lst rs) ∧ TupsAt H rs (R.map pairVs) ∧ R.length ≤ 1000000 ∧
  ∀ (rs' : List V) (H' : Hp), KeepBut p H H' → H' p = some (.lst rs') → TupsAt H' rs' ((addRun R a b).map pairVs) → Q .non H'
theorem tups_last {H : Hp} {rs : List V} {R : List (Int × Int)} {z : Int × Int} (t : TupsAt H rs (R.map pairVs)) (h : R.getLast? = some z) : ∃ ac, atI rs (-1) = some (.ref ac) ∧ H ac = some (.tup (pairVs z)) ∧ ixN rs.length (-1) = some (rs.length - 1) ∧ 0 < rs.length := by
  have rl : rs.length = R.length := by rw [t.len, List.length_map]
  have pos : 0 < R.length := by
    cases R with
    | nil => cases h
    | cons _ _ => exact Nat.succ_pos _
  have hix : ixN rs.length (-1) = some (rs.length - 1) := by
    unfold ixN
    rw [if_neg (by decide), if_pos (by omega)]
    congr 1
    omega
  obtain ⟨v, hv⟩ : ∃ v, rs[rs.length - 1]? = some v := ⟨_, List.getElem?_eq_getElem (by omega)⟩
  obtain ⟨ac, q, rfl, hq, hx⟩ := pair_at t hv
  have : q = z := by
    rw [rl, ← List.getLast?_eq_getElem?, h] at hx
    exact (Option.some.inj hx).symm
  subst this
  exact ⟨ac, by unfold atI; rw [hix]; exact hv, hq, hix, by omega⟩
theorem tups_dropLast {H : Hp} {rs : List V} {vss : List (List V)} (t : TupsAt H rs vss) : TupsAt H rs.dropLast vss.dropLast := by
  rw [List.dropLast_eq_take, List.dropLast_eq_take, ← t.len]
  exact t.take _
theorem set_last {α : Type} {xs : List α} (h : 0 < xs.length) (v : α) : xs.set (xs.length - 1) v = xs.dropLast ++ [v] := by
  have : xs = xs.dropLast ++ [xs.getLast (List.length_pos_iff.mp h)] := (List.dropLast_concat_getLast _).symm
  rw [this]
  simp
abbrev s_add_run : Stmt := top 9
theorem sc_add_run : FnScope ["runs", "first", "behind"] ["runs", "first", "behind"] (defScope s_add_run) := ⟨rfl, rfl, rfl, by decide +kernel, rfl, by decide +kernel, by decide +kernel⟩
theorem ok_add_run {f : Addr} {fd : FuncData} (F : Fun K "add_run" "add_run" s_add_run f fd) (T : Txt mg) : FnOk P w K mg base CX0 1 f fd ["runs", "first", "behind"] spAddRun := by
  refine F.ok sc_add_run (fun vs H Q E h => ?_) (fun cdv A outer s H vs Q E hr h => ?_)
  · obtain ⟨_, _, _, _, _, rfl, _⟩ := h
    rfl
  · obtain ⟨p, a, b, rs, R, rfl, hp, t, hl, k⟩ := h
    have rl : rs.length = R.length := by rw [t.len, List.length_map]
    have hsl : (1000000 : Nat) < sizeLine := by decide
    refine ⟨_, pss_cons (ps_if (pt_cmpR op_le (pv 2) (pv 1) (nomark _))
          (pss_one (ps_retN))
          (pss_nil))
      (pss_one (ps_if (pw_and (pt_truth (pv 0) (fun _ => rfl)) (pw_and1 (pt_cmpR op_eq (pe_ix ix_tup (pe_ix ix_list (pv 0) (pe_un un_neg pe_int) (fun _ _ => rfl)) pe_int (fun _ _ => rfl)) (pv 1) (nomark _)))).pt
          (pss_one (ps_asg (pe_tup (pa_cons (pe_ix ix_tup (pe_ix ix_list (pv 0) (pe_un un_neg pe_int) (fun _ _ => rfl)) pe_int (fun _ _ => rfl)) (pa_cons (pv 2) pa_nil))) (pg_sub (pv 0) (pe_un un_neg pe_int) set_list)))
          (pss_one (ps_expr (pe_bm PySem.F.plainAttrs_list PySem.slot_list_append rfl mt_append (pv 0) (pa_cons (pe_tup (pa_cons (pv 1) (pa_cons (pv 2) pa_nil))) pa_nil)))))), ?_⟩
    refine ⟨_, rfl, _, rfl, _, _, rfl, rfl, _, rfl, ?_⟩
    by_cases z : b ≤ a
    · rw [decide_eq_true z]
      have : addRun R a b = R := by unfold addRun; rw [if_pos z]
      rw [this] at k
      exact iteT (k rs H (KeepBut.refl _ _) hp t)
    rw [decide_eq_false z]
    refine iteF ?_
    have app : addRun R a b = R ++ [(a, b)] → ∀ pt, H pt = none → Q .non (upd (upd H pt (.tup (pairVs (a, b)))) p (.lst (rs ++ [.ref pt]))) := fun e pt hpt => by
      have np : p ≠ pt := fun y => by rw [← y, hp] at hpt; cases hpt
      have n1 := Same.new (o := .tup (pairVs (a, b))) hpt
      refine k _ _ ((KeepBut.same n1).put _) upd_same ?_
      rw [e, List.map_append]
      have n2 : KeepBut p (upd H pt (.tup (pairVs (a, b)))) (upd (upd H pt (.tup (pairVs (a, b)))) p (.lst (rs ++ [.ref pt]))) := (KeepBut.refl _ _).put _
      exact (n2.tups (n1 _ _ hp) (t.same n1)).append (.cons ⟨pt, rfl, by rw [upd_ne np.symm]; exact upd_same⟩ .nil)
    cases e : R.getLast? with
    | none =>
      have hn : R = [] := List.getLast?_eq_none_iff.mp e
      have hrs : rs = [] := List.length_eq_zero_iff.mp (by rw [rl, hn]; rfl)
      have ea : addRun R a b = R ++ [(a, b)] := by unfold addRun; rw [if_neg z, e]
      refine ⟨_, rfl, _, .inl ⟨rs, SqL.of hp, rfl⟩, ?_⟩
      rw [show (!rs.isEmpty) = false by rw [hrs]; rfl]
      refine iteF ⟨_, rfl, .inl ⟨rfl, _, SqL.of hp⟩, _, rfl, _, rfl, len2, fun pt hpt => ?_⟩
      have n1 := Same.new (o := .tup (pairVs (a, b))) hpt
      refine ⟨p, rs, _, rfl, rfl, n1 _ _ hp, by omega, ?_⟩
      exact app ea pt hpt
    | some q =>
      obtain ⟨ac, hat, hq, hix, pos⟩ := tups_last t e
      refine ⟨_, rfl, _, .inl ⟨rs, SqL.of hp, rfl⟩, ?_⟩
      rw [show (!rs.isEmpty) = true by cases hh : rs with | nil => rw [hh] at pos; cases pos | cons _ _ => rfl]
      refine iteT ⟨_, rfl, 1, rfl, _, _, _, _, rfl, rfl, SqL.of hp, hat, _, _, _, _, rfl, rfl, SqT.of hq, rfl, _, rfl, rfl, _, rfl, ?_⟩
      by_cases y : q.2 = a
      · have ea : addRun R a b = R.dropLast ++ [(q.1, b)] := by unfold addRun; rw [if_neg z, e]; exact if_pos y
        rw [decide_eq_true (congrArg V.int y)]
        refine iteT ⟨_, rfl, 1, rfl, _, _, _, _, rfl, rfl, SqL.of hp, hat, _, _, _, _, rfl, rfl, SqT.of hq, rfl, _, rfl, len2, fun pt hpt => ?_⟩
        have n1 := Same.new (o := .tup (pairVs (q.1, b))) hpt
        have np : p ≠ pt := fun y => by rw [← y, hp] at hpt; cases hpt
        refine ⟨_, rfl, 1, rfl, p, rs, _, _, rfl, rfl, n1 _ _ hp, hix, ?_⟩
        rw [set_last pos]
        refine k _ _ ((KeepBut.same n1).put _) upd_same ?_
        rw [ea, List.map_append, List.map_dropLast]
        have n2 : KeepBut p (upd H pt (.tup (pairVs (q.1, b)))) (upd (upd H pt (.tup (pairVs (q.1, b)))) p (.lst (rs.dropLast ++ [.ref pt]))) := (KeepBut.refl _ _).put _
        exact (n2.tups (n1 _ _ hp) (tups_dropLast (t.same n1))).append (.cons ⟨pt, rfl, by rw [upd_ne np.symm]; exact upd_same⟩ .nil)
      · have ea : addRun R a b = R ++ [(a, b)] := by unfold addRun; rw [if_neg z, e]; exact if_neg y
        rw [decide_eq_false (fun w => y (V.int.inj w))]
        refine iteF ⟨_, rfl, .inl ⟨rfl, _, SqL.of hp⟩, _, rfl, _, rfl, len2, fun pt hpt => ?_⟩
        have n1 := Same.new (o := .tup (pairVs (a, b))) hpt
        refine ⟨p, rs, _, rfl, rfl, n1 _ _ hp, by omega, ?_⟩
        exact app ea pt hpt
def spOverAt (K : PySem.W.Frag) : Sp := fun vs H Q _ => ∃ (p : Addr) (s : Tri), vs = [.ref p] ∧ SqT K H p (triVs s) ∧ Q (.int (overAt s)) H
abbrev s_over_at : Stmt := top 6
theorem sc_over_at : FnScope ["span"] ["span"] (defScope s_over_at) := ⟨rfl, rfl, rfl, by decide +kernel, rfl, by decide +kernel, by decide +kernel⟩
theorem ok_over_at {f : Addr} {fd : FuncData} (F : Fun K "over_at" "over_at" s_over_at f fd) (g_WEEK : ∃ u, mg "WEEK" = some (.int 168 u)) : FnOk P w K mg base CX0 1 f fd ["span"] (spOverAt K) := by
  refine F.ok sc_over_at (fun vs H Q E h => ?_) (fun cdv A outer s H vs Q E hr h => ?_)
  · obtain ⟨_, _, rfl, _⟩ := h
    rfl
  · obtain ⟨p, s, rfl, hT, k⟩ := h
    refine ⟨_, pss_one (ps_ret (pe_op op_add (pe_ix ix_tup (pv 0) pe_int (fun _ _ => rfl)) (pe_op op_mul (pe_gint g_WEEK) (pe_op op_sub (pe_ix ix_tup (pv 0) pe_int (fun _ _ => rfl)) pe_int)))), ?_⟩
    exact ⟨_, rfl, _, _, _, _, rfl, rfl, hT, rfl, _, rfl, _, _, _, _, rfl, rfl, hT, rfl, _, _, rfl, rfl, _, _, rfl, rfl, .inl ⟨by decide, by decide⟩, _, _, rfl, rfl, k⟩
theorem chained_len {c : Int} : ∀ {last : Int} {R : List (Int × Int)}, Chained c last R → R = [] ∨ (R.length : Int) ≤ c - last
  | _, [], _ => .inl rfl
  | last, p :: R, ⟨h1, h2, h3, h4⟩ => by
    right
    rw [List.length_cons]
    rcases chained_len h4 with h | h
    · subst h; simp; omega
    · omega
def spWeek : Sp := fun vs H Q _ => ∃ (g : Addr) (hour : Int) (rs : List V) (G : List Tri), vs = [.ref g, .int hour] ∧ H g = some (.lst rs) ∧ TupsAt H rs (G.map triVs) ∧ (∀ s ∈ G, SpanOk s) ∧ G.length ≤ 1000 ∧
  ∀ (p : Addr) (ys : List V) (R : List (Int × Int)) (H' : Hp), H p = none → Same H H' → H' p = some (.lst ys) → TupsAt H' ys (R.map pairVs) → WeekOk G hour R → Q (.ref p) H'
theorem pairVs_ints (L : List (Int × Int)) : L.map pairVs = (L.map fun p => [p.1, p.2]).map fun ns => ns.map V.int := by
  rw [List.map_map]; rfl
theorem tri_at {H : Hp} {rs : List V} {G : List Tri} {i : Nat} {v : V} (t : TupsAt H rs (G.map triVs)) (h : rs[i]? = some v) : ∃ a s, v = .ref a ∧ H a = some (.tup (triVs s)) ∧ G[i]? = some s := by
  obtain ⟨a, vs, h1, h2, h3⟩ := t.get h
  rw [List.getElem?_map] at h3
  cases e : G[i]? with
  | none => rw [e] at h3; cases h3
  | some p => rw [e] at h3; cases h3; exact ⟨a, p, h1, h2, rfl⟩
abbrev s_free_in_week : Stmt := top 7
theorem sc_free_in_week : FnScope ["spans", "hour", "had", "span", "first", "behind", "runs", "reached", "run"] ["spans", "hour"] (defScope s_free_in_week) := ⟨rfl, rfl, rfl, by decide +kernel, rfl, by decide +kernel, by decide +kernel⟩
theorem ok_free_in_week {f : Addr} {fd : FuncData} (F : Fun K "free_in_week" "free_in_week" s_free_in_week f fd) (T : Txt mg) (g_WEEK : ∃ u, mg "WEEK" = some (.int 168 u)) (G_add_run : Fn P w K mg base 1 "add_run" ["runs", "first", "behind"] spAddRun) : FnOk P w K mg base CX0 2 f fd ["spans", "hour"] spWeek := by
  refine F.ok sc_free_in_week (fun vs H Q E h => ?_) (fun cdv A outer s H vs Q E hr h => ?_)
  · obtain ⟨_, _, _, _, rfl, _⟩ := h
    rfl
  · obtain ⟨g, hour, rs, G, rfl, hg, tg, ok, len, k⟩ := h
    have rl : rs.length = G.length := by rw [tg.len, List.length_map]
    refine ⟨_, pss_cons (ps_set (i := 2) sc_free_in_week.nd rfl (Or.inl rfl) (pe_lst pa_nil))
      (pss_cons (ps_for PassesOwn.never rfl (pi_list (pv 0)) (pg_name (i := 3) sc_free_in_week.nd rfl (Or.inl rfl))
          (pss_cons (ps_set (i := 4) sc_free_in_week.nd rfl (Or.inl rfl) (pe_op op_mod (pe_op op_sub (pe_ix ix_tup (pv 3) pe_int (fun _ _ => rfl)) (pv 1)) (pe_gint g_WEEK)))
          (pss_cons (ps_set (i := 5) sc_free_in_week.nd rfl (Or.inl rfl) (pe_op op_sub (pe_op op_add (pv 4) (pe_ix ix_tup (pv 3) pe_int (fun _ _ => rfl))) (pe_ix ix_tup (pv 3) pe_int (fun _ _ => rfl))))
          (pss_cons (ps_expr (pe_bm PySem.F.plainAttrs_list PySem.slot_list_append rfl mt_append (pv 2) (pa_cons (pe_tup (pa_cons (pv 4) (pa_cons (pv 5) pa_nil))) pa_nil)))
          (pss_one (ps_expr (pe_bm PySem.F.plainAttrs_list PySem.slot_list_append rfl mt_append (pv 2) (pa_cons (pe_tup (pa_cons (pe_op op_sub (pv 4) (pe_gint g_WEEK)) (pa_cons (pe_op op_sub (pv 5) (pe_gint g_WEEK)) pa_nil))) pa_nil))))))))
      (pss_cons (ps_set (i := 6) sc_free_in_week.nd rfl (Or.inl rfl) (pe_lst pa_nil))
      (pss_cons (ps_set (i := 7) sc_free_in_week.nd rfl (Or.inl rfl) pe_int)
      (pss_cons (ps_for PassesOwn.never rfl (pi_list (pe_callB call_sortedT (by rfl) T.z_sorted boot_sorted (pa_cons (pv 2) pa_nil))) (pg_name (i := 8) sc_free_in_week.nd rfl (Or.inl rfl))
          (pss_cons (ps_expr (pe_fn G_add_run hr (pa_cons (pv 6) (pa_cons (pv 7) (pa_cons (pe_ix ix_tup (pv 8) pe_int (fun _ _ => rfl)) pa_nil)))))
          (pss_one (ps_set (i := 7) sc_free_in_week.nd rfl (Or.inl rfl) (pe_callB (call_max2 rfl) (by rfl) T.z_max boot_max (pa_cons (pv 7) (pa_cons (pe_ix ix_tup (pv 8) pe_int (fun _ _ => rfl)) pa_nil)))))))
      (pss_cons (ps_expr (pe_fn G_add_run hr (pa_cons (pv 6) (pa_cons (pv 7) (pa_cons (pe_gint g_WEEK) pa_nil)))))
      (pss_one (ps_ret (pv 6)))))))), ?_⟩
    -- had
    refine ⟨Nat.zero_le _, fun p1 hp1 => set_go ?_⟩
    dsimp only
    have hpl : ∀ i, ((G.take i).flatMap (pairsIn hour)).length ≤ 2 * i := fun i => by
      rw [List.length_flatMap]
      have : ((G.take i).map fun s => (pairsIn hour s).length) = (G.take i).map fun _ => 2 := rfl
      rw [this]
      have : ∀ (L : List Tri), (L.map fun _ => 2).sum = 2 * L.length := fun L => by
        induction L with
        | nil => rfl
        | cons _ _ ih => rw [List.map_cons, List.sum_cons, ih, List.length_cons]; omega
      rw [this, List.length_take]
      omega
    refine seq_at (fun σ H' => ∃ (hs : List V) (x3 x4 x5 : Option V), σ = [some (.ref g), some (.int hour), some (.ref p1), x3, x4, x5, none, none, none] ∧ Same H H' ∧ H' p1 = some (.lst hs) ∧ TupsAt H' hs ((G.flatMap (pairsIn hour)).map pairVs)) (fun M hM => ?_) ?_
    · refine ⟨_, rfl, g, rfl, ⟨_, SqL.of ((Same.new hp1) _ _ hg)⟩, for_list (K := K) (a := g) (xs := rs) (fun i σ H' => ∃ (hs : List V) (x3 x4 x5 : Option V), σ = [some (.ref g), some (.int hour), some (.ref p1), x3, x4, x5, none, none, none] ∧ Same H H' ∧ H' p1 = some (.lst hs) ∧ TupsAt H' hs (((G.take i).flatMap (pairsIn hour)).map pairVs))
        ⟨[], none, none, none, rfl, Same.new hp1, upd_same, .nil⟩ (fun i σ H' _ h => by obtain ⟨_, _, _, _, _, z, _⟩ := h; exact SqL.of (z _ _ hg)) ?_ ?_⟩
      · rintro i v σ H1 hv ⟨hs, x3, x4, x5, rfl, s1, l1, t1⟩
        obtain ⟨ac, t, rfl, hct, ht⟩ := tri_at (tg.same s1) hv
        have hi : i < G.length := (List.getElem?_eq_some_iff.mp ht).1
        have hsl : hs.length ≤ 2 * i := by rw [t1.len, List.length_map]; exact hpl i
        refine set_go ?_
        dsimp only
        refine ⟨_, rfl, _, _, _, _, rfl, rfl, SqT.of hct, rfl, _, rfl, _, _, rfl, rfl, _, _, rfl, rfl, (by show (0 : Int) < 168; decide), set_go ?_⟩
        dsimp only
        refine ⟨_, rfl, _, rfl, _, _, _, _, rfl, rfl, SqT.of hct, rfl, _, _, rfl, rfl, _, rfl, _, _, _, _, rfl, rfl, SqT.of hct, rfl, _, _, rfl, rfl, set_go ?_⟩
        dsimp only
        refine ⟨_, rfl, .inl ⟨rfl, _, SqL.of l1⟩, _, rfl, _, rfl, len2, fun pt hpt => ⟨p1, _, _, rfl, rfl, (Same.new hpt) _ _ l1, small_of (by omega), ?_⟩⟩
        obtain ⟨e1, e2⟩ := app_tup (vs := pairVs ((t.1 - hour) % 168, (t.1 - hour) % 168 + t.2.1 - t.1)) hp1 s1 l1 t1 hpt
        have l2 : upd (upd H1 pt (.tup (pairVs ((t.1 - hour) % 168, (t.1 - hour) % 168 + t.2.1 - t.1)))) p1 (.lst (hs ++ [.ref pt])) p1 = some (.lst (hs ++ [.ref pt])) := upd_same
        refine ⟨_, rfl, .inl ⟨rfl, _, SqL.of l2⟩, _, rfl, _, _, rfl, rfl, _, rfl, _, _, rfl, rfl, len2, fun pu hpu => ⟨p1, _, _, rfl, rfl, (Same.new hpu) _ _ l2, small_of (by rw [List.length_append, List.length_singleton]; omega), ?_⟩⟩
        obtain ⟨e3, e4⟩ := app_tup (vs := pairVs ((t.1 - hour) % 168 - 168, (t.1 - hour) % 168 + t.2.1 - t.1 - 168)) hp1 e1 l2 e2 hpu
        refine ⟨_, _, _, _, rfl, e3, upd_same, ?_⟩
        have tk : G.take (i + 1) = G.take i ++ [t] := by rw [List.take_add_one, ht]; rfl
        rw [tk, List.flatMap_append, List.map_append]
        have eL : ((G.take i).flatMap (pairsIn hour)).map pairVs ++ [pairVs ((t.1 - hour) % 168, (t.1 - hour) % 168 + t.2.1 - t.1)] ++ [pairVs ((t.1 - hour) % 168 - 168, (t.1 - hour) % 168 + t.2.1 - t.1 - 168)] = ((G.take i).flatMap (pairsIn hour)).map pairVs ++ ([t].flatMap (pairsIn hour)).map pairVs := by rw [List.append_assoc]; rfl
        rw [eL] at e4
        exact e4
      · rintro σ H1 ⟨hs, x3, x4, x5, rfl, s1, l1, t1⟩
        rw [rl, List.take_length] at t1
        exact hM _ _ ⟨hs, x3, x4, x5, rfl, s1, l1, t1⟩
    rintro σ H1 ⟨hs, x3, x4, x5, rfl, s1, l1, t1⟩
    have hsl : hs.length ≤ 2000 := by
      rw [t1.len, List.length_map]
      have := hpl G.length
      rw [List.take_length] at this
      omega
    -- runs
    refine ⟨Nat.zero_le _, fun p2 hp2 => set_go ?_⟩
    dsimp only
    have n2 := Same.new (o := .lst []) hp2
    have hp2H : H p2 = none := s1.free hp2
    have s2 := s1.trans n2
    have l1' := n2 _ _ l1
    have t1' := t1.same n2
    have l2 : upd H1 p2 (.lst []) p2 = some (.lst []) := upd_same
    generalize upd H1 p2 (.lst []) = H2 at s2 l1' t1' l2
    refine set_go ?_
    dsimp only
    -- sorted
    rw [pairVs_ints] at t1'
    refine ⟨_, rfl, p1, hs, _, rfl, l1', t1', fun ns hn => ?_, by omega, fun l ys mss hl pm ty inc => ?_⟩
    · obtain ⟨x, _, rfl⟩ := List.mem_map.mp hn
      exact List.cons_ne_nil _ _
    obtain ⟨qs, pq, rfl⟩ := perm_of_map pm
    rw [← pairVs_ints] at ty
    have yl : ys.length = qs.length := by rw [ty.len, List.length_map]
    have ord : qs.Pairwise fun p q => p.1 ≤ q.1 := by
      rw [List.pairwise_map] at inc
      refine inc.imp fun {a b} h => ?_
      have : ¬ b.1 < a.1 := fun z => h (List.Lex.rel z)
      omega
    have hpq : ∀ p ∈ qs, p.1 < p.2 ∧ p.1 < 168 := fun p hp => by
      obtain ⟨t, ht, hpt⟩ := List.mem_flatMap.mp (pq.mem_iff.mp hp)
      have o := ok t ht
      unfold SpanOk at o
      unfold pairsIn at hpt
      rcases List.mem_cons.mp hpt with rfl | hpt
      · constructor
        · show (t.1 - hour) % 168 < (t.1 - hour) % 168 + t.2.1 - t.1; omega
        · show (t.1 - hour) % 168 < 168; omega
      · rw [List.mem_singleton.mp hpt]
        constructor
        · show (t.1 - hour) % 168 - 168 < (t.1 - hour) % 168 + t.2.1 - t.1 - 168; omega
        · show (t.1 - hour) % 168 - 168 < 168; omega
    have lenR : ∀ {i : Nat} {st : List (Int × Int) × Int}, FwOk qs i st → st.1.length ≤ 1000 := fun {i st} o => by
      rcases chained_len o.up.1 with h | h
      · rw [h]; exact Nat.zero_le _
      · omega
    have n3 := Same.new (o := .lst ys) hl
    have ne2 : p2 ≠ l := fun e => by rw [← e, l2] at hl; cases hl
    have hl2 : upd H2 l (.lst ys) l = some (.lst ys) := upd_same
    have l2' := n3 _ _ l2
    have ty' := ty.same n3
    have s3 := s2.trans n3
    generalize upd H2 l (.lst ys) = H3 at hl2 l2' ty' s3
    refine ⟨l, rfl, ⟨_, SqL.of hl2⟩, for_list (K := K) (a := l) (xs := ys) (fun i σ H' => ∃ (st : List (Int × Int) × Int) (rs' : List V) (x8 : Option V), σ = [some (.ref g), some (.int hour), some (.ref p1), x3, x4, x5, some (.ref p2), some (.int st.2), x8] ∧ Same H H' ∧ H' l = some (.lst ys) ∧ TupsAt H' ys (qs.map pairVs) ∧ H' p2 = some (.lst rs') ∧ TupsAt H' rs' (st.1.map pairVs) ∧ FwOk qs i st)
      ⟨([], 0), [], none, rfl, s3, hl2, ty', l2', .nil, FwOk.start qs⟩ (fun i σ H' _ h => by obtain ⟨_, _, _, _, _, z, _⟩ := h; exact SqL.of z) ?_ ?_⟩
    · rintro i v σ H4 hv ⟨st, rs', x8, rfl, s4, hl4, ty4, l4, t4, fo⟩
      obtain ⟨ac, q, rfl, hct, hq⟩ := pair_at ty4 hv
      refine set_go ?_
      dsimp only
      refine ⟨_, rfl, _, rfl, _, rfl, _, _, _, _, rfl, rfl, SqT.of hct, rfl, p2, st.2, q.1, rs', st.1, rfl, l4, t4, Nat.le_trans (lenR fo) (by decide), fun rs5 H5 kb l5 t5 => ?_⟩
      have hct5 : H5 ac = some (.tup (pairVs q)) := kb _ _ (fun e => by rw [e, l4] at hct; cases hct) hct
      refine ⟨_, rfl, _, rfl, _, _, _, _, rfl, rfl, SqT.of hct5, rfl, _, _, rfl, set_go ?_⟩
      dsimp only
      exact ⟨fwStep st q, rs5, _, rfl, KeepBut.fresh s4 hp2H kb, kb _ _ ne2.symm hl4, kb.tups l4 ty4, l5, t5, fo.step ord hpq hq⟩
    rintro σ H4 ⟨st, rs', x8, rfl, s4, hl4, ty4, l4, t4, fo⟩
    rw [yl] at fo
    refine ⟨_, rfl, _, rfl, p2, st.2, 168, rs', st.1, rfl, l4, t4, Nat.le_trans (lenR fo) (by decide), fun rs5 H5 kb l5 t5 => ?_⟩
    refine ⟨_, rfl, k p2 rs5 _ H5 hp2H (KeepBut.fresh s4 hp2H kb) l5 t5 (week_of ok (fun p => pq.mem_iff) fo.fin)⟩
def spEdges : Sp := fun vs H Q _ => ∃ (a : Addr) (b e : Int) (rs : List V) (S : List Tri), vs = [.ref a, .int b, .int e] ∧ H a = some (.lst rs) ∧ TupsAt H rs (S.map triVs) ∧ S.length ≤ 1000 ∧ b < e ∧ e ≤ b + 60 ∧
  ∀ (p : Addr) (E : List Int) (H' : Hp), H p = none → Same H H' → H' p = some (.lst (E.map V.int)) → Edges S b e E → Q (.ref p) H'
abbrev s_edges_within : Stmt := top 5
theorem sc_edges_within : FnScope ["spans", "start", "stop", "hours"] ["spans", "start", "stop"] (defScope s_edges_within) := ⟨rfl, rfl, rfl, by decide +kernel, rfl, by decide +kernel, by decide +kernel⟩
theorem ok_edges_within {f : Addr} {fd : FuncData} (F : Fun K "edges_within" "edges_within" s_edges_within f fd) (T : Txt mg) (G_over_at : Fn P w K mg base 1 "over_at" ["span"] (spOverAt K)) : FnOk P w K mg base CX0 2 f fd ["spans", "start", "stop"] spEdges := by
  refine F.ok sc_edges_within (fun vs H Q E h => ?_) (fun cdv A outer s H vs Q E hr h => ?_)
  · obtain ⟨_, _, _, _, _, rfl, _⟩ := h
    rfl
  · obtain ⟨a, b, e, rs, S, rfl, la, ta, len, lt, sm, k⟩ := h
    have rl : rs.length = S.length := by rw [ta.len, List.length_map]
    refine ⟨_, pss_cons (ps_set (i := 3) sc_edges_within.nd rfl (Or.inl rfl) (pe_op op_cat (pe_comp rfl (fv := []) (js := []) ⟨rfl, rfl, by decide +kernel, by decide +kernel, rfl, trivial, trivial, rfl, by decide +kernel⟩ (pi_list (pv 0)) (fun _ _ _ _ => .inl ⟨rfl, rfl⟩) (fun _ _ _ _ => (pe_ix (ix_tupK (K := K)) (pv 0) pe_int (fun _ _ => rfl)))) (pe_comp rfl (fv := []) (js := []) ⟨rfl, rfl, by decide +kernel, by decide +kernel, rfl, trivial, trivial, rfl, by decide +kernel⟩ (pi_list (pv 0)) (fun _ _ _ _ => .inl ⟨rfl, rfl⟩) (fun _ _ _ _ => (pe_fn G_over_at hr (pa_cons (pv 0) pa_nil))))))
      (pss_one (ps_ret (pe_callB (call_sortedS rfl) (by rfl) T.z_sorted boot_sorted (pa_cons (pe_callTy (call_setW rfl) (by rfl) T.z_set bt_set (pa_cons (pe_op op_cat (pe_lst (pa_cons (pv 1) (pa_cons (pv 2) pa_nil))) (pe_comp rfl (fv := ["start", "stop"]) (js := [1, 2]) ⟨rfl, rfl, by decide +kernel, by decide +kernel, rfl, ⟨⟨rfl, rfl, Or.inl rfl, rfl⟩, ⟨rfl, rfl, Or.inl rfl, rfl⟩, trivial⟩, ⟨rfl, rfl, trivial⟩, rfl, by decide +kernel⟩ (pi_list (pv 3)) (fun _ _ _ _ => .inr ⟨_, rfl, (pw_and (pt_cmpR op_lt (pv 1) (pv 0) (nomark _)) (pw_and1 (pt_cmpR op_lt (pv 0) (pv 2) (nomark _)))).pt⟩) (fun _ _ _ _ => (pv 0)))) pa_nil)) pa_nil)))), ?_⟩
    -- starts
    refine ⟨_, rfl, a, rfl, ⟨_, SqL.of la⟩, fun p1 hp1 => ?_⟩
    refine comp_gen (n := rs.length) (by omega) (fun i ys H' => H' = upd H p1 (.lst ys) ∧ ys = ((S.take i).map fun s => s.1).map V.int) (fun i x => rs[i]? = some x) ⟨rfl, rfl⟩ (fun ys H' h => ⟨_, SqL.of (by rw [h.1]; exact (Same.new hp1) _ _ la), Nat.le_refl _⟩) (fun i ys H' hi h => ⟨⟨_, _, SqL.of (by rw [h.1]; exact (Same.new hp1) _ _ la), List.getElem?_eq_getElem hi⟩, fun x H'' hy => ⟨hy.1, hy.2 _ (SqL.of (by rw [h.1]; exact (Same.new hp1) _ _ la))⟩⟩) (fun i ys H' h => by rw [h.2, List.length_map, List.length_map, List.length_take]; omega) ?_ ?_
    · rintro i ys H' x hi ⟨rfl, rfl⟩ hx N0 N1 hN0 hN1
      obtain ⟨ac, t, rfl, hct, ht⟩ := tri_at (ta.same (Same.new hp1)) hx
      unfold tTrue
      dsimp only
      refine iteT ⟨_, rfl, _, _, _, _, rfl, rfl, SqT.of hct, rfl, hN1 _ _ upd_same ⟨by rw [upd_upd], ?_⟩⟩
      rw [List.take_add_one, ht, List.map_append, List.map_append]; rfl
    rintro ys1 H1 ⟨rfl, rfl⟩
    rw [rl, List.take_length]
    have n1 := Same.new (o := .lst ((S.map fun s => s.1).map V.int)) hp1
    have l1 : upd H p1 (.lst ((S.map fun s => s.1).map V.int)) p1 = some (.lst ((S.map fun s => s.1).map V.int)) := upd_same
    generalize upd H p1 (.lst ((S.map fun s => s.1).map V.int)) = H1 at n1 l1
    -- ends
    have la1 := n1 _ _ la
    refine ⟨_, rfl, a, rfl, ⟨_, SqL.of la1⟩, fun p2 hp2 => ?_⟩
    refine comp_gen (n := rs.length) (by omega) (fun i ys H' => H' = upd H1 p2 (.lst ys) ∧ ys = ((S.take i).map overAt).map V.int) (fun i x => rs[i]? = some x) ⟨rfl, rfl⟩ (fun ys H' h => ⟨_, SqL.of (by rw [h.1]; exact (Same.new hp2) _ _ la1), Nat.le_refl _⟩) (fun i ys H' hi h => ⟨⟨_, _, SqL.of (by rw [h.1]; exact (Same.new hp2) _ _ la1), List.getElem?_eq_getElem hi⟩, fun x H'' hy => ⟨hy.1, hy.2 _ (SqL.of (by rw [h.1]; exact (Same.new hp2) _ _ la1))⟩⟩) (fun i ys H' h => by rw [h.2, List.length_map, List.length_map, List.length_take]; omega) ?_ ?_
    · rintro i ys H' x hi ⟨rfl, rfl⟩ hx N0 N1 hN0 hN1
      obtain ⟨ac, t, rfl, hct, ht⟩ := tri_at ((ta.same n1).same (Same.new hp2)) hx
      unfold tTrue
      dsimp only
      refine iteT ⟨_, rfl, ac, t, rfl, SqT.of hct, hN1 _ _ upd_same ⟨by rw [upd_upd], ?_⟩⟩
      rw [List.take_add_one, ht, List.map_append, List.map_append]; rfl
    rintro ys2 H2 ⟨rfl, rfl⟩
    rw [rl, List.take_length]
    have n2 := Same.new (o := .lst ((S.map overAt).map V.int)) hp2
    have l2 : upd H1 p2 (.lst ((S.map overAt).map V.int)) p2 = some (.lst ((S.map overAt).map V.int)) := upd_same
    have l1' := n2 _ _ l1
    have s2 := n1.trans n2
    generalize upd H1 p2 (.lst ((S.map overAt).map V.int)) = H2 at n2 l2 l1' s2
    refine ⟨p1, p2, _, _, rfl, rfl, l1', l2, Nat.le_of_lt (small_of (by simp only [List.length_map]; omega)), fun p3 hp3 => set_go ?_⟩
    dsimp only
    rw [← List.map_append]
    have n3 := Same.new (o := .lst ((S.map (fun s => s.1) ++ S.map overAt).map V.int)) hp3
    have l3 : upd H2 p3 (.lst ((S.map (fun s => s.1) ++ S.map overAt).map V.int)) p3 = some (.lst ((S.map (fun s => s.1) ++ S.map overAt).map V.int)) := upd_same
    have s3 := s2.trans n3
    generalize upd H2 p3 (.lst ((S.map (fun s => s.1) ++ S.map overAt).map V.int)) = H3 at n3 l3 s3
    generalize hU : S.map (fun s => s.1) ++ S.map overAt = U at l3
    have hUl : U.length ≤ 2000 := by rw [← hU, List.length_append, List.length_map, List.length_map]; omega
    -- [start, stop]
    refine ⟨_, rfl, _, rfl, len2, fun p4 hp4 => ?_⟩
    have n4 := Same.new (o := .lst [.int b, .int e]) hp4
    have l4 : upd H3 p4 (.lst [.int b, .int e]) p4 = some (.lst [.int b, .int e]) := upd_same
    have l3' := n4 _ _ l3
    have s4 := s3.trans n4
    generalize upd H3 p4 (.lst [.int b, .int e]) = H4 at n4 l4 l3' s4
    refine ⟨_, rfl, p3, rfl, ⟨_, SqL.of l3'⟩, fun p5 hp5 => ?_⟩
    have ul : (U.map V.int).length = U.length := List.length_map _
    refine comp_gen (n := (U.map V.int).length) (by omega) (fun i ys H' => H' = upd H4 p5 (.lst ys) ∧ ys = ((U.take i).filter fun x => decide (b < x) && decide (x < e)).map V.int) (fun i x => (U.map V.int)[i]? = some x) ⟨rfl, rfl⟩ (fun ys H' h => ⟨_, SqL.of (by rw [h.1]; exact (Same.new hp5) _ _ l3'), Nat.le_refl _⟩) (fun i ys H' hi h => ⟨⟨_, _, SqL.of (by rw [h.1]; exact (Same.new hp5) _ _ l3'), List.getElem?_eq_getElem hi⟩, fun x H'' hy => ⟨hy.1, hy.2 _ (SqL.of (by rw [h.1]; exact (Same.new hp5) _ _ l3'))⟩⟩) (fun i ys H' h => by rw [h.2, List.length_map]; exact Nat.le_trans (List.length_filter_le _ _) (by rw [List.length_take]; omega)) ?_ ?_
    · rintro i ys H' x hi ⟨rfl, rfl⟩ hx N0 N1 hN0 hN1
      rw [List.getElem?_map] at hx
      cases eu : U[i]? with
      | none => rw [eu] at hx; cases hx
      | some u =>
        rw [eu] at hx
        cases hx
        have tk : U.take (i + 1) = U.take i ++ [u] := by rw [List.take_add_one, eu]; rfl
        refine ⟨_, rfl, _, rfl, _, _, rfl, rfl, _, rfl, ?_⟩
        cases c1 : decide (b < u) with
        | false => exact iteF (hN0 _ ⟨rfl, by rw [tk, List.filter_append]; simp [c1]⟩)
        | true =>
          refine iteT ⟨_, rfl, _, rfl, _, _, rfl, rfl, _, rfl, ?_⟩
          cases c2 : decide (u < e) with
          | false => exact iteF (hN0 _ ⟨rfl, by rw [tk, List.filter_append]; simp [c1, c2]⟩)
          | true =>
            refine iteT ⟨_, rfl, hN1 _ _ upd_same ⟨by rw [upd_upd], ?_⟩⟩
            rw [tk, List.filter_append, List.map_append]
            simp [c1, c2]
    rintro ys5 H5 ⟨rfl, rfl⟩
    rw [ul, List.take_length]
    generalize hW : U.filter (fun x => decide (b < x) && decide (x < e)) = W
    have hm : ∀ x, x ∈ W ↔ x ∈ U ∧ b < x ∧ x < e := fun x => by rw [← hW, List.mem_filter]; simp
    have wl : W.length ≤ 2000 := by rw [← hW]; exact Nat.le_trans (List.length_filter_le _ _) hUl
    have n5 := Same.new (o := .lst (W.map V.int)) hp5
    have l5 : upd H4 p5 (.lst (W.map V.int)) p5 = some (.lst (W.map V.int)) := upd_same
    have s5 := s4.trans n5
    have l4' := n5 _ _ l4
    generalize upd H4 p5 (.lst (W.map V.int)) = H5 at l5 s5 l4'
    refine ⟨p4, p5, _, _, rfl, rfl, l4', l5, Nat.le_of_lt (small_of (by rw [List.length_map]; show 2 + W.length ≤ 1000000; omega)), fun p6 hp6 => ?_⟩
    have n6 := Same.new (o := .lst ((b :: e :: W).map V.int)) hp6
    refine ⟨p6, b :: e :: W, b, rfl, SqL.of upd_same, fun x hx => ?_, fun ps ms hps hms => ⟨ps, ms, rfl, upd_same, fun pz zs hpz hzs inc => ?_⟩⟩
    · rcases List.mem_cons.mp hx with rfl | hx
      · omega
      · rcases List.mem_cons.mp hx with rfl | hx
        · omega
        · have := ((hm x).mp hx).2; omega
    have n7 : Same (upd H5 p6 (.lst ((b :: e :: W).map V.int))) (upd (upd H5 p6 (.lst ((b :: e :: W).map V.int))) ps (SetO P w ps ms)) := Same.new hps
    have s7 := (s5.trans n6).trans n7
    refine k pz zs _ (s7.free hpz) (s7.trans (Same.new hpz)) upd_same (edges_of lt inc fun x => ?_)
    rw [hzs, hms, List.mem_cons, List.mem_cons, hm, ← hU, List.mem_append, List.mem_map, List.mem_map]
    constructor
    · rintro (h | h | ⟨⟨t, ht, rfl⟩ | ⟨t, ht, rfl⟩, h2⟩)
      · exact .inl h
      · exact .inr (.inl h)
      · exact .inr (.inr ⟨⟨t, ht, .inl rfl⟩, h2⟩)
      · exact .inr (.inr ⟨⟨t, ht, .inr rfl⟩, h2⟩)
    · rintro (h | h | ⟨⟨t, ht, h | h⟩, h2⟩)
      · exact .inl h
      · exact .inr (.inl h)
      · exact .inr (.inr ⟨.inl ⟨t, ht, h.symm⟩, h2⟩)
      · exact .inr (.inr ⟨.inr ⟨t, ht, h.symm⟩, h2⟩)
def spPiece : Sp := fun vs H Q _ => ∃ (p q : Addr) (e f lo : Int) (rs ys : List V) (R fr : List (Int × Int)) (G : List Tri) (F : Int → Prop), vs = [.ref p, .ref q, .int e, .int f] ∧ H p = some (.lst rs) ∧ TupsAt H rs (R.map pairVs) ∧ H q = some (.lst ys) ∧ TupsAt H ys (fr.map pairVs) ∧ p ≠ q ∧
  (lo ≤ e ∧ e < f ∧ f ≤ lo + 1000 ∧ f ≤ e + 168 ∧ -100000 ≤ e ∧ e ≤ 100000) ∧ WeekOk G e fr ∧ (∀ h, e ≤ h → h < f → (F h ↔ ∀ s ∈ G, ¬ goes s h)) ∧ Upto lo e F R ∧
  ∀ (rs' : List V) (R' : List (Int × Int)) (H' : Hp), KeepBut p H H' → H' p = some (.lst rs') → TupsAt H' rs' (R'.map pairVs) → Upto lo f F R' → Q .non H'
theorem pairVs_inj : ∀ {a b : List (Int × Int)}, a.map pairVs = b.map pairVs → a = b
  | [], [], _ => rfl
  | [], _ :: _, h => by cases h
  | _ :: _, [], h => by cases h
  | x :: a, y :: b, h => by
    rw [List.map_cons, List.map_cons] at h
    injection h with h1 h2
    unfold pairVs at h1
    injection h1 with h3 h4
    injection h4 with h5 h6
    have e : x = y := Prod.ext (V.int.inj h3) (V.int.inj h5)
    rw [e, pairVs_inj h2]
theorem upto_len {lo cur : Int} {F : Int → Prop} {R : List (Int × Int)} (u : Upto lo cur F R) (h : cur ≤ lo + 1000) : R.length ≤ 1000000 := by
  rcases chained_len u.1 with e | e
  · rw [e]; exact Nat.zero_le _
  · omega
abbrev s_add_piece : Stmt := top 8
theorem sc_add_piece : FnScope ["runs", "free", "start", "stop", "week", "run"] ["runs", "free", "start", "stop"] (defScope s_add_piece) := ⟨rfl, rfl, rfl, by decide +kernel, rfl, by decide +kernel, by decide +kernel⟩
theorem ok_add_piece {f : Addr} {fd : FuncData} (F : Fun K "add_piece" "add_piece" s_add_piece f fd) (T : Txt mg) (g_WEEK : ∃ u, mg "WEEK" = some (.int 168 u)) (G_add_run : Fn P w K mg base 1 "add_run" ["runs", "first", "behind"] spAddRun) : FnOk P w K mg base CX0 2 f fd ["runs", "free", "start", "stop"] spPiece := by
  refine F.ok sc_add_piece (fun vs H Q E h => ?_) (fun cdv A outer s H vs Q E hr h => ?_)
  · obtain ⟨_, _, _, _, _, _, _, _, _, _, _, rfl, _⟩ := h
    rfl
  · obtain ⟨p, q, e, f, lo, rs, ys, R, fr, G, F, rfl, lp, tp, lq, tq, ne, ⟨b1, b2, b3, b4, b5, b6⟩, wk, hF, up, k⟩ := h
    have hu := hu_of hr
    have yl : ys.length = fr.length := by rw [tq.len, List.length_map]
    refine ⟨_, pss_one (ps_if (pt_cmpR (op_eqL hu) (pv 1) (pe_lst (pa_cons (pe_tup (pa_cons pe_int (pa_cons (pe_gint g_WEEK) pa_nil))) pa_nil)) (nomark _))
          (pss_one (ps_expr (pe_fn G_add_run hr (pa_cons (pv 0) (pa_cons (pv 2) (pa_cons (pv 3) pa_nil))))))
          (pss_one (ps_if (pt_truth (pv 1) (fun _ => rfl))
            (pss_one (ps_for PassesOwn.never rfl (pi_range3 rfl T.z_range (pa_cons (pv 2) (pa_cons (pv 3) (pa_cons (pe_gint g_WEEK) pa_nil)))) (pg_name (i := 4) sc_add_piece.nd rfl (Or.inl rfl))
              (pss_one (ps_for PassesOwn.never rfl (pi_list (pv 1)) (pg_name (i := 5) sc_add_piece.nd rfl (Or.inl rfl))
                (pss_one (ps_expr (pe_fn G_add_run hr (pa_cons (pv 0) (pa_cons (pe_op op_add (pv 4) (pe_ix ix_tup (pv 5) pe_int (fun _ _ => rfl))) (pa_cons (pe_callB (call_min2 rfl) (by rfl) T.z_min boot_min (pa_cons (pe_op op_add (pv 4) (pe_ix ix_tup (pv 5) pe_int (fun _ _ => rfl))) (pa_cons (pv 3) pa_nil))) pa_nil))))))))))
            (pss_nil)))), ?_⟩
    refine ⟨_, rfl, len2, fun pt hpt => ⟨len1, fun pl hpl => ?_⟩⟩
    have n1 := Same.new (o := .tup (pairVs (0, 168))) hpt
    have n2 : Same (upd H pt (.tup (pairVs (0, 168)))) (upd (upd H pt (.tup (pairVs (0, 168)))) pl (.lst [.ref pt])) := Same.new hpl
    have s2 := n1.trans n2
    have hpt2 := n2 _ _ (show upd H pt (.tup (pairVs (0, 168))) pt = some (.tup (pairVs (0, 168))) from upd_same)
    refine ⟨q, pl, ys, [.ref pt], fr.map pairVs, [((0 : Int), (168 : Int))].map pairVs, rfl, rfl, SqL.of (s2 _ _ lq), SqL.of upd_same, tq.same s2, .cons ⟨pt, rfl, hpt2⟩ .nil, fun vs hv => ?_, fun vs hv => ?_, _, rfl, ?_⟩
    · obtain ⟨x, _, rfl⟩ := List.mem_map.mp hv
      rfl
    · obtain ⟨x, _, rfl⟩ := List.mem_map.mp hv
      rfl
    have lp2 := s2 _ _ lp
    have lq2 := s2 _ _ lq
    have tp2 := tp.same s2
    have tq2 := tq.same s2
    have kb2 : KeepBut p H (upd (upd H pt (.tup (pairVs (0, 168)))) pl (.lst [.ref pt])) := KeepBut.same s2
    generalize hH2 : upd (upd H pt (.tup (pairVs (0, 168)))) pl (.lst [.ref pt]) = H2 at lp2 lq2 tp2 tq2 kb2
    show (if (if false = true then !decide (fr.map pairVs = [((0 : Int), (168 : Int))].map pairVs) else decide (fr.map pairVs = [((0 : Int), (168 : Int))].map pairVs)) = true then _ else _)
    rw [if_neg Bool.false_ne_true]
    by_cases c : fr.map pairVs = [((0 : Int), (168 : Int))].map pairVs
    · rw [decide_eq_true c]
      have efr := pairVs_inj c
      subst efr
      refine iteT ?_
      refine ⟨_, rfl, _, rfl, _, rfl, p, e, f, rs, R, rfl, by first | exact lp2 | exact (s2 _ _ lp), by first | exact tp2 | exact tp.same s2, upto_len up (by omega), fun rs3 H3 kb3 l3 t3 => ?_⟩
      exact k rs3 _ H3 (kb2.trans (by rw [← hH2]; exact kb3)) l3 t3 (piece_all b1 (by omega) wk hF up)
    · rw [decide_eq_false c]
      refine iteF ?_
      refine ⟨_, rfl, _, .inl ⟨ys, SqL.of (s2 _ _ lq), rfl⟩, ?_⟩
      cases hfr : fr with
      | nil =>
        have hys : ys = [] := List.length_eq_zero_iff.mp (by rw [yl, hfr]; rfl)
        rw [show (!ys.isEmpty) = false by rw [hys]; rfl]
        rw [hfr] at wk
        refine iteF ?_
        exact k rs R _ (KeepBut.same s2) (s2 _ _ lp) (tp.same s2) (piece_none (by omega) wk hF up)
      | cons r0 fr0 =>
        rw [show (!ys.isEmpty) = true by cases hh : ys with | nil => rw [hh, hfr] at yl; cases yl | cons _ _ => rfl]
        refine iteT ?_
        have um : Upto lo e (Mix F (fun h => ∀ s ∈ G, ¬ goes s h) e) R := up.congr fun x h1 h2 => (mix_lt h2).symm
        have wm : Upto 0 168 (fun t => Mix F (fun h => ∀ s ∈ G, ¬ goes s h) e (e + t)) fr := week_mix wk 0 (by simp)
        refine ⟨_, rfl, _, rfl, e, f, rfl, ⟨by omega, by omega, by omega, by omega⟩, ?_⟩
        refine for_range (lo := e) (n := 1) (fun i σ H' => ∃ (x4 x5 : Option V) (rs' : List V) (R' : List (Int × Int)), σ = [some (.ref p), some (.ref q), some (.int e), some (.int f), x4, x5] ∧ KeepBut p H H' ∧ H' p = some (.lst rs') ∧ TupsAt H' rs' (R'.map pairVs) ∧ Upto lo (if i = 0 then e else f) (Mix F (fun h => ∀ s ∈ G, ¬ goes s h) e) R')
          ⟨none, none, rs, R, rfl, KeepBut.same s2, s2 _ _ lp, tp.same s2, by rw [if_pos rfl]; exact um⟩ ?_ ?_
        · rintro i σ H3 hi ⟨x4, x5, rs3, R3, rfl, kb3, l3, t3, u3⟩
          have : i = 0 := by omega
          subst this
          rw [if_pos rfl] at u3
          refine set_go ?_
          dsimp only
          rw [show e + ((0 : Nat) : Int) = e by simp]
          have lq3 := kb3 _ _ ne.symm lq
          refine ⟨_, rfl, q, rfl, ⟨_, SqL.of lq3⟩, for_list (K := K) (a := q) (xs := ys) (fun j σ H' => ∃ (x5 : Option V) (rs' : List V) (R' : List (Int × Int)), σ = [some (.ref p), some (.ref q), some (.int e), some (.int f), some (.int e), x5] ∧ KeepBut p H H' ∧ H' p = some (.lst rs') ∧ TupsAt H' rs' (R'.map pairVs) ∧ Upto lo (min (e + max 0 (endR (-1) (fr.take j))) f) (Mix F (fun h => ∀ s ∈ G, ¬ goes s h) e) R')
            ⟨x5, rs3, R3, rfl, kb3, l3, t3, ?_⟩ (fun j σ H' _ h => by obtain ⟨_, _, _, _, z, _⟩ := h; exact SqL.of (z _ _ ne.symm lq)) ?_ ?_⟩
          · rw [List.take_zero, endR_nil, show min (e + max 0 (-1)) f = e by omega]
            exact u3
          · rintro j v σ H4 hv ⟨x5', rs4, R4, rfl, kb4, l4, t4, u4⟩
            obtain ⟨ac, r, rfl, hct, hr'⟩ := pair_at tq hv
            have hct4 : H4 ac = some (.tup (pairVs r)) := kb4 _ _ (fun z => by rw [z, lp] at hct; cases hct) hct
            refine set_go ?_
            dsimp only
            refine ⟨_, rfl, _, rfl, _, rfl, _, _, _, _, rfl, rfl, SqT.of hct4, rfl, _, _, rfl, rfl, _, rfl, _, rfl, _, _, _, _, rfl, rfl, SqT.of hct4, rfl, _, _, rfl, rfl, _, rfl, _, _, rfl, p, e + r.1, _, rs4, R4, rfl, l4, t4, upto_len u4 (by omega), fun rs5 H5 kb5 l5 t5 => ?_⟩
            refine ⟨_, rs5, _, rfl, kb4.trans kb5, l5, t5, ?_⟩
            have tk : fr.take (j + 1) = fr.take j ++ [r] := by rw [List.take_add_one, hr']; rfl
            have lw := wm.1.low r (List.mem_of_getElem? hr')
            rw [tk, endR_snoc, show max 0 r.2 = r.2 by omega]
            exact week_step b1 b2 wm hr' u4
          · rintro σ H4 ⟨x5', rs4, R4, rfl, kb4, l4, t4, u4⟩
            refine ⟨_, _, rs4, R4, rfl, kb4, l4, t4, ?_⟩
            rw [if_neg (by omega)]
            rw [yl, List.take_length] at u4
            have := week_end wm u4
            rw [show min (e + 168) f = f by omega] at this
            exact this
        · rintro σ H3 ⟨x4, x5, rs3, R3, rfl, kb3, l3, t3, u3⟩
          rw [if_neg (by omega)] at u3
          refine k rs3 R3 H3 kb3 l3 t3 (u3.congr fun x h1 h2 => ?_)
          by_cases z : x < e
          · exact mix_lt z
          · rw [mix_ge (by omega), hF x (by omega) h2]
def spGaps : Sp := fun vs H Q _ => ∃ (a : Addr) (rs : List V) (rows : List Bkg) (room beg fin : Int), vs = [.ref a, .int room, .int beg, .int fin] ∧ H a = some (.lst rs) ∧ TupsAt H rs (rows.map Bkg.vs) ∧ RowsOk rows ∧ NoClash rows ∧ rows.length ≤ 1000 ∧ (-1000 ≤ beg ∧ beg ≤ 1000 ∧ fin ≤ beg + 60 ∧ beg ≤ fin + 1000) ∧
  ∀ (p : Addr) (gs : List V) (ps : List (Int × Int)) (H' : Hp), Same H H' → H' p = some (.lst gs) → TupsAt H' gs (ps.map pairVs) → GapsOk rows room beg fin ps → Q (.ref p) H'
structure FR (H H' : Hp) (l pe p5 pg : Addr) (ys : List V) (C : List Tri) (E : List Int) (rr : List V) (R : List (Int × Int)) (gs : List V) (G : List Tri) : Prop where
  sm : Same H H'
  hl : H' l = some (.lst ys)
  ty : TupsAt H' ys (C.map triVs)
  he : H' pe = some (.lst (E.map V.int))
  hr : H' p5 = some (.lst rr)
  tr : TupsAt H' rr (R.map pairVs)
  hg : H' pg = some (.lst gs)
  tg : TupsAt H' gs (G.map triVs)
  fr : H pg = none
  n1 : pg ≠ l
  n2 : pg ≠ pe
  n3 : pg ≠ p5
theorem FR.add {H H' : Hp} {l pe p5 pg : Addr} {ys : List V} {C : List Tri} {E : List Int} {rr : List V} {R : List (Int × Int)} {gs : List V} {G : List Tri} (x : FR H H' l pe p5 pg ys C E rr R gs G) {ac : Addr} {t : Tri} (ha : H' ac = some (.tup (triVs t))) : FR H (upd H' pg (.lst (gs ++ [.ref ac]))) l pe p5 pg ys C E rr R (gs ++ [.ref ac]) (G ++ [t]) := by
  have kb : KeepBut pg H' (upd H' pg (.lst (gs ++ [.ref ac]))) := (KeepBut.refl _ _).put _
  have na : ac ≠ pg := fun e => by rw [e, x.hg] at ha; cases ha
  refine ⟨KeepBut.fresh x.sm x.fr kb, kb _ _ x.n1.symm x.hl, kb.tups x.hg x.ty, kb _ _ x.n2.symm x.he, kb _ _ x.n3.symm x.hr, kb.tups x.hg x.tr, upd_same, ?_, x.fr, x.n1, x.n2, x.n3⟩
  rw [List.map_append]
  exact (kb.tups x.hg x.tg).append (.cons ⟨ac, rfl, kb _ _ na ha⟩ .nil)
theorem FR.new {H H' : Hp} {l pe p5 pg p7 : Addr} {ys : List V} {C : List Tri} {E : List Int} {rr : List V} {R : List (Int × Int)} {gs gs' : List V} {G G' : List Tri} (x : FR H H' l pe p5 pg ys C E rr R gs G) (h7 : H' p7 = none) (t7 : TupsAt H' gs' (G'.map triVs)) : FR H (upd H' p7 (.lst gs')) l pe p5 p7 ys C E rr R gs' G' := by
  have n := Same.new (o := .lst gs') h7
  exact ⟨x.sm.trans n, n _ _ x.hl, x.ty.same n, n _ _ x.he, n _ _ x.hr, x.tr.same n, upd_same, t7.same n, x.sm.free h7, (fun e => by rw [e, x.hl] at h7; cases h7), (fun e => by rw [e, x.he] at h7; cases h7), (fun e => by rw [e, x.hr] at h7; cases h7)⟩
theorem FR.run {H H' H'' : Hp} {l pe p5 pg : Addr} {ys : List V} {C : List Tri} {E : List Int} {rr rr' : List V} {R R' : List (Int × Int)} {gs : List V} {G : List Tri} (x : FR H H' l pe p5 pg ys C E rr R gs G) (h5 : H p5 = none) (m1 : p5 ≠ l) (m2 : p5 ≠ pe) (kb : KeepBut p5 H' H'') (hr : H'' p5 = some (.lst rr')) (tr : TupsAt H'' rr' (R'.map pairVs)) : FR H H'' l pe p5 pg ys C E rr' R' gs G :=
  ⟨KeepBut.fresh x.sm h5 kb, kb _ _ m1.symm x.hl, kb.tups x.hr x.ty, kb _ _ m2.symm x.he, hr, tr, kb _ _ x.n3 x.hg, kb.tups x.hr x.tg, x.fr, x.n1, x.n2, x.n3⟩
theorem FR.keep {H H' H'' : Hp} {l pe p5 pg : Addr} {ys : List V} {C : List Tri} {E : List Int} {rr : List V} {R : List (Int × Int)} {gs : List V} {G : List Tri} (x : FR H H' l pe p5 pg ys C E rr R gs G) (n : Same H' H'') : FR H H'' l pe p5 pg ys C E rr R gs G :=
  ⟨x.sm.trans n, n _ _ x.hl, x.ty.same n, n _ _ x.he, n _ _ x.hr, x.tr.same n, n _ _ x.hg, x.tg.same n, x.fr, x.n1, x.n2, x.n3⟩
def spRuns : Sp := fun vs H Q _ => ∃ (a : Addr) (b e : Int) (rs : List V) (S : List Tri), vs = [.ref a, .int b, .int e] ∧ H a = some (.lst rs) ∧ TupsAt H rs (S.map triVs) ∧ (∀ s ∈ S, SpanOk s ∧ 1 ≤ s.2.2) ∧ S.length ≤ 1000 ∧ (b < e ∧ e ≤ b + 60 ∧ -1000 ≤ b ∧ b ≤ 1000) ∧
  ∀ (p : Addr) (ys : List V) (R : List (Int × Int)) (H' : Hp), H p = none → Same H H' → H' p = some (.lst ys) → TupsAt H' ys (R.map pairVs) → Upto b e (FreeOf S) R → Q (.ref p) H'
theorem triVs_ints (L : List Tri) : L.map triVs = (L.map fun s => [s.1, s.2.1, s.2.2]).map fun ns => ns.map V.int := by
  rw [List.map_map]; rfl
theorem getD_of {l : List Int} {i : Nat} (h : i < l.length) : l[i]? = some (l.getD i 0) := by
  rw [List.getD_eq_getElem?_getD, List.getElem?_eq_getElem h]; rfl
abbrev s_free_runs : Stmt := top 4
theorem sc_free_runs : FnScope ["spans", "start", "stop", "coming", "edges", "runs", "going", "begun", "place", "edge"] ["spans", "start", "stop"] (defScope s_free_runs) := ⟨rfl, rfl, rfl, by decide +kernel, rfl, by decide +kernel, by decide +kernel⟩
theorem ok_free_runs {f : Addr} {fd : FuncData} (F : Fun K "free_runs" "free_runs" s_free_runs f fd) (T : Txt mg) (G_is_empty : Fn P w K mg base 1 "is_empty" ["span"] (spEmpty K)) (G_edges_within : Fn P w K mg base 2 "edges_within" ["spans", "start", "stop"] spEdges) (G_over_at : Fn P w K mg base 1 "over_at" ["span"] (spOverAt K)) (G_free_in_week : Fn P w K mg base 2 "free_in_week" ["spans", "hour"] spWeek) (G_add_piece : Fn P w K mg base 2 "add_piece" ["runs", "free", "start", "stop"] spPiece) : FnOk P w K mg base CX0 3 f fd ["spans", "start", "stop"] spRuns := by
  refine F.ok sc_free_runs (fun vs H Q E h => ?_) (fun cdv A outer s H vs Q E hr h => ?_)
  · obtain ⟨_, _, _, _, _, rfl, _⟩ := h
    rfl
  · obtain ⟨a, b, e, rs, S, rfl, la, ta, ok, len, ⟨lt, sm, g1, g2⟩, k⟩ := h
    have rl : rs.length = S.length := by rw [ta.len, List.length_map]
    refine ⟨_, pss_cons (ps_set (i := 3) sc_free_runs.nd rfl (Or.inl rfl) (pe_callB call_sortedT (by rfl) T.z_sorted boot_sorted (pa_cons (pe_comp rfl (fv := []) (js := []) ⟨rfl, rfl, by decide +kernel, by decide +kernel, rfl, trivial, trivial, rfl, by decide +kernel⟩ (pi_list (pv 0)) (fun _ _ _ _ => .inr ⟨_, rfl, (pt_not (pt_val (pe_fn G_is_empty hr (pa_cons (pv 0) pa_nil))))⟩) (fun _ _ _ _ => (pv 0))) pa_nil)))
      (pss_cons (ps_set (i := 4) sc_free_runs.nd rfl (Or.inl rfl) (pe_fn G_edges_within hr (pa_cons (pv 3) (pa_cons (pv 1) (pa_cons (pv 2) pa_nil)))))
      (pss_cons (ps_set (i := 5) sc_free_runs.nd rfl (Or.inl rfl) (pe_lst pa_nil))
      (pss_cons (ps_set (i := 6) sc_free_runs.nd rfl (Or.inl rfl) (pe_lst pa_nil))
      (pss_cons (ps_set (i := 7) sc_free_runs.nd rfl (Or.inl rfl) pe_int)
      (pss_cons (ps_for PassesOwn.never rfl (pi_range1 rfl T.z_range (pa_cons (pe_op op_sub (pe_callB call_len_seq (by rfl) T.z_len PySem.boot_len (pa_cons (pv 4) pa_nil)) pe_int) pa_nil)) (pg_name (i := 8) sc_free_runs.nd rfl (Or.inl rfl))
          (pss_cons (ps_set (i := 9) sc_free_runs.nd rfl (Or.inr rfl) (pe_ix ix_list (pv 4) (pv 8) (fun _ _ => rfl)))
          (pss_cons (ps_while PassesOwn.never (pw_and (pt_cmpR op_lt (pv 7) (pe_callB call_len_seq (by rfl) T.z_len PySem.boot_len (pa_cons (pv 3) pa_nil)) (nomark _)) (pw_and1 (pt_cmpR op_le (pe_ix ix_tup (pe_ix ix_list (pv 3) (pv 7) (fun _ _ => rfl)) pe_int (fun _ _ => rfl)) (pv 9) (nomark _)))).pt
            (pss_cons (ps_expr (pe_bm PySem.F.plainAttrs_list PySem.slot_list_append rfl mt_append (pv 6) (pa_cons (pe_ix ix_list (pv 3) (pv 7) (fun _ _ => rfl)) pa_nil)))
            (pss_one (ps_aug (i := 7) sc_free_runs.nd rfl (Or.inl rfl) pe_int ip_add))))
          (pss_cons (ps_setComp (i := 6) rfl (fv := ["edge"]) (js := [9]) ⟨rfl, rfl, by decide +kernel, by decide +kernel, rfl, ⟨⟨rfl, rfl, Or.inl rfl, rfl⟩, trivial⟩, ⟨rfl, trivial⟩, rfl, by decide +kernel⟩ (pi_list (pv 6)) (fun _ _ _ _ => .inr ⟨_, rfl, (pt_cmpR op_gt (pe_fn G_over_at hr (pa_cons (pv 0) pa_nil)) (pv 1) (nomark _))⟩) (fun _ _ _ _ => (pv 0)) sc_free_runs.nd rfl (Or.inl rfl) rfl)
          (pss_one (ps_expr (pe_fn G_add_piece hr (pa_cons (pv 5) (pa_cons (pe_fn G_free_in_week hr (pa_cons (pv 6) (pa_cons (pv 9) pa_nil))) (pa_cons (pv 9) (pa_cons (pe_ix ix_list (pv 4) (pe_op op_add (pv 8) pe_int) (fun _ _ => rfl)) pa_nil)))))))))))
      (pss_one (ps_ret (pv 5)))))))), ?_⟩
    -- coming
    refine ⟨_, rfl, a, rfl, ⟨_, SqL.of la⟩, fun p1 hp1 => ?_⟩
    refine comp_gen (n := rs.length) (by omega) (fun i ys H' => H' = upd H p1 (.lst ys) ∧ ys = rs.take i) (fun i x => rs[i]? = some x) ⟨rfl, rfl⟩ (fun ys H' h => ⟨_, SqL.of (by rw [h.1]; exact (Same.new hp1) _ _ la), Nat.le_refl _⟩) (fun i ys H' hi h => ⟨⟨_, _, SqL.of (by rw [h.1]; exact (Same.new hp1) _ _ la), List.getElem?_eq_getElem hi⟩, fun x H'' hy => ⟨hy.1, hy.2 _ (SqL.of (by rw [h.1]; exact (Same.new hp1) _ _ la))⟩⟩) (fun i ys H' h => by rw [h.2, List.length_take]; omega) ?_ ?_
    · rintro i ys H' x hi ⟨rfl, rfl⟩ hx N0 N1 hN0 hN1
      obtain ⟨ac, t, rfl, hct, ht⟩ := tri_at (ta.same (Same.new hp1)) hx
      obtain ⟨⟨o1, o2⟩, o3⟩ := ok t (List.mem_of_getElem? ht)
      have he : emptyB t.1 t.2.1 t.2.2 = false := by unfold emptyB; simp; omega
      refine ⟨_, rfl, ac, t.1, t.2.1, t.2.2, rfl, SqT.of hct, _, rfl, ?_⟩
      rw [he]
      refine iteT ⟨_, rfl, hN1 _ _ upd_same ⟨by rw [upd_upd], ?_⟩⟩
      rw [List.take_add_one, hx]; rfl
    rintro ys1 H1 ⟨rfl, rfl⟩
    rw [List.take_length]
    have n1 := Same.new (o := .lst rs) hp1
    have ta1 := ta.same n1
    rw [triVs_ints] at ta1
    refine ⟨p1, rs, _, rfl, upd_same, ta1, fun ns hn => ?_, by omega, fun l ys mss hl0 pm ty0 inc => set_go ?_⟩
    · obtain ⟨x, _, rfl⟩ := List.mem_map.mp hn
      exact List.cons_ne_nil _ _
    obtain ⟨C, pC, rfl⟩ := perm_of_map pm
    rw [← triVs_ints] at ty0
    dsimp only
    have n2 := Same.new (o := .lst ys) hl0
    have s2 := n1.trans n2
    have hl2 : upd (upd H p1 (.lst rs)) l (.lst ys) l = some (.lst ys) := upd_same
    have ty2 := ty0.same n2
    generalize upd (upd H p1 (.lst rs)) l (.lst ys) = H2 at s2 hl2 ty2
    clear n1 n2 ta1 hl0 ty0 pm
    have okC : ∀ s ∈ C, SpanOk s := fun s hs => (ok s (pC.mem_iff.mp hs)).1
    have Cl : C.length = S.length := pC.length_eq
    have yl : ys.length = C.length := by rw [ty2.len, List.length_map]
    have ordC : C.Pairwise fun p q => p.1 ≤ q.1 := by
      rw [List.pairwise_map] at inc
      refine inc.imp fun {x y} h => ?_
      have : ¬ y.1 < x.1 := fun z => h (List.Lex.rel z)
      omega
    -- edges
    refine ⟨_, rfl, _, rfl, _, rfl, l, b, e, ys, C, rfl, hl2, ty2, by omega, lt, sm, fun pe E H3 hpe s3 le ed => set_go ?_⟩
    dsimp only
    have hl3 := s3 _ _ hl2
    have ty3 := ty2.same s3
    have sH3 := s2.trans s3
    have nle : pe ≠ l := fun z => by rw [z, hl2] at hpe; cases hpe
    clear hl2 ty2 s3 hpe s2
    -- runs, going, begun
    refine ⟨Nat.zero_le _, fun p5 hp5 => set_go ?_⟩
    dsimp only
    have m1 : p5 ≠ l := fun z => by rw [z, hl3] at hp5; cases hp5
    have m2 : p5 ≠ pe := fun z => by rw [z, le] at hp5; cases hp5
    have h5H : H p5 = none := sH3.free hp5
    have n5 := Same.new (o := .lst []) hp5
    have hr5 : upd H3 p5 (.lst []) p5 = some (.lst []) := upd_same
    have hl5 := n5 _ _ hl3
    have ty5 := ty3.same n5
    have le5 := n5 _ _ le
    have sH5 := sH3.trans n5
    generalize upd H3 p5 (.lst []) = H5 at hr5 hl5 ty5 le5 sH5
    clear n5 hl3 ty3 le sH3 hp5
    refine ⟨Nat.zero_le _, fun p6 hp6 => set_go ?_⟩
    dsimp only
    have n6 := Same.new (o := .lst []) hp6
    have fr0 : FR H (upd H5 p6 (.lst [])) l pe p5 p6 ys C E [] [] [] [] := ⟨sH5.trans n6, n6 _ _ hl5, ty5.same n6, n6 _ _ le5, n6 _ _ hr5, .nil, upd_same, .nil, sH5.free hp6, (fun z => by rw [z, hl5] at hp6; cases hp6), (fun z => by rw [z, le5] at hp6; cases hp6), (fun z => by rw [z, hr5] at hp6; cases hp6)⟩
    generalize upd H5 p6 (.lst []) = H6 at fr0
    clear n6 hl5 ty5 le5 hr5 sH5 hp6
    refine set_go ?_
    dsimp only
    have two := ed.two
    have El : (E.map V.int).length = E.length := List.length_map _
    have Es : E.length ≤ 62 := by
      have := ed.inn
      have nd : E.Nodup := ed.ord.imp fun h => by omega
      have := nodup_le nd (m := (List.range 62).map fun (j : Nat) => b + (j : Int)) fun x hx => by
        have := ed.inn x hx
        exact List.mem_map.mpr ⟨(x - b).toNat, List.mem_range.mpr (by omega), by omega⟩
      rw [List.length_map, List.length_range] at this
      exact this
    refine ⟨_, rfl, pe, _, rfl, .inl (SqL.of fr0.he), _, _, rfl, rfl, _, rfl, by rw [El]; omega, by rw [El]; omega, ?_⟩
    rw [El, show ((E.length : Int) - 1).toNat = E.length - 1 by omega]
    refine for_range (lo := 0) (n := E.length - 1) (fun i σ H' => ∃ (pg : Addr) (gs rr : List V) (G : List Tri) (R : List (Int × Int)) (n : Nat) (x8 x9 : Option V), σ = [some (.ref a), some (.int b), some (.int e), some (.ref l), some (.ref pe), some (.ref p5), some (.ref pg), some (.int (n : Int)), x8, x9] ∧
        FR H H' l pe p5 pg ys C E rr R gs G ∧ Upto b (E.getD i 0) (FreeOf C) R ∧ Going C n (E.getD i 0) G ∧ (∀ s ∈ C.take n, s.1 ≤ E.getD i 0) ∧ n ≤ C.length ∧ G.length ≤ n)
      ⟨p6, [], [], [], [], 0, none, none, rfl, fr0, ?_, ⟨fun s hs => (by cases hs), fun s hs => (by rw [List.take_zero] at hs; cases hs)⟩, fun s hs => (by rw [List.take_zero] at hs; cases hs), Nat.zero_le _, Nat.le_refl _⟩ ?_ ?_
    · have : E.getD 0 0 = b := by rw [List.getD_eq_getElem?_getD, ed.fst]; rfl
      rw [this]
      exact Upto.nil _ _
    · rintro i σ H7 hi ⟨pg, gs, rr, G, R, n, x8, x9, rfl, fr, up, go, le1, nC, Gn⟩
      refine set_go ?_
      dsimp only
      rw [Int.zero_add]
      have e1 := getD_of (l := E) (i := i) (by omega)
      have e2 := getD_of (l := E) (i := i + 1) (by omega)
      have i1 := ed.inn _ (List.mem_of_getElem? e1)
      have i2 := ed.inn _ (List.mem_of_getElem? e2)
      have hlt : E.getD i 0 < E.getD (i + 1) 0 := by
        obtain ⟨q1, q2⟩ := List.getElem?_eq_some_iff.mp e1
        obtain ⟨q3, q4⟩ := List.getElem?_eq_some_iff.mp e2
        rw [← q2, ← q4]
        exact List.pairwise_iff_getElem.mp ed.ord i (i + 1) q1 q3 (by omega)
      have at1 := atI_ints (ns := E) (k := i) (by omega)
      have at2 := atI_ints (ns := E) (k := i + 1) (by omega)
      generalize E.getD i 0 = c1 at e1 i1 hlt at1 up go le1
      generalize E.getD (i + 1) 0 = c2 at e2 i2 hlt at2 ⊢
      refine ⟨_, rfl, _, rfl, _, _, _, _, rfl, rfl, SqL.of fr.he, at1, set_go ?_⟩
      dsimp only
      -- while
      refine seq_at (fun σ H' => ∃ (gs : List V) (G : List Tri) (n : Nat), σ = [some (.ref a), some (.int b), some (.int e), some (.ref l), some (.ref pe), some (.ref p5), some (.ref pg), some (.int (n : Int)), some (.int (i : Int)), some (.int c1)] ∧
        FR H H' l pe p5 pg ys C E rr R gs G ∧ Going C n c1 G ∧ (∀ s ∈ C.take n, s.1 ≤ c1) ∧ (∀ s ∈ C.drop n, c1 < s.1) ∧ n ≤ C.length ∧ G.length ≤ n) (fun M hM => ?_) ?_
      · refine ⟨fun m σ H' => ∃ (gs : List V) (G : List Tri) (n : Nat), σ = [some (.ref a), some (.int b), some (.int e), some (.ref l), some (.ref pe), some (.ref p5), some (.ref pg), some (.int (n : Int)), some (.int (i : Int)), some (.int c1)] ∧
          FR H H' l pe p5 pg ys C E rr R gs G ∧ Going C n c1 G ∧ (∀ s ∈ C.take n, s.1 ≤ c1) ∧ n ≤ C.length ∧ G.length ≤ n ∧ m = C.length - n, ⟨_, gs, G, n, rfl, fr, go, le1, nC, Gn, rfl⟩, ?_⟩
        rintro m σ H8 ⟨gs, G, n, rfl, fr, go, le1, nC, Gn, rfl⟩
        refine ⟨_, rfl, _, rfl, _, _, rfl, .inl (SqL.of fr.hl), _, _, rfl, rfl, _, rfl, ?_⟩
        by_cases z : n < C.length
        · rw [decide_eq_true (show (n : Int) < (ys.length : Int) by omega)]
          obtain ⟨v, hv⟩ : ∃ v, ys[n]? = some v := ⟨_, List.getElem?_eq_getElem (by omega)⟩
          obtain ⟨ac, t, rfl, hct, ht⟩ := tri_at fr.ty hv
          have tk : C.take (n + 1) = C.take n ++ [t] := by rw [List.take_add_one, ht]; rfl
          refine iteT ⟨_, rfl, _, rfl, _, _, _, _, rfl, rfl, SqL.of fr.hl, atI_nat hv, _, _, _, _, rfl, rfl, SqT.of hct, rfl, _, rfl, _, _, rfl, rfl, _, rfl, ?_⟩
          by_cases y : t.1 ≤ c1
          · rw [decide_eq_true y]
            have gl : gs.length ≤ n := by rw [fr.tg.len, List.length_map]; exact Gn
            refine iteT ⟨_, fun σ' H' h => h, ?_⟩
            refine ⟨_, rfl, .inl ⟨rfl, _, SqL.of fr.hg⟩, _, rfl, _, rfl, _, _, _, _, rfl, rfl, SqL.of fr.hl, atI_nat hv, pg, _, _, rfl, rfl, fr.hg, small_of (by omega), ?_⟩
            refine ⟨_, rfl, _, _, rfl, rfl, ?_⟩
            refine ⟨C.length - (n + 1), by omega, _, _, n + 1, rfl, fr.add hct, go.add ht, fun s hs => ?_, by omega, by rw [List.length_append, List.length_singleton]; omega, rfl⟩
            rw [tk] at hs
            rcases List.mem_append.mp hs with h | h
            · exact le1 s h
            · rw [List.mem_singleton.mp h]; exact y
          · rw [decide_eq_false y]
            refine iteF (hM _ _ ⟨gs, G, n, rfl, fr, go, le1, fun s hs => ?_, nC, Gn⟩)
            have sp : C = C.take n ++ t :: C.drop (n + 1) := by
              obtain ⟨h, e⟩ := List.getElem?_eq_some_iff.mp ht
              rw [← e, ← List.drop_eq_getElem_cons h, List.take_append_drop]
            have dr : C.drop n = t :: C.drop (n + 1) := by
              obtain ⟨h, e⟩ := List.getElem?_eq_some_iff.mp ht
              rw [← e, ← List.drop_eq_getElem_cons h]
            rw [dr] at hs
            rcases List.mem_cons.mp hs with h | h
            · rw [h]; omega
            · have od := ordC
              rw [sp, List.pairwise_append, List.pairwise_cons] at od
              have := od.2.1.1 s h
              omega
        · rw [decide_eq_false (show ¬ (n : Int) < (ys.length : Int) by omega)]
          refine iteF (hM _ _ ⟨gs, G, n, rfl, fr, go, le1, fun s hs => ?_, nC, Gn⟩)
          rw [List.drop_of_length_le (by omega)] at hs
          cases hs
      clear fr go le1 nC Gn
      rintro σ H8 ⟨gs, G, n, rfl, fr, go, le1, gt1, nC, Gn⟩
      -- going
      have gl : gs.length = G.length := by rw [fr.tg.len, List.length_map]
      refine ⟨_, rfl, pg, rfl, ⟨_, SqL.of fr.hg⟩, fun p7 hp7 => ?_⟩
      refine comp_gen (n := gs.length) (by omega) (fun i ys H' => H' = upd H8 p7 (.lst ys) ∧ TupsAt H8 ys (((G.take i).filter fun s => decide (c1 < overAt s)).map triVs)) (fun i x => gs[i]? = some x) ⟨rfl, .nil⟩ (fun ys H' h => ⟨_, SqL.of (by rw [h.1]; exact (Same.new hp7) _ _ fr.hg), Nat.le_refl _⟩) (fun i ys H' hi h => ⟨⟨_, _, SqL.of (by rw [h.1]; exact (Same.new hp7) _ _ fr.hg), List.getElem?_eq_getElem hi⟩, fun x H'' hy => ⟨hy.1, hy.2 _ (SqL.of (by rw [h.1]; exact (Same.new hp7) _ _ fr.hg))⟩⟩) (fun i ys H' h => by rw [h.2.len, List.length_map]; exact Nat.le_trans (List.length_filter_le _ _) (by rw [List.length_take]; omega)) ?_ ?_
      · rintro j zs H' x hj ⟨rfl, tz⟩ hx N0 N1 hN0 hN1
        obtain ⟨ac, t, rfl, hct, ht⟩ := tri_at fr.tg hx
        have tk : G.take (j + 1) = G.take j ++ [t] := by rw [List.take_add_one, ht]; rfl
        refine ⟨_, rfl, ac, t, rfl, SqT.of ((Same.new hp7) _ _ hct), _, rfl, _, _, rfl, rfl, _, rfl, ?_⟩
        cases c : decide (c1 < overAt t) with
        | false => exact iteF (hN0 _ ⟨rfl, by rw [tk, List.filter_append]; simp [c]; simpa using tz⟩)
        | true =>
          refine iteT ⟨_, rfl, hN1 _ _ upd_same ⟨by rw [upd_upd], ?_⟩⟩
          rw [tk, List.filter_append, List.map_append]
          refine tz.append ?_
          rw [show [t].filter (fun s => decide (c1 < overAt s)) = [t] by simp [c]]
          exact .cons ⟨ac, rfl, hct⟩ .nil
      rintro zs H9 ⟨rfl, tz⟩
      rw [gl, List.take_length] at tz
      have fr9 := fr.new hp7 tz
      have hG := go.iff le1 gt1
      have go9 := go.left
      generalize hGf : G.filter (fun s => decide (c1 < overAt s)) = G9 at tz fr9 hG go9
      have G9l : G9.length ≤ n := by rw [← hGf]; exact Nat.le_trans (List.length_filter_le _ _) Gn
      generalize upd H8 p7 (.lst zs) = H9 at fr9
      refine set_go ?_
      dsimp only
      -- the piece
      refine ⟨_, rfl, _, rfl, _, rfl, p7, c1, zs, G9, rfl, fr9.hg, fr9.tg, fun s hs => okC s ((hG s).mp hs).1, by omega, fun pw yw Rw H10 hpw s10 lw tw wk => ?_⟩
      have fr10 := fr9.keep s10
      have npw : p5 ≠ pw := fun z => by rw [← z, fr9.hr] at hpw; cases hpw
      refine ⟨_, rfl, _, rfl, _, rfl, _, _, rfl, rfl, _, _, _, _, rfl, rfl, SqL.of fr10.he, at2, p5, pw, c1, c2, b, rr, yw, R, Rw, G9, FreeOf C, rfl, fr10.hr, fr10.tr, lw, tw, npw, ⟨by omega, hlt, by omega, by omega, by omega, by omega⟩, wk, fun h h1 h2 => piece_free ed okC e1 e2 hG h1 h2, up, fun rr' R' H11 kb l11 t11 u11 => ?_⟩
      exact ⟨p7, zs, rr', G9, R', n, _, _, rfl, fr10.run h5H m1 m2 kb l11 t11, u11, go9.later (by omega), fun s hs => by have := le1 s hs; omega, nC, G9l⟩
    · rintro σ H7 ⟨pg, gs, rr, G, R, n, x8, x9, rfl, fr, up, go, le1, nC, Gn⟩
      have : E.getD (E.length - 1) 0 = e := by rw [List.getD_eq_getElem?_getD, ed.lst]; rfl
      rw [this] at up
      refine ⟨_, rfl, k p5 rr R H7 h5H fr.sm fr.hr fr.tr (up.congr fun x _ _ => ?_)⟩
      unfold FreeOf
      exact ⟨fun h s hs => h s (pC.mem_iff.mpr hs), fun h s hs => h s (pC.mem_iff.mp hs)⟩
def triOf (r : Bkg) : Tri := (r.start, r.stop, r.weeks)
abbrev s_gaps : Stmt := top 11
theorem sc_gaps : FnScope ["rows", "room", "start", "stop"] ["rows", "room", "start", "stop"] (defScope s_gaps) := ⟨rfl, rfl, rfl, by decide +kernel, rfl, by decide +kernel, by decide +kernel⟩
theorem ok_gaps {f : Addr} {fd : FuncData} (F : Fun K "gaps" "gaps" s_gaps f fd) (T : Txt mg) (G_span_of : Fn P w K mg base 1 "span_of" ["row"] spSpanOf) (G_free_runs : Fn P w K mg base 3 "free_runs" ["spans", "start", "stop"] spRuns) : FnOk P w K mg base CX0 9 f fd ["rows", "room", "start", "stop"] spGaps := by
  refine F.ok sc_gaps (fun vs H Q E h => ?_) (fun cdv A outer s H vs Q E hr h => ?_)
  · obtain ⟨_, _, _, _, _, _, rfl, _⟩ := h
    rfl
  · obtain ⟨a, rs, rows, room, beg, fin, rfl, la, ta, ok, nc, len, ⟨b1, b2, b3, b4⟩, k⟩ := h
    have rl : rs.length = rows.length := by rw [ta.len, List.length_map]
    refine ⟨_, pss_cons (ps_if (pt_cmpR op_le (pv 3) (pv 2) (nomark _))
          (pss_one (ps_ret (pe_lst pa_nil)))
          (pss_nil))
      (pss_one (ps_ret (pe_fn G_free_runs hr (pa_cons (pe_comp rfl (fv := ["room"]) (js := [1]) ⟨rfl, rfl, by decide +kernel, by decide +kernel, rfl, ⟨⟨rfl, rfl, Or.inl rfl, rfl⟩, trivial⟩, ⟨rfl, trivial⟩, rfl, by decide +kernel⟩ (pi_list (pv 0)) (fun _ _ _ _ => .inr ⟨_, rfl, (pt_cmpR op_eq (pe_ix (ix_tupK (K := K)) (pv 0) pe_int (fun _ _ => rfl)) (pv 1) (nomark _))⟩) (fun _ _ _ _ => (pe_fn G_span_of hr (pa_cons (pv 0) pa_nil)))) (pa_cons (pv 2) (pa_cons (pv 3) pa_nil)))))), ?_⟩
    refine ⟨_, rfl, _, rfl, _, _, rfl, rfl, _, rfl, ?_⟩
    by_cases z : fin ≤ beg
    · rw [decide_eq_true z]
      refine iteT ⟨Nat.zero_le _, fun p hp => ?_⟩
      exact k p [] [] _ (Same.new hp) upd_same .nil ⟨trivial, fun h h1 h2 => by omega⟩
    rw [decide_eq_false z]
    refine iteF ?_
    refine ⟨_, rfl, a, rfl, ⟨_, SqL.of la⟩, fun p1 hp1 => ?_⟩
    refine comp_gen (n := rs.length) (by omega) (fun i ys H' => Same H H' ∧ H' p1 = some (.lst ys) ∧ TupsAt H' ys ((((rows.take i).filter fun r => decide (r.room = room)).map triOf).map triVs)) (fun i x => rs[i]? = some x) ⟨Same.new hp1, upd_same, .nil⟩ (fun ys H' h => ⟨_, SqL.of (h.1 _ _ la), Nat.le_refl _⟩) (fun i ys H' hi h => ⟨⟨_, _, SqL.of (h.1 _ _ la), List.getElem?_eq_getElem hi⟩, fun x H'' hy => ⟨hy.1, hy.2 _ (SqL.of (h.1 _ _ la))⟩⟩) (fun i ys H' h => by rw [h.2.2.len, List.length_map, List.length_map]; exact Nat.le_trans (List.length_filter_le _ _) (by rw [List.length_take]; omega)) ?_ ?_
    · rintro i ys H' x hi ⟨sm, lp, tp⟩ hx N0 N1 hN0 hN1
      obtain ⟨ac, vs, rfl, hct, ht⟩ := (ta.same sm).get hx
      rw [List.getElem?_map] at ht
      cases er : rows[i]? with
      | none => rw [er] at ht; cases ht
      | some r =>
        rw [er] at ht
        cases ht
        have tk : rows.take (i + 1) = rows.take i ++ [r] := by rw [List.take_add_one, er]; rfl
        refine ⟨_, rfl, _, _, _, _, rfl, rfl, SqT.of hct, rfl, _, rfl, rfl, _, rfl, ?_⟩
        by_cases c : r.room = room
        · rw [decide_eq_true (congrArg V.int c)]
          refine iteT ⟨_, rfl, ac, r, rfl, hct, fun q hq => ?_⟩
          have n2 := Same.new (o := .tup (triVs (triOf r))) hq
          have np : q ≠ p1 := fun e => by rw [e, lp] at hq; cases hq
          refine hN1 _ _ (n2 _ _ lp) ⟨(sm.trans n2).put hp1, upd_same, ?_⟩
          rw [tk, List.filter_append, List.map_append, List.map_append]
          rw [show [r].filter (fun r => decide (r.room = room)) = [r] by simp [c]]
          exact (TupsAt.over (n2 _ _ lp) (tp.same n2)).append (.cons ⟨q, rfl, by rw [upd_ne np]; exact upd_same⟩ .nil)
        · rw [decide_eq_false (fun w => c (V.int.inj w))]
          refine iteF (hN0 _ ⟨sm, lp, ?_⟩)
          rw [tk, List.filter_append]
          rw [show [r].filter (fun r => decide (r.room = room)) = [] by simp [c], List.append_nil]
          exact tp
    rintro ys H1 ⟨s1, lp, tp⟩
    rw [rl, List.take_length] at tp
    have mem : ∀ t, t ∈ (rows.filter fun r => decide (r.room = room)).map triOf ↔ ∃ r ∈ rows, r.room = room ∧ triOf r = t := fun t => by
      rw [List.mem_map]
      constructor
      · rintro ⟨r, hr, e⟩
        obtain ⟨h1, h2⟩ := List.mem_filter.mp hr
        exact ⟨r, h1, of_decide_eq_true h2, e⟩
      · rintro ⟨r, h1, h2, e⟩
        exact ⟨r, List.mem_filter.mpr ⟨h1, decide_eq_true h2⟩, e⟩
    have sl : ((rows.filter fun r => decide (r.room = room)).map triOf).length ≤ 1000 := by
      rw [List.length_map]
      exact Nat.le_trans (List.length_filter_le _ _) len
    refine ⟨_, rfl, _, rfl, p1, beg, fin, ys, _, rfl, lp, tp, fun t ht => ?_, sl, ⟨by omega, by omega, by omega, by omega⟩, fun p gs R H2 hp s2 l2 t2 up => ?_⟩
    · obtain ⟨r, hr, _, rfl⟩ := (mem t).mp ht
      have := (ok r hr).1
      unfold noSpan at this
      simp only [Bool.or_eq_false_iff, decide_eq_false_iff_not] at this
      obtain ⟨q1, q2, q3, q4⟩ := this
      unfold SpanOk triOf
      simp only
      omega
    · refine k p gs R H2 (s1.trans s2) l2 t2 ⟨up.1, fun h h1 h2 => ?_⟩
      have := up.2 h h1 h2
      unfold Cov at this
      rw [this]
      unfold FreeOf busy
      constructor
      · rintro hf ⟨r, hr, e, hh⟩
        exact hf (triOf r) ((mem _).mpr ⟨r, hr, e, rfl⟩) hh
      · intro hn t ht hh
        obtain ⟨r, hr, e, rfl⟩ := (mem t).mp ht
        exact hn ⟨r, hr, e, hh⟩
def spLaw (K : PySem.W.Frag) : Sp := fun vs H Q _ => ∃ (a : Addr) (ns : List Int), vs = [.ref a] ∧ SqL K H a (ns.map V.int) ∧ ns.length ≤ 63 ∧ ∀ H', Q (.bl true) H'
abbrev s_law : Stmt := top 20
theorem sc_law : FnScope ["_law_script", "_law_mine", "_law_deed", "_law_room", "_law_start", "_law_stop", "_law_found", "_law_free", "_law_last", "_law_pair", "_law_hour", "_law_held", "_law_row"] ["_law_script"] (defScope s_law) := ⟨rfl, rfl, rfl, by decide +kernel, rfl, by decide +kernel, by decide +kernel⟩
theorem ok_law {f : Addr} {fd : FuncData} (F : Fun K "law" "law" s_law f fd) (T : Txt mg) (G__law_at : Fn P w K mg base 1 "_law_at" ["_law_script", "_law_k"] (spAt K)) (G__law_upto : Fn P w K mg base 1 "_law_upto" ["_law_script", "_law_small", "_law_great"] (spUpto K)) (G__law_deeds : Fn P w K mg base 1 "_law_deeds" ["_law_cells", "_law_seed"] (spDeeds K))
    (G__law_whole : Fn P w K mg base 1 "_law_whole" ["_law_found"] spWhole) (G__law_all_hours : Fn P w K mg base 1 "_law_all_hours" ["_law_start", "_law_stop", "_law_weeks"] spAll) (G__law_judged : Fn P w K mg base 2 "_law_judged" ["_law_rows", "_law_deed"] spJudged) (G_gaps : Fn P w K mg base 9 "gaps" ["rows", "room", "start", "stop"] spGaps) : FnOk P w K mg base CX0 10 f fd ["_law_script"] (spLaw K) := by
  refine F.ok sc_law (fun vs H Q E h => ?_) (fun cdv A outer s H vs Q E hr h => ?_)
  · obtain ⟨_, _, rfl, _⟩ := h
    rfl
  · obtain ⟨a0, ns, rfl, hS, hlen, k⟩ := h
    have hu := hu_of hr
    refine ⟨_, pss_cons (ps_set (i := 0) sc_law.nd rfl (Or.inl rfl) (pe_slice sl_list (pv 0) po_none (po_some pe_int)))
      (pss_cons (ps_set (i := 1) sc_law.nd rfl (Or.inl rfl) (pe_lst pa_nil))
      (pss_cons (ps_for PassesOwn.never rfl (pi_list (pe_fn G__law_deeds hr (pa_cons (pe_slice sl_list (pv 0) (po_some pe_int) (po_some (pe_fn G__law_upto hr (pa_cons (pv 0) (pa_cons pe_int (pa_cons pe_int pa_nil)))))) (pa_cons (pe_fn G__law_at hr (pa_cons (pv 0) (pa_cons pe_int pa_nil))) pa_nil)))) (pg_name (i := 2) sc_law.nd rfl (Or.inl rfl))
          (pss_one (ps_set (i := 1) sc_law.nd rfl (Or.inl rfl) (pe_ix ix_tup (pe_fn G__law_judged hr (pa_cons (pv 1) (pa_cons (pv 2) pa_nil))) pe_int (fun _ _ => rfl)))))
      (pss_cons (ps_set (i := 3) sc_law.nd rfl (Or.inl rfl) (pe_op op_mod (pe_fn G__law_at hr (pa_cons (pv 0) (pa_cons pe_int pa_nil))) pe_int))
      (pss_cons (ps_if (pw_and (pt_cmpR (op_neE (Nat.lt_of_succ_lt hu)) (pv 1) (pe_lst pa_nil) (nomark _)) (pw_and1 (pt_cmpR op_eq (pe_op op_mod (pe_fn G__law_at hr (pa_cons (pv 0) (pa_cons pe_int pa_nil))) pe_int) pe_int (nomark _)))).pt
          (pss_one (ps_set (i := 3) sc_law.nd rfl (Or.inl rfl) (pe_ix ix_tup (pe_ix ix_list (pv 1) (pe_op op_mod (pe_op op_fdiv (pe_fn G__law_at hr (pa_cons (pv 0) (pa_cons pe_int pa_nil))) pe_int) (pe_callB call_len_seq (by rfl) T.z_len PySem.boot_len (pa_cons (pv 1) pa_nil))) (fun _ _ => rfl)) pe_int (fun _ _ => rfl))))
          (pss_nil))
      (pss_cons (ps_set (i := 4) sc_law.nd rfl (Or.inl rfl) (pe_op op_sub (pe_op op_add (pe_op op_mod (pe_op op_fdiv (pe_fn G__law_at hr (pa_cons (pv 0) (pa_cons pe_int pa_nil))) pe_int) pe_int) (pe_op op_mul pe_int (pe_op op_mod (pe_fn G__law_at hr (pa_cons (pv 0) (pa_cons pe_int pa_nil))) pe_int))) pe_int))
      (pss_cons (ps_set (i := 5) sc_law.nd rfl (Or.inl rfl) (pe_op op_add (pv 4) (pe_op op_mod (pe_fn G__law_at hr (pa_cons (pv 0) (pa_cons pe_int pa_nil))) pe_int)))
      (pss_cons (ps_if (pt_cmpR op_eq (pe_op op_mod (pe_fn G__law_at hr (pa_cons (pv 0) (pa_cons pe_int pa_nil))) pe_int) pe_int (nomark _))
          (pss_one (ps_set (i := 5) sc_law.nd rfl (Or.inl rfl) (pe_op op_sub (pv 4) (pe_op op_mod (pe_fn G__law_at hr (pa_cons (pv 0) (pa_cons pe_int pa_nil))) pe_int))))
          (pss_nil))
      (pss_cons (ps_set (i := 6) sc_law.nd rfl (Or.inl rfl) (pe_fn G_gaps hr (pa_cons (pe_callTy call_list_of (by rfl) T.z_list bt_list (pa_cons (pv 1) pa_nil)) (pa_cons (pv 3) (pa_cons (pv 4) (pa_cons (pv 5) pa_nil))))))
      (pss_cons (ps_if (pt_not (pt_val (pe_callB call_isin (by rfl) T.z_isinstance boot_isinstance (pa_cons (pv 6) (pa_cons (pe_gty T.z_list bt_list) pa_nil)))))
          (pss_one (ps_ret pe_bl))
          (pss_nil))
      (pss_cons (ps_set (i := 7) sc_law.nd rfl (Or.inl rfl) pe_dnewK)
      (pss_cons (ps_set (i := 8) sc_law.nd rfl (Or.inl rfl) (pe_op op_sub (pv 4) pe_int))
      (pss_cons (ps_for PassesOwn.never rfl (pi_list (pv 6)) (pg_name (i := 9) sc_law.nd rfl (Or.inl rfl))
          (pss_cons (ps_if (pw_or (pt_not (pt_val (pe_callB call_isin (by rfl) T.z_isinstance boot_isinstance (pa_cons (pv 9) (pa_cons (pe_gty T.z_tuple bt_tuple) pa_nil))))) (pw_or1 (pt_cmpR op_ne (pe_callB call_len_seq (by rfl) T.z_len PySem.boot_len (pa_cons (pv 9) pa_nil)) pe_int (nomark _)))).pt
            (pss_one (ps_ret pe_bl))
            (pss_nil))
          (pss_cons (ps_if (pw_or (pt_not (pt_val (pe_fn G__law_whole hr (pa_cons (pe_ix ix_tup (pv 9) pe_int (fun _ _ => rfl)) pa_nil)))) (pw_or1 (pt_not (pt_val (pe_fn G__law_whole hr (pa_cons (pe_ix ix_tup (pv 9) pe_int (fun _ _ => rfl)) pa_nil)))))).pt
            (pss_one (ps_ret pe_bl))
            (pss_nil))
          (pss_cons (ps_if (pw_or (pt_cmpR op_le (pe_ix ix_tup (pv 9) pe_int (fun _ _ => rfl)) (pv 8) (nomark _)) (pw_or (pt_cmpR op_le (pe_ix ix_tup (pv 9) pe_int (fun _ _ => rfl)) (pe_ix ix_tup (pv 9) pe_int (fun _ _ => rfl)) (nomark _)) (pw_or1 (pt_cmpR op_gt (pe_ix ix_tup (pv 9) pe_int (fun _ _ => rfl)) (pv 5) (nomark _))))).pt
            (pss_one (ps_ret pe_bl))
            (pss_nil))
          (pss_cons (ps_set (i := 8) sc_law.nd rfl (Or.inl rfl) (pe_ix ix_tup (pv 9) pe_int (fun _ _ => rfl)))
          (pss_one (ps_for PassesOwn.never rfl (pi_range2 rfl T.z_range (pa_cons (pe_ix ix_tup (pv 9) pe_int (fun _ _ => rfl)) (pa_cons (pe_ix ix_tup (pv 9) pe_int (fun _ _ => rfl)) pa_nil))) (pg_name (i := 10) sc_law.nd rfl (Or.inl rfl))
            (pss_one (ps_dput hu (pv 7) (pv 10) pe_bl rfl)))))))))
      (pss_cons (ps_set (i := 11) sc_law.nd rfl (Or.inl rfl) pe_dnewK)
      (pss_cons (ps_for PassesOwn.never rfl (pi_list (pv 1)) (pg_name (i := 12) sc_law.nd rfl (Or.inl rfl))
          (pss_one (ps_if (pt_cmpR op_eq (pe_ix ix_tup (pv 12) pe_int (fun _ _ => rfl)) (pv 3) (nomark _))
            (pss_one (ps_for PassesOwn.never rfl (pi_list (pe_fn G__law_all_hours hr (pa_cons (pe_ix ix_tup (pv 12) pe_int (fun _ _ => rfl)) (pa_cons (pe_ix ix_tup (pv 12) pe_int (fun _ _ => rfl)) (pa_cons (pe_ix ix_tup (pv 12) pe_int (fun _ _ => rfl)) pa_nil))))) (pg_name (i := 10) sc_law.nd rfl (Or.inl rfl))
              (pss_one (ps_dput hu (pv 11) (pv 10) pe_bl rfl))))
            (pss_nil))))
      (pss_cons (ps_for PassesOwn.never rfl (pi_range2 rfl T.z_range (pa_cons (pv 4) (pa_cons (pv 5) pa_nil))) (pg_name (i := 10) sc_law.nd rfl (Or.inl rfl))
          (pss_one (ps_if (pt_cmpR op_eq (pe_cmp (pc_din hu (pv 10) (pv 7))) (pe_cmp (pc_din hu (pv 10) (pv 11))) (nomark _))
            (pss_one (ps_ret pe_bl))
            (pss_nil))))
      (pss_one (ps_ret pe_bl))))))))))))))))), ?_⟩
    -- script = script[:1000]
    refine ⟨_, rfl, _, rfl, a0, _, rfl, hS, fun p0 hp0 => ?_⟩
    rw [cut_1000 (by rw [List.length_map]; omega)]
    refine set_go ?_
    dsimp only
    have l0 : SqL K (upd H p0 (.lst (ns.map V.int))) p0 (ns.map V.int) := SqL.of upd_same
    generalize upd H p0 (.lst (ns.map V.int)) = H0 at l0
    -- mine
    refine ⟨Nat.zero_le _, fun pm0 hpm0 => set_go ?_⟩
    dsimp only
    have l1 := (Same.new (o := .lst []) hpm0).seq l0
    have lm1 : upd H0 pm0 (.lst []) pm0 = some (.lst []) := upd_same
    generalize upd H0 pm0 (.lst []) = H1 at l1 lm1
    refine ⟨_, rfl, _, rfl, _, rfl, p0, ns, _, _, rfl, l1, hlen, _, rfl, p0, _, rfl, l1, fun p1 hp1 => ?_⟩
    obtain ⟨ms, e1, hms⟩ := cut_some ns (some 2) (some 27)
    rw [e1]
    have s1 : Same H1 (upd H1 p1 (.lst (ms.map V.int))) := Same.new hp1
    refine ⟨_, rfl, p0, ns, 0, rfl, s1.seq l1, p1, ms, _, rfl, SqL.of upd_same, by omega, fun pa rs ds H2 hpa s2 la ta dok hd2 => ?_⟩
    have hdl : ds.length ≤ 126 := by omega
    have rl : rs.length = ds.length := by rw [ta.len, List.length_map]
    have l2 := (s1.trans s2).seq l1
    have lm2 := (s1.trans s2) _ _ lm1
    clear s1 s2 e1 l1 lm1
    have nil_ok : RowsOk [] := fun r hr => by cases hr
    refine ⟨pa, rfl, ⟨_, SqL.of la⟩, for_list (K := K) (a := pa) (xs := rs) (fun i σ H' => ∃ (pm : Addr) (rm : List V) (x2 : Option V), σ = [some (.ref p0), some (.ref pm), x2, none, none, none, none, none, none, none, none, none, none] ∧ Same H2 H' ∧ H' pm = some (.lst rm) ∧ TupsAt H' rm ((run [] (ds.take i)).2.map Bkg.vs))
      ⟨pm0, [], _, rfl, Same.refl _, lm2, .nil⟩ (fun i σ H' _ h => ?_) ?_ ?_⟩
    · obtain ⟨_, _, _, _, h, _⟩ := h
      exact SqL.of (h _ _ la)
    · rintro i x σ H3 hx ⟨pm, rm, x2, rfl, s3, lm, tm⟩
      have hi : i < rs.length := (List.getElem?_eq_some_iff.mp hx).1
      obtain ⟨d, hd⟩ : ∃ d, ds[i]? = some d := ⟨_, List.getElem?_eq_getElem (by omega)⟩
      obtain ⟨q, hq, hqt⟩ := deed_at ta hd
      rw [hx] at hq
      cases hq
      have hrun := run_at (rows := []) (by omega) d hd
      refine set_go ?_
      dsimp only
      refine ⟨_, rfl, _, rfl, pm, q, rm, (run [] (ds.take i)).2, d, rfl, lm, tm, s3 _ _ hqt, run_ok nil_ok fun x hx => dok x (List.mem_of_mem_take hx), dok d (List.mem_of_getElem? hd), ?_, fun pt q' rm' H11 s11 et eq tq => ?_⟩
      · have := run_rows (ds := ds.take i) (rows := [])
        rw [List.length_take, List.length_nil] at this
        omega
      refine ⟨_, _, _, _, rfl, rfl, SqT.of et, rfl, set_go ?_⟩
      exact ⟨q', rm', _, rfl, s3.trans s11, eq, by rw [hrun.2]; exact tq⟩
    rintro σ H3 ⟨pm, rm, x2, rfl, s3, lm, tm⟩
    rw [List.take_of_length_le (by omega)] at tm
    have ok := run_ok nil_ok dok
    have ncl := run_clash (ds := ds) (rows := []) List.Pairwise.nil
    have len := run_rows (ds := ds) (rows := [])
    rw [List.length_nil] at len
    have l3 := s3.seq l2
    generalize (run [] ds).2 = rows at tm ok ncl len
    have ml : rm.length = rows.length := by rw [tm.len, List.length_map]
    clear s3 l2 lm2 la ta hd2
    -- room
    refine ⟨_, rfl, p0, ns, 0, rfl, l3, _, _, rfl, rfl, (by show (0 : Int) < 4; decide), set_go ?_⟩
    dsimp only
    refine seq_at (fun σ H' => Same H3 H' ∧ ∃ room : Int, σ = [some (.ref p0), some (.ref pm), x2, some (.int room), none, none, none, none, none, none, none, none, none]) (fun M hM => ?_) ?_
    · refine ⟨_, rfl, Nat.zero_le _, fun pe hpe => ⟨pm, pe, rm, rfl, rfl, SqL.of ((Same.new hpe) _ _ lm), SqL.of upd_same, _, rfl, ?_⟩⟩
      have n1 := Same.new (o := .lst []) hpe
      cases hrm : rm with
      | nil => exact iteF (iteF (hM _ _ ⟨n1, _, rfl⟩))
      | cons v0 vs0 =>
        refine iteT ⟨_, rfl, p0, ns, 1, rfl, n1.seq l3, _, _, rfl, rfl, (by show (0 : Int) < 3; decide), rfl, _, rfl, ite2 (fun _ => ?_) (fun _ => hM _ _ ⟨n1, _, rfl⟩)⟩
        have hpos : 0 < rm.length := by rw [hrm, List.length_cons]; omega
        obtain ⟨v, hv⟩ : ∃ v, atI rm (ns.getD 1 0 / 3 % (rm.length : Int)) = some v ∧ ∃ i : Nat, rm[i]? = some v := by
          have h1 := Int.emod_nonneg (ns.getD 1 0 / 3) (show (rm.length : Int) ≠ 0 by omega)
          have h2 := Int.emod_lt_of_pos (ns.getD 1 0 / 3) (show 0 < (rm.length : Int) by omega)
          generalize ns.getD 1 0 / 3 % (rm.length : Int) = jj at h1 h2
          have hj : jj.toNat < rm.length := by omega
          refine ⟨rm[jj.toNat], ?_, jj.toNat, List.getElem?_eq_getElem hj⟩
          have := atI_nat (List.getElem?_eq_getElem hj)
          rw [show ((jj.toNat : Nat) : Int) = jj by omega] at this
          exact this
        obtain ⟨hv, i, hvi⟩ := hv
        obtain ⟨b, r, rfl, hb, hri⟩ := row_at tm hvi
        refine ⟨_, rfl, _, rfl, p0, ns, 1, rfl, n1.seq l3, _, _, rfl, rfl, ⟨by decide, by decide⟩, _, rfl, pm, _, rfl, .inl (SqL.of (n1 _ _ lm)), _, _, rfl, rfl, (by show (0 : Int) < (rm.length : Int); omega), _, _, _, _, rfl, rfl, SqL.of (n1 _ _ lm), hv, _, _, _, _, rfl, rfl, SqT.of (n1 _ _ hb), rfl, set_go ?_⟩
        exact hM _ _ ⟨n1, _, rfl⟩
    rintro σ H4 ⟨s4, room, rfl⟩
    have l4 := s4.seq l3
    have lm4 := s4 _ _ lm
    have tm4 := tm.same s4
    -- start, stop
    refine seq_at (fun σ H' => H4 = H' ∧ ∃ beg : Int, σ = [some (.ref p0), some (.ref pm), x2, some (.int room), some (.int beg), none, none, none, none, none, none, none, none] ∧ -20 ≤ beg ∧ beg ≤ 600) (fun M hM => ?_) ?_
    · refine ⟨_, rfl, p0, ns, 0, rfl, l4, _, _, rfl, rfl, ⟨by decide, by decide⟩, _, _, rfl, rfl, (by show (0 : Int) < 60; decide), _, rfl, p0, ns, 6, rfl, l4, _, _, rfl, rfl, (by show (0 : Int) < 4; decide), _, _, rfl, rfl, .inl ⟨by decide, by decide⟩, _, _, rfl, rfl, _, _, rfl, rfl, set_go ?_⟩
      exact hM _ _ ⟨rfl, _, rfl, by omega, by omega⟩
    rintro σ H' ⟨rfl, beg, rfl, hb1, hb2⟩
    refine seq_at (fun σ H' => H4 = H' ∧ ∃ fin : Int, σ = [some (.ref p0), some (.ref pm), x2, some (.int room), some (.int beg), some (.int fin), none, none, none, none, none, none, none] ∧ fin ≤ beg + 60 ∧ beg ≤ fin + 3) (fun M hM => ?_) ?_
    · refine ⟨_, rfl, _, rfl, p0, ns, 1, rfl, l4, _, _, rfl, rfl, (by show (0 : Int) < 60; decide), _, _, rfl, rfl, set_go ?_⟩
      exact hM _ _ ⟨rfl, _, rfl, by omega, by omega⟩
    rintro σ H' ⟨rfl, fin0, rfl, hf1, hf2⟩
    refine seq_at (fun σ H' => H4 = H' ∧ ∃ fin : Int, σ = [some (.ref p0), some (.ref pm), x2, some (.int room), some (.int beg), some (.int fin), none, none, none, none, none, none, none] ∧ fin ≤ beg + 60 ∧ beg ≤ fin + 3) (fun M hM => ?_) ?_
    · refine ⟨_, rfl, p0, ns, 7, rfl, l4, _, _, rfl, rfl, (by show (0 : Int) < 7; decide), rfl, _, rfl, ite2 (fun _ => ?_) (fun _ => hM _ _ ⟨rfl, _, rfl, hf1, hf2⟩)⟩
      refine ⟨_, rfl, _, rfl, p0, ns, 1, rfl, l4, _, _, rfl, rfl, (by show (0 : Int) < 3; decide), _, _, rfl, rfl, set_go ?_⟩
      exact hM _ _ ⟨rfl, _, rfl, by omega, by omega⟩
    rintro σ H' ⟨rfl, fin, rfl, hf1', hf2'⟩
    -- found
    refine ⟨_, rfl, pm, rm, rfl, .inl (SqL.of lm4), fun pc hpc => ?_⟩
    have n5 := Same.new (o := .lst rm) hpc
    refine ⟨_, rfl, _, rfl, _, rfl, pc, rm, rows, room, beg, fin, rfl, upd_same, tm4.same n5, ok, ncl, by omega, ⟨by omega, by omega, by omega, by omega⟩, fun pf gs ps H6 s6 lf tf gok => set_go ?_⟩
    dsimp only
    have s46 := n5.trans s6
    have lm6 := s46 _ _ lm4
    have tm6 := tm4.same s46
    have gl : gs.length = ps.length := by rw [tf.len, List.length_map]
    refine ⟨_, rfl, _, _, _, _, rfl, TyOf.lst lf, kit_self, _, rfl, iteF ?_⟩
    -- free
    refine fun df hdf => set_go ?_
    dsimp only
    refine ⟨_, rfl, _, _, rfl, rfl, set_go ?_⟩
    dsimp only
    have n7 := Same.new (o := .dK []) hdf
    refine ⟨_, rfl, pf, rfl, ⟨_, SqL.of (n7 _ _ lf)⟩, for_list (K := K) (a := pf) (xs := gs) (fun i σ H' => ∃ (k1 : List (Key × V)) (x9 x10 : Option V), σ = [some (.ref p0), some (.ref pm), x2, some (.int room), some (.int beg), some (.int fin), some (.ref pf), some (.ref df), some (.int (lastOf beg (ps.take i))), x9, x10, none, none] ∧ Same H6 H' ∧ H' df = some (.dK k1) ∧ KeysAre k1 (openOf (ps.take i)) ∧ beg - 1 ≤ lastOf beg (ps.take i) ∧ (k1.length : Int) ≤ lastOf beg (ps.take i) - beg + 1)
      ⟨[], _, _, rfl, n7, upd_same, KeysAre.nil, by rw [List.take_zero, lastOf_nil]; omega, by rw [List.take_zero, lastOf_nil]; show (0 : Int) ≤ _; omega⟩ (fun i σ H' _ h => ?_) ?_ ?_⟩
    · obtain ⟨_, _, _, _, h, _⟩ := h
      exact SqL.of (h _ _ lf)
    · rintro i x σ H7 hx ⟨k1, x9, x10, rfl, s7, ed, kk, z1, z2⟩
      obtain ⟨b, p, rfl, hb, hpi⟩ := pair_at tf hx
      have hb7 := s7 _ _ hb
      have hch := gok.1
      rw [pair_split hpi] at hch
      obtain ⟨c1, c2, c3⟩ := chain_at (start := beg) hch
      have c1' : lastOf beg (ps.take i) < p.1 := c1
      have tk : ps.take (i + 1) = ps.take i ++ [p] := by rw [List.take_add_one, hpi]; rfl
      generalize hlast : lastOf beg (ps.take i) = last at *
      refine set_go ?_
      dsimp only
      refine ⟨_, rfl, _, _, _, _, rfl, TyOf.tup hb7, kit_self, _, rfl, iteF ⟨_, rfl, _, _, rfl, .inr (SqT.of hb7), rfl, _, rfl, iteNS rfl ?_⟩⟩
      refine ⟨_, rfl, _, _, _, _, rfl, rfl, SqT.of hb7, rfl, p.1, rfl, _, rfl, iteF ⟨_, rfl, _, _, _, _, rfl, rfl, SqT.of hb7, rfl, p.2, rfl, _, rfl, iteF ?_⟩⟩
      refine ⟨_, rfl, _, _, _, _, rfl, rfl, SqT.of hb7, rfl, _, rfl, _, _, rfl, rfl, _, rfl, ?_⟩
      rw [decide_eq_false (by omega)]
      refine iteF ⟨_, rfl, _, _, _, _, rfl, rfl, SqT.of hb7, rfl, _, rfl, _, _, _, _, rfl, rfl, SqT.of hb7, rfl, _, _, rfl, rfl, _, rfl, ?_⟩
      rw [decide_eq_false (by omega)]
      refine iteF ⟨_, rfl, _, _, _, _, rfl, rfl, SqT.of hb7, rfl, _, rfl, _, _, rfl, rfl, _, rfl, ?_⟩
      rw [decide_eq_false (by omega)]
      refine iteF ?_
      refine ⟨_, rfl, _, _, _, _, rfl, rfl, SqT.of hb7, rfl, set_go ?_⟩
      dsimp only
      refine ⟨_, rfl, _, _, _, _, rfl, rfl, SqT.of hb7, rfl, _, rfl, _, _, _, _, rfl, rfl, SqT.of hb7, rfl, p.1, p.2, rfl, ⟨by omega, by omega, by omega, by omega⟩, for_range (lo := p.1) (n := (p.2 - p.1).toNat) (fun j σ H' => ∃ (k1 : List (Key × V)) (x10 : Option V), σ = [some (.ref p0), some (.ref pm), x2, some (.int room), some (.int beg), some (.int fin), some (.ref pf), some (.ref df), some (.int p.2), some (.ref b), x10, none, none] ∧ Same H6 H' ∧ H' df = some (.dK k1) ∧ KeysAre k1 (openOf (ps.take i) ++ (rng p).take j) ∧ (k1.length : Int) ≤ last - beg + 1 + j)
        ⟨k1, _, rfl, s7, ed, by rw [List.take_zero, List.append_nil]; exact kk, by omega⟩ ?_ ?_⟩
      · rintro j σ H8 hj ⟨k3, x10, rfl, s8, ed3, kk3, z3⟩
        refine set_go ?_
        dsimp only
        refine ⟨_, rfl, _, rfl, df, _, rfl, DPut.k (k := Sum.inl (p.1 + (j : Int))) ed3 (small_of (by omega)), ?_⟩
        refine ⟨_, _, rfl, s8.put hdf, upd_same, ?_, ?_⟩
        · rw [rng_take hj, ← List.append_assoc]; exact kk3.put _ _
        · have := putK_len k3 (Sum.inl (p.1 + (j : Int))) (.bl true)
          omega
      · rintro σ H8 ⟨k3, x10, rfl, s8, ed3, kk3, z3⟩
        rw [← rng_len, List.take_length] at kk3
        refine ⟨k3, _, _, by rw [tk, lastOf_snoc], s8, ed3, ?_, ?_, ?_⟩
        · rw [tk, openOf, List.flatMap_append]
          simpa [openOf] using kk3
        · rw [tk, lastOf_snoc]; omega
        · rw [tk, lastOf_snoc]; omega
    rintro σ H7 ⟨k1, x9, x10, rfl, s7, ed, kk, _, _⟩
    rw [List.take_of_length_le (by omega)] at kk
    generalize lastOf beg (ps.take gs.length) = last
    have lm7 := s7 _ _ lm6
    have tm7 := tm6.same s7
    -- held
    refine fun dh hdh => set_go ?_
    dsimp only
    have n8 := Same.new (o := .dK []) hdh
    refine ⟨_, rfl, pm, rfl, ⟨_, SqL.of (n8 _ _ lm7)⟩, for_list (K := K) (a := pm) (xs := rm) (fun i σ H' => ∃ (k2 : List (Key × V)) (x10 x12 : Option V), σ = [some (.ref p0), some (.ref pm), x2, some (.int room), some (.int beg), some (.int fin), some (.ref pf), some (.ref df), some (.int last), x9, x10, some (.ref dh), x12] ∧ Same H7 H' ∧ H' dh = some (.dK k2) ∧ KeysAre k2 (hoursIn room (rows.take i)) ∧ k2.length ≤ i * 16800)
      ⟨[], _, _, rfl, n8, upd_same, KeysAre.nil, Nat.zero_le _⟩ (fun i σ H' _ h => ?_) ?_ ?_⟩
    · obtain ⟨_, _, _, _, h, _⟩ := h
      exact SqL.of (h _ _ lm7)
    · rintro i x σ H8 hx ⟨k2, x10', x12, rfl, s8, ed2, kk2, z2⟩
      have hi : i < rm.length := (List.getElem?_eq_some_iff.mp hx).1
      obtain ⟨b, r, rfl, hb, hri⟩ := row_at tm7 hx
      have hok := ok r (List.mem_of_getElem? hri)
      have hb8 := s8 _ _ hb
      obtain ⟨w1, w2, w3⟩ := hok.bd
      have tk : rows.take (i + 1) = rows.take i ++ [r] := by rw [List.take_add_one, hri]; rfl
      refine set_go ?_
      dsimp only
      refine ⟨_, rfl, _, _, _, _, rfl, rfl, SqT.of hb8, rfl, _, rfl, rfl, _, rfl, ite2 (fun c => ?_) (fun c => ?_)⟩
      · have hroom : r.room = room := V.int.inj (of_decide_eq_true c)
        refine ⟨_, rfl, _, _, _, _, rfl, rfl, SqT.of hb8, rfl, _, rfl, _, _, _, _, rfl, rfl, SqT.of hb8, rfl, _, rfl, _, _, _, _, rfl, rfl, SqT.of hb8, rfl, r.start, r.stop, r.weeks, rfl, w1, w2, by omega, fun p8 H9 hp8 s9 l9 => ?_⟩
        refine ⟨p8, rfl, ⟨_, SqL.of l9⟩, for_list (K := K) (a := p8) (xs := r.hours.map V.int) (fun j σ H' => ∃ (k2 : List (Key × V)) (x10 : Option V), σ = [some (.ref p0), some (.ref pm), x2, some (.int room), some (.int beg), some (.int fin), some (.ref pf), some (.ref df), some (.int last), x9, x10, some (.ref dh), some (.ref b)] ∧ Same H7 H' ∧ H' p8 = some (.lst (r.hours.map V.int)) ∧ H' dh = some (.dK k2) ∧ KeysAre k2 (hoursIn room (rows.take i) ++ r.hours.take j) ∧ k2.length ≤ i * 16800 + j)
          ⟨k2, _, rfl, s8.trans s9, l9, s9 _ _ ed2, by rw [List.take_zero, List.append_nil]; exact kk2, by omega⟩ (fun j σ H' _ h => ?_) ?_ ?_⟩
        · obtain ⟨_, _, _, _, h, _⟩ := h
          exact SqL.of h
        · rintro j y σ H10 hy ⟨k3, x10'', rfl, s10, f8, ed3, kk3, z3⟩
          obtain ⟨h, rfl, hj, _, hjl⟩ := get_ints hy
          have hhl := len_hours hok
          refine set_go ?_
          dsimp only
          have ne8 : p8 ≠ dh := fun e => by rw [e, ed3] at f8; cases f8
          refine ⟨_, rfl, _, rfl, dh, _, rfl, DPut.k (k := Sum.inl h) ed3 (Nat.lt_of_lt_of_le (show k3.length < 200 * 16800 by omega) (by decide)), ?_⟩
          refine ⟨_, _, rfl, s10.put hdh, by rw [upd_ne ne8]; exact f8, upd_same, ?_, ?_⟩
          · rw [hj, ← List.append_assoc]; exact kk3.put _ _
          · have := putK_len k3 (Sum.inl h) (.bl true)
            omega
        · rintro σ H10 ⟨k3, x10'', rfl, s10, f8, ed3, kk3, z3⟩
          refine ⟨k3, _, _, rfl, s10, ed3, ?_, ?_⟩
          · rw [List.length_map, List.take_length] at kk3
            rw [tk, hoursIn, List.flatMap_append]
            simpa [hoursIn, hroom] using kk3
          · rw [List.length_map] at z3
            have := len_hours hok
            omega
      · have hroom : ¬ r.room = room := fun z => c (decide_eq_true (congrArg V.int z))
        refine ⟨k2, _, _, rfl, s8, ed2, ?_, by omega⟩
        rw [tk, hoursIn, List.flatMap_append]
        simpa [hoursIn, hroom] using kk2
    rintro σ H8 ⟨k2, x10', x12, rfl, s8, ed2, kk2, _⟩
    rw [List.take_of_length_le (by omega)] at kk2
    have ed8 := s8 _ _ ed
    -- each hour
    refine ⟨_, rfl, _, rfl, beg, fin, rfl, ⟨by omega, by omega, by omega, by omega⟩, for_range (lo := beg) (n := (fin - beg).toNat) (fun i σ H' => ∃ x10, σ = [some (.ref p0), some (.ref pm), x2, some (.int room), some (.int beg), some (.int fin), some (.ref pf), some (.ref df), some (.int last), x9, x10, some (.ref dh), x12] ∧ H' = H8) ⟨_, rfl, rfl⟩ ?_ ?_⟩
    · rintro i σ H' hi ⟨x10'', rfl, rfl⟩
      refine set_go ?_
      dsimp only
      refine ⟨_, rfl, _, rfl, df, _, rfl, DGet.k (k := Sum.inl (beg + (i : Int))) ed8, _, rfl, _, rfl, dh, _, rfl, DGet.k (k := Sum.inl (beg + (i : Int))) ed2, rfl, _, rfl, ?_⟩
      rw [kk, kk2]
      have cov := gok.2 (beg + (i : Int)) (by omega) (by omega)
      rw [← mem_openOf, ← mem_hoursIn] at cov
      have ne : decide (V.bl (decide (beg + (i : Int) ∈ openOf ps)) = V.bl (decide (beg + (i : Int) ∈ hoursIn room rows))) = false := by
        refine decide_eq_false fun z => ?_
        have z' := V.bl.inj z
        by_cases q : beg + (i : Int) ∈ openOf ps
        · rw [decide_eq_true q, decide_eq_false (cov.mp q)] at z'; cases z'
        · rw [decide_eq_false q, decide_eq_true (by by_cases y : beg + (i : Int) ∈ hoursIn room rows; exact y; exact absurd (cov.mpr y) q)] at z'; cases z'
      rw [ne]
      exact iteF ⟨_, rfl, rfl⟩
    · rintro σ H' ⟨x10'', rfl, rfl⟩
      exact k _
end
end KX
namespace KX
open PySem PySem.Spec PyProof.Rows L2 RW
theorem all_mk {l : PySem.W.OpenLaw} {w : World} {K : PySem.W.Frag} {h : Heap} {mg : Str → Option Value} {fa : Addr} {t_WEEK : Tok} (X : K.In h) (G : h.Ns mainGlobals mg) (hfa : mg "law" = some (.ref fa))
    (f_is_empty : FunAt K "is_empty" s_is_empty) (f_span_of : FunAt K "span_of" s_span_of) (f_over_at : FunAt K "over_at" s_over_at) (f_edges_within : FunAt K "edges_within" s_edges_within) (f_add_run : FunAt K "add_run" s_add_run) (f_free_in_week : FunAt K "free_in_week" s_free_in_week) (f_add_piece : FunAt K "add_piece" s_add_piece) (f_free_runs : FunAt K "free_runs" s_free_runs) (f_gaps : FunAt K "gaps" s_gaps) (f__law_at : FunAt K "_law_at" s__law_at) (f__law_upto : FunAt K "_law_upto" s__law_upto) (f__law_whole : FunAt K "_law_whole" s__law_whole) (f__law_all_hours : FunAt K "_law_all_hours" s__law_all_hours) (f__law_deeds : FunAt K "_law_deeds" s__law_deeds) (f__law_judged : FunAt K "_law_judged" s__law_judged) (f_law : FunAt K "law" s_law) (z_len : PySem.W.nsIn K mainGlobals "len" = some none) (z_range : PySem.W.nsIn K mainGlobals "range" = some none) (z_isinstance : PySem.W.nsIn K mainGlobals "isinstance" = some none) (z_bool : PySem.W.nsIn K mainGlobals "bool" = some none) (z_int : PySem.W.nsIn K mainGlobals "int" = some none) (z_str : PySem.W.nsIn K mainGlobals "str" = some none) (z_list : PySem.W.nsIn K mainGlobals "list" = some none) (z_tuple : PySem.W.nsIn K mainGlobals "tuple" = some none) (z_max : PySem.W.nsIn K mainGlobals "max" = some none) (z_min : PySem.W.nsIn K mainGlobals "min" = some none) (z_sorted : PySem.W.nsIn K mainGlobals "sorted" = some none) (z_set : PySem.W.nsIn K mainGlobals "set" = some none) (i_WEEK : PySem.W.nsIn K mainGlobals "WEEK" = some (some (.int 168 t_WEEK))) :
    ∃ fd : FuncData, (∀ (s : Shared) (v : Value), BindsTo s fd ⟨[v], []⟩ [("_law_script", v)]) ∧ ∀ base : Heap, K.In base → base.Ns mainGlobals mg → FnOk l.prog w K mg base CX0 10 fa fd ["_law_script"] (spLaw K) := by
  have T : Txt mg := ⟨PySem.W.mg_none_of X G z_len, PySem.W.mg_none_of X G z_range, PySem.W.mg_none_of X G z_isinstance, PySem.W.mg_none_of X G z_bool, PySem.W.mg_none_of X G z_int, PySem.W.mg_none_of X G z_str, PySem.W.mg_none_of X G z_list, PySem.W.mg_none_of X G z_tuple, PySem.W.mg_none_of X G z_max, PySem.W.mg_none_of X G z_min, PySem.W.mg_none_of X G z_sorted, PySem.W.mg_none_of X G z_set⟩
  have gWEEK : ∃ u, mg "WEEK" = some (.int 168 u) := ⟨t_WEEK, PySem.W.mg_of X G i_WEEK⟩
  obtain ⟨fd, hb, F⟩ := f_law.law (y := "_law_script") X G hfa fun _ _ _ _ _ _ _ => rfl
  refine ⟨fd, hb, fun base _ _ => ?_⟩
  have g_is_empty := f_is_empty.fn (P := l.prog) (w := w) (base := base) (ps := ["span"]) X G (fun f fd F => ok_is_empty F ) (fun _ _ _ _ _ _ us hl => match us, hl with | [_], _ => rfl)
  have g_span_of := f_span_of.fn (P := l.prog) (w := w) (base := base) (ps := ["row"]) X G (fun f fd F => ok_span_of F ) (fun _ _ _ _ _ _ us hl => match us, hl with | [_], _ => rfl)
  have g_over_at := f_over_at.fn (P := l.prog) (w := w) (base := base) (ps := ["span"]) X G (fun f fd F => ok_over_at F gWEEK) (fun _ _ _ _ _ _ us hl => match us, hl with | [_], _ => rfl)
  have g_edges_within := f_edges_within.fn (P := l.prog) (w := w) (base := base) (ps := ["spans", "start", "stop"]) X G (fun f fd F => ok_edges_within F T g_over_at) (fun _ _ _ _ _ _ us hl => match us, hl with | [_, _, _], _ => rfl)
  have g_add_run := f_add_run.fn (P := l.prog) (w := w) (base := base) (ps := ["runs", "first", "behind"]) X G (fun f fd F => ok_add_run F T) (fun _ _ _ _ _ _ us hl => match us, hl with | [_, _, _], _ => rfl)
  have g_free_in_week := f_free_in_week.fn (P := l.prog) (w := w) (base := base) (ps := ["spans", "hour"]) X G (fun f fd F => ok_free_in_week F T gWEEK g_add_run) (fun _ _ _ _ _ _ us hl => match us, hl with | [_, _], _ => rfl)
  have g_add_piece := f_add_piece.fn (P := l.prog) (w := w) (base := base) (ps := ["runs", "free", "start", "stop"]) X G (fun f fd F => ok_add_piece F T gWEEK g_add_run) (fun _ _ _ _ _ _ us hl => match us, hl with | [_, _, _, _], _ => rfl)
  have g_free_runs := f_free_runs.fn (P := l.prog) (w := w) (base := base) (ps := ["spans", "start", "stop"]) X G (fun f fd F => ok_free_runs F T g_is_empty g_edges_within g_over_at g_free_in_week g_add_piece) (fun _ _ _ _ _ _ us hl => match us, hl with | [_, _, _], _ => rfl)
  have g_gaps := f_gaps.fn (P := l.prog) (w := w) (base := base) (ps := ["rows", "room", "start", "stop"]) X G (fun f fd F => ok_gaps F T g_span_of g_free_runs) (fun _ _ _ _ _ _ us hl => match us, hl with | [_, _, _, _], _ => rfl)
  have g__law_at := f__law_at.fn (P := l.prog) (w := w) (base := base) (ps := ["_law_script", "_law_k"]) X G (fun f fd F => ok__law_at F T) (fun _ _ _ _ _ _ us hl => match us, hl with | [_, _], _ => rfl)
  have g__law_upto := f__law_upto.fn (P := l.prog) (w := w) (base := base) (ps := ["_law_script", "_law_small", "_law_great"]) X G (fun f fd F => ok__law_upto F T) (fun _ _ _ _ _ _ us hl => match us, hl with | [_, _, _], _ => rfl)
  have g__law_whole := f__law_whole.fn (P := l.prog) (w := w) (base := base) (ps := ["_law_found"]) X G (fun f fd F => ok__law_whole F T) (fun _ _ _ _ _ _ us hl => match us, hl with | [_], _ => rfl)
  have g__law_all_hours := f__law_all_hours.fn (P := l.prog) (w := w) (base := base) (ps := ["_law_start", "_law_stop", "_law_weeks"]) X G (fun f fd F => ok__law_all_hours F T) (fun _ _ _ _ _ _ us hl => match us, hl with | [_, _, _], _ => rfl)
  have g__law_deeds := f__law_deeds.fn (P := l.prog) (w := w) (base := base) (ps := ["_law_cells", "_law_seed"]) X G (fun f fd F => ok__law_deeds F T) (fun _ _ _ _ _ _ us hl => match us, hl with | [_, _], _ => rfl)
  have g__law_judged := f__law_judged.fn (P := l.prog) (w := w) (base := base) (ps := ["_law_rows", "_law_deed"]) X G (fun f fd F => ok__law_judged F T g__law_all_hours) (fun _ _ _ _ _ _ us hl => match us, hl with | [_, _], _ => rfl)
  exact ok_law F T g__law_at g__law_upto g__law_deeds g__law_whole g__law_all_hours g__law_judged g_gaps
theorem walk {l : PySem.W.OpenLaw} {q : Program} {loose : List Str} {XP : (Str → Option Value) → Heap → Prop} {YP : World → Heap → Prop} {d : DefRec} {K : Params → PySem.W.Frag} (hn : l.most = some 63) (hdf : d.params.defaults = []) (hY : ∀ (w : World) (h : Heap), YP w h → (K w.params).In h)
    (F : ∀ (w : World) (mg : Str → Option Value) (fa : Addr) (h : Heap), (K w.params).In h → h.Ns mainGlobals mg → mg d.name = some (.ref fa) →
      ∃ fd : FuncData, (∀ (s : Shared) (u : Value), BindsTo s fd ⟨[u], []⟩ [("_law_script", u)]) ∧ ∀ base : Heap, (K w.params).In base → base.Ns mainGlobals mg → FnOk l.prog w (K w.params) mg base CX0 10 fa fd ["_law_script"] (spLaw (K w.params))) :
    PySem.W.WalkO q loose XP YP l.row.toRowW d [] (fun f vs => PySem.call f vs) :=
  L2.walk_of (n := 63) (k := 10) (x := "_law_script") (CX := fun _ => CX0) (sp := fun w => spLaw (K w.params)) hn (by decide) hdf ⟨rfl, by decide, by decide⟩ hY F (fun _ _ a ns hl _ hS => ⟨a, ns, rfl, hS, hl, fun _ => rfl⟩) fun _ _ _ _ _ z => z
end KX
open PySem PySem.W PyProof.Rows
set_option maxRecDepth 100000 in
set_option maxHeartbeats 0 in
theorem PySem.Challenge.cw_roomweek_k06_whole_gaps_holds : PySem.Challenge.rw_roomweek_k06_whole_gaps.Holds := by
  w_on; o_law; k_head; (case hw => w_witness2)
  k_fill
  refine KX.walk (l := PySem.Challenge.rw_roomweek_k06_whole_gaps) rfl rfl (fun w h Y => PySem.W.kIn_of Y) ?F
  case F =>
    intro w mg fa h KI G hmg
    refine' KX.all_mk KI G hmg (L2.fun_at ?a_is_empty ?l_is_empty ?c_is_empty ?k_is_empty) (L2.fun_at ?a_span_of ?l_span_of ?c_span_of ?k_span_of) (L2.fun_at ?a_over_at ?l_over_at ?c_over_at ?k_over_at) (L2.fun_at ?a_edges_within ?l_edges_within ?c_edges_within ?k_edges_within) (L2.fun_at ?a_add_run ?l_add_run ?c_add_run ?k_add_run) (L2.fun_at ?a_free_in_week ?l_free_in_week ?c_free_in_week ?k_free_in_week) (L2.fun_at ?a_add_piece ?l_add_piece ?c_add_piece ?k_add_piece) (L2.fun_at ?a_free_runs ?l_free_runs ?c_free_runs ?k_free_runs) (L2.fun_at ?a_gaps ?l_gaps ?c_gaps ?k_gaps) (L2.fun_at ?a__law_at ?l__law_at ?c__law_at ?k__law_at) (L2.fun_at ?a__law_upto ?l__law_upto ?c__law_upto ?k__law_upto) (L2.fun_at ?a__law_whole ?l__law_whole ?c__law_whole ?k__law_whole) (L2.fun_at ?a__law_all_hours ?l__law_all_hours ?c__law_all_hours ?k__law_all_hours) (L2.fun_at ?a__law_deeds ?l__law_deeds ?c__law_deeds ?k__law_deeds) (L2.fun_at ?a__law_judged ?l__law_judged ?c__law_judged ?k__law_judged) (L2.fun_at ?a_law ?l_law ?c_law ?k_law) ?z_len ?z_range ?z_isinstance ?z_bool ?z_int ?z_str ?z_list ?z_tuple ?z_max ?z_min ?z_sorted ?z_set ?i_WEEK
    (case a_is_empty => k_is); (case l_is_empty => k_is); (case c_is_empty => k_is); (case k_is_empty => k_is)
    (case a_span_of => k_is); (case l_span_of => k_is); (case c_span_of => k_is); (case k_span_of => k_is)
    (case a_over_at => k_is); (case l_over_at => k_is); (case c_over_at => k_is); (case k_over_at => k_is)
    (case a_edges_within => k_is); (case l_edges_within => k_is); (case c_edges_within => k_is); (case k_edges_within => k_is)
    (case a_add_run => k_is); (case l_add_run => k_is); (case c_add_run => k_is); (case k_add_run => k_is)
    (case a_free_in_week => k_is); (case l_free_in_week => k_is); (case c_free_in_week => k_is); (case k_free_in_week => k_is)
    (case a_add_piece => k_is); (case l_add_piece => k_is); (case c_add_piece => k_is); (case k_add_piece => k_is)
    (case a_free_runs => k_is); (case l_free_runs => k_is); (case c_free_runs => k_is); (case k_free_runs => k_is)
    (case a_gaps => k_is); (case l_gaps => k_is); (case c_gaps => k_is); (case k_gaps => k_is)
    (case a__law_at => k_is); (case l__law_at => k_is); (case c__law_at => k_is); (case k__law_at => k_is)
    (case a__law_upto => k_is); (case l__law_upto => k_is); (case c__law_upto => k_is); (case k__law_upto => k_is)
    (case a__law_whole => k_is); (case l__law_whole => k_is); (case c__law_whole => k_is); (case k__law_whole => k_is)
    (case a__law_all_hours => k_is); (case l__law_all_hours => k_is); (case c__law_all_hours => k_is); (case k__law_all_hours => k_is)
    (case a__law_deeds => k_is); (case l__law_deeds => k_is); (case c__law_deeds => k_is); (case k__law_deeds => k_is)
    (case a__law_judged => k_is); (case l__law_judged => k_is); (case c__law_judged => k_is); (case k__law_judged => k_is)
    (case a_law => k_is); (case l_law => k_is); (case c_law => k_is); (case k_law => k_is)
    (case z_len => k_is); (case z_range => k_is); (case z_isinstance => k_is); (case z_bool => k_is)
    (case z_int => k_is); (case z_str => k_is); (case z_list => k_is); (case z_tuple => k_is)
    (case z_max => k_is); (case z_min => k_is); (case z_sorted => k_is); (case z_set => k_is)
    (case i_WEEK => k_is)
