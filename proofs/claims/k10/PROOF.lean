import PyProof.Rows.All
import Wide.All
import OpenK.AllK
import Wide.FinOn
import PyProof.EqAt
import PyProof.EqKinds
import PyProof.TupleCall
import KE.BitLaws
import KE.KNestM
import PyProof.TupleOfGen
import KE.KSortTupG
import PySem.Challenge.RW_twicerun_k10_whole_runs_put_together
set_option Elab.async false
set_option linter.all false
set_option maxRecDepth 100000
section
open PySem PySem.W PyProof.Rows
set_option maxHeartbeats 0
open_top hd for PySem.Challenge.rw_twicerun_k10_whole_runs_put_together
end
/-! THE HAND LAYER, for ints, bools, texts, own classes, lists, tuples, dicts, comprehensions, walks over dicts, enumerate, zip, reversed, texts, calls, loops. Paste it whole ahead of your own text; what your proof does not reach may be deleted. -/
namespace L2
open PySem PySem.Spec PyProof.Rows

/-- a key: an int or a str -/
abbrev Key := Sum Int Str
def keyIs : Key → Value → Bool
  | .inl k, v => Value.isInt k v
  | .inr x, v => Value.isStrOf x v
def keyH (w : World) : Key → Int
  | .inl k => hashInt k
  | .inr x => hashStr w x
theorem keyIs_shape : ∀ {k : Key} {v : Value}, keyIs k v = true → (∃ i t, k = Sum.inl i ∧ v = Value.int i t) ∨ (∃ x t, k = Sum.inr x ∧ v = Value.str x t)
  | .inl i, v, h => by
    obtain ⟨t, e⟩ := Value.isInt_shape (k := i) (v := v) h
    exact .inl ⟨i, t, rfl, e⟩
  | .inr x, v, h => by
    obtain ⟨t, e⟩ := Value.isStrOf_shape (x := x) (v := v) h
    exact .inr ⟨x, t, rfl, e⟩
theorem key_ll (a b : Int) : decide ((Sum.inl a : Key) = Sum.inl b) = (a == b) := by
  by_cases e : a = b
  · subst e; simp
  · have h : ¬ (Sum.inl a : Key) = Sum.inl b := fun q => e (Sum.inl.inj q)
    rw [decide_eq_false h]
    exact (beq_eq_false_iff_ne.mpr e).symm
theorem key_rr (a b : Str) : decide ((Sum.inr a : Key) = Sum.inr b) = decide (a = b) := by
  by_cases e : a = b
  · subst e; simp
  · have h : ¬ (Sum.inr a : Key) = Sum.inr b := fun q => e (Sum.inr.inj q)
    rw [decide_eq_false h, decide_eq_false e]
theorem key_lr (a : Int) (b : Str) : decide ((Sum.inl a : Key) = Sum.inr b) = false := decide_eq_false (fun q => nomatch q)
theorem key_rl (a : Str) (b : Int) : decide ((Sum.inr a : Key) = Sum.inl b) = false := decide_eq_false (fun q => nomatch q)

def mixKind (prog : Program) (w : World) : PySem.KeyKind prog w Key where
  is := keyIs
  hash := keyH w
  inj := fun v a b ha hb => by
    rcases keyIs_shape ha with ⟨i, t, rfl, rfl⟩ | ⟨x, t, rfl, rfl⟩
    · rcases keyIs_shape hb with ⟨j, u, rfl, e⟩ | ⟨y, u, rfl, e⟩
      · injection e with e1 _; rw [e1]
      · exact nomatch e
    · rcases keyIs_shape hb with ⟨j, u, rfl, e⟩ | ⟨y, u, rfl, e⟩
      · exact nomatch e
      · injection e with e1 _; rw [e1]
  byValue := fun k v h => by
    rcases keyIs_shape h with ⟨i, t, rfl, rfl⟩ | ⟨x, t, rfl, rfl⟩ <;> rfl
  pyHash := fun hv h => by
    rcases keyIs_shape hv with ⟨i, t, rfl, rfl⟩ | ⟨x, t, rfl, rfl⟩
    · exact wpAny_pyHash_int h
    · exact wpAny_pyHash_str h
  eqBool := fun hu hv h => by
    rcases keyIs_shape hu with ⟨i, t, rfl, rfl⟩ | ⟨x, t, rfl, rfl⟩
    · rcases keyIs_shape hv with ⟨j, u, rfl, rfl⟩ | ⟨y, u, rfl, rfl⟩
      · rw [key_ll] at h; exact wpAny_eqBool_int h
      · rw [key_lr] at h; exact SeqAt.EqAt.int_str i t y u _ _ _ _ h
    · rcases keyIs_shape hv with ⟨j, u, rfl, rfl⟩ | ⟨y, u, rfl, rfl⟩
      · rw [key_rl] at h; exact SeqAt.EqAt.str_int x t j u _ _ _ _ h
      · rw [key_rr] at h; exact wpAny_eqBool_str h
  «strs» := fun k x t v h => by
    rcases keyIs_shape h with ⟨i, u, rfl, e⟩ | ⟨y, u, rfl, e⟩
    · exact nomatch e
    · injection e with e1 _
      subst e1
      cases v <;> rfl

end L2

namespace L2
open PySem PySem.Spec PyProof.Rows

/-- a value, without the heap -/
inductive V where
  | non | bl (b : Bool) | int (i : Int) | str (x : Str) | byt (b : Array UInt8) | flt (b : UInt64) | ref (a : Addr) | ty (n : String)
  deriving DecidableEq

def RelV : V → Value → Prop
  | .non, u => u = Value.none
  | .bl b, u => u = Value.bool b
  | .int i, u => ∃ t, u = Value.int i t
  | .str x, u => ∃ t, u = Value.str x t
  | .byt b, u => ∃ t, u = Value.bytes b t
  | .flt b, u => ∃ t, u = Value.float b t
  | .ref a, u => u = Value.ref a
  | .ty n, u => u = Value.type n

abbrev Vals : List V → List Value → Prop := Paired RelV
theorem Vals.length {xs : List V} {us : List Value} (r : Vals xs us) : xs.length = us.length := Paired.length r
theorem Vals.get : ∀ {xs : List V} {us : List Value} {i : Nat} {x : V}, Vals xs us → xs[i]? = some x → ∃ u, us[i]? = some u ∧ RelV x u
  | _, _, _, _, .nil, e => by simp at e
  | _, _, 0, _, .cons r _, e => by simp at e; subst e; exact ⟨_, rfl, r⟩
  | _, _, i + 1, x, .cons _ t, e => by
    obtain ⟨u, h1, h2⟩ := Vals.get (i := i) (x := x) t (by simpa using e)
    exact ⟨u, by simpa using h1, h2⟩
theorem Vals.set {x : V} {u : Value} (r : RelV x u) : ∀ {xs : List V} {us : List Value} (i : Nat), Vals xs us → Vals (xs.set i x) (us.set i u)
  | _, _, _, .nil => .nil
  | _, _, 0, .cons _ t => .cons r t
  | _, _, i + 1, .cons q t => .cons q (Vals.set r i t)
theorem Vals.append : ∀ {xs ys : List V} {us ws : List Value}, Vals xs us → Vals ys ws → Vals (xs ++ ys) (us ++ ws)
  | _, _, _, _, .nil, s => s
  | _, _, _, _, .cons r t, s => .cons r (Vals.append t s)
theorem Vals.take : ∀ {xs : List V} {us : List Value} (n : Nat), Vals xs us → Vals (xs.take n) (us.take n)
  | _, _, 0, _ => .nil
  | _, _, _ + 1, .nil => .nil
  | _, _, n + 1, .cons r t => .cons r (Vals.take n t)
theorem Vals.drop : ∀ {xs : List V} {us : List Value} (n : Nat), Vals xs us → Vals (xs.drop n) (us.drop n)
  | _, _, 0, r => r
  | _, _, _ + 1, .nil => .nil
  | _, _, n + 1, .cons _ t => Vals.drop n t
def RelO : Option V → Option Value → Prop
  | some v, some u => RelV v u
  | none, none => True
  | _, _ => False
def KV {κ : Type} : List (κ × V) → List (κ × Value) → Prop := Paired fun (p : κ × V) (q : κ × Value) => p.1 = q.1 ∧ RelV p.2 q.2

/-- a key of a dict (00_mix): an int or a text -/
def kV : Key → V
  | .inl i => .int i
  | .inr x => .str x

/-- what stands at a tracked address -/
inductive HO where
  /-- a list -/
  | lst (xs : List V)
  /-- a tuple (never changes) -/
  | tup (xs : List V)
  /-- a dict whose keys are ints and texts; one whose keys are tuples of ints and texts (the empty one is both) -/
  | dK (kvs : List (Key × V)) | dT (kvs : List (List Key × V))
  /-- a set of ints: its members, its size -/
  | set (S : Int → Bool) (n : Nat)
  /-- an instance of the class at C, its dict at dx, its attributes -/
  | ins (C dx : Addr) (fs : List (Str × V))
  /-- the dict of the instance at x -/
  | own (x : Addr)
  /-- the dict of an exception -/
  | xd (fs : List (Str × V))
  /-- a bound method, f of x -/
  | met (f x : Addr)
  /-- a range object lo, lo + 1, .. below hi -/
  | rng (lo hi : Int)
  /-- a thing that is known to the object (the script; a dict while a loop walks it): read, never written while it is so -/
  | frz (o : Obj) (u : HO)
  /-- a code object's table -/
  | tbl (ps : Array Value)
  /-- any other thing, by what is true of its one object (a def of one's own: SetO a S n := HO.ext fun h => ..) -/
  | ext (φ : Heap → Prop)

abbrev Hp := Addr → Option HO
def upd (H : Hp) (a : Addr) (o : HO) : Hp := fun b => if b = a then some o else H b
theorem upd_same {H : Hp} {a : Addr} {o : HO} : upd H a o a = some o := by unfold upd; rw [if_pos rfl]
theorem upd_ne {H : Hp} {a b : Addr} {o : HO} (h : b ≠ a) : upd H a o b = H b := by unfold upd; rw [if_neg h]
theorem upd_upd {H : Hp} {a : Addr} {o u : HO} : upd (upd H a o) a u = upd H a u := by
  funext b; unfold upd; split <;> rfl
/-- two objects of different content stand apart -/
theorem ne_of {H : Hp} {a b : Addr} {o u : HO} (h : H a = some o) (h' : H b = some u) (d : o ≠ u) : a ≠ b := by
  intro e; subst e; rw [h] at h'; exact d (Option.some.inj h')
theorem ne_of_none {H : Hp} {a b : Addr} {o : HO} (h : H a = some o) (h' : H b = none) : a ≠ b := by
  intro e; subst e; rw [h] at h'; cases h'

section
variable (P : Program) (w : World)
def ObjOk (H : Hp) (h : Heap) (a : Addr) : HO → Prop
  | .lst xs => xs.length ≤ sizeLine ∧ ∃ (its : List Value) (n : Nat), Vals xs its ∧ h.get? a = some { cls := .type "list", data := .seq its.toArray n }
  | .tup xs => xs.length ≤ sizeLine ∧ ∃ its : List Value, Vals xs its ∧ IsTup h a its.toArray
  | .dK kvs => kvs.length ≤ sizeLine ∧ (a == sysModules) = false ∧ ∃ vs, KV kvs vs ∧ h.DictOf (mixKind P w) a vs
  | .dT kvs => kvs.length ≤ sizeLine ∧ (a == sysModules) = false ∧ ∃ xs : List (List Key × Addr × Value),
      Paired (fun (p : List Key × V) (q : List Key × Addr × Value) => p.1 = q.1 ∧ H q.2.1 = some (.tup (p.1.map kV)) ∧ RelV p.2 q.2.2) kvs xs ∧
      ∃ o es ep, h.get? a = some o ∧ o.ExactDict ∧ o.data = .dict es ep ∧ es.toList = xs.map (entryOfKey (tupleKind (mixKind P w))) ∧ (xs.map (·.1)).Nodup
  | .set S n => h.SetOf (intKind P w) a S n
  | .ins C dx fs => H dx = some (.own a) ∧ fs.length ≤ 1000 ∧ dx ≠ a ∧ h.get? a = some (PySem.W.instObj C dx) ∧
      ∃ mA, h.Ns1 dx mA ∧ (∀ f, RelO (fs.lookup f) (mA f)) ∧ PySem.Within mA (fs.map (·.1))
  | .own _ => ∃ o, h.get? a = some o
  | .xd fs => ∃ mA, h.Ns1 a mA ∧ ∀ f, RelO (fs.lookup f) (mA f)
  | .rng lo hi => ∃ t u v, h.get? a = some { cls := .type "range", data := .fields #[.int lo t, .int hi u, .int 1 v] }
  | .frz o u => h.get? a = some o ∧ ObjOk H h a u
  | .tbl ps => h.get? a = some { cls := .none, data := .fields ps } ∧ TriplesOk ps.toList
  | .met f x => h.get? a = some (PySem.W.methodObj (.ref f) (.ref x))
  | .ext φ => φ h ∧ (∃ o, h.get? a = some o) ∧ ∀ h1 h2 : Heap, φ h1 → (∀ o, h1.get? a = some o → h2.get? a = some o) → φ h2
/-- the abstract heap is held -/
def HOk (H : Hp) (h : Heap) : Prop := ∀ a o, H a = some o → ObjOk P w H h a o
end

section
variable {P : Program} {w : World} {H H' : Hp} {h h' : Heap} {a : Addr} {o : HO}
theorem ObjOk.lt (x : ObjOk P w H h a o) : a < h.objs.size := by
  cases o with
  | lst xs => obtain ⟨_, _, _, _, e⟩ := x; exact Heap.lt_size e
  | tup xs => obtain ⟨_, _, _, p⟩ := x; exact p.lt
  | dK kvs => obtain ⟨_, _, _, _, o, _, _, e, _⟩ := x; exact Heap.lt_size e
  | dT kvs => obtain ⟨_, _, _, _, o, _, _, e, _⟩ := x; exact Heap.lt_size e
  | set S n => obtain ⟨o, _, _, _, e, _⟩ := x; exact Heap.lt_size e
  | ins C dx fs => obtain ⟨_, _, _, e, _⟩ := x; exact Heap.lt_size e
  | own y => obtain ⟨_, e⟩ := x; exact Heap.lt_size e
  | xd fs => obtain ⟨_, ⟨_, _, _, e, _⟩, _⟩ := x; exact Heap.lt_size e
  | rng lo hi => obtain ⟨_, _, _, e⟩ := x; exact Heap.lt_size e
  | frz ob u => obtain ⟨e, _⟩ := x; exact Heap.lt_size e
  | tbl ps => exact Heap.lt_size (show h.get? a = some _ from x.1)
  | met f y => exact Heap.lt_size (show h.get? a = some _ from x)
  | ext φ => obtain ⟨_, ⟨_, e⟩, _⟩ := x; exact Heap.lt_size e
theorem Paired.mapP {α β : Type} {F G : α → β → Prop} : ∀ {l₁ : List α} {l₂ : List β}, Paired F l₁ l₂ → (∀ a b, F a b → G a b) → Paired G l₁ l₂
  | _, _, .nil, _ => .nil
  | _, _, .cons r t, f => .cons (f _ _ r) (Paired.mapP t f)
/-- what an object's description leans on: its own object, its own dict, the tuples -/
theorem ObjOk.stay (x : ObjOk P w H h a o) (k : ∀ b u, (b = a ∨ H b = some (.own a)) → h.get? b = some u → h'.get? b = some u)
    (ho : ∀ b, H b = some (.own a) → H' b = some (.own a)) (ht : ∀ b xs, H b = some (.tup xs) → H' b = some (.tup xs)) : ObjOk P w H' h' a o := by
  induction o with
  | lst xs => obtain ⟨z, its, n, r, e⟩ := x; exact ⟨z, its, n, r, k _ _ (.inl rfl) e⟩
  | tup xs => obtain ⟨z, its, r, ob, e, c⟩ := x; exact ⟨z, its, r, ob, k _ _ (.inl rfl) e, c⟩
  | dK kvs => obtain ⟨z, y, vs, r, ob, es, ep, e, c⟩ := x; exact ⟨z, y, vs, r, ob, es, ep, k _ _ (.inl rfl) e, c⟩
  | dT kvs =>
    obtain ⟨z, y, xs, r, ob, es, ep, e, c⟩ := x
    exact ⟨z, y, xs, Paired.mapP r fun p q z => ⟨z.1, ht _ _ z.2.1, z.2.2⟩, ob, es, ep, k _ _ (.inl rfl) e, c⟩
  | set S n => obtain ⟨ob, es, ep, t, e, c⟩ := x; exact ⟨ob, es, ep, t, k _ _ (.inl rfl) e, c⟩
  | ins C dx fs =>
    obtain ⟨d, z, ne, e, mA, ⟨od, es, ep, e2, c⟩, r⟩ := x
    exact ⟨ho _ d, z, ne, k _ _ (.inl rfl) e, mA, ⟨od, es, ep, k _ _ (.inr d) e2, c⟩, r⟩
  | own y => obtain ⟨ob, e⟩ := x; exact ⟨ob, k _ _ (.inl rfl) e⟩
  | xd fs => obtain ⟨mA, ⟨od, es, ep, e, c⟩, r⟩ := x; exact ⟨mA, ⟨od, es, ep, k _ _ (.inl rfl) e, c⟩, r⟩
  | rng lo hi => obtain ⟨t, u, v, e⟩ := x; exact ⟨t, u, v, k _ _ (.inl rfl) e⟩
  | frz ob u ih => obtain ⟨e, q⟩ := x; exact ⟨k _ _ (.inl rfl) e, ih q⟩
  | tbl ps =>
    have e : h.get? a = some { cls := .none, data := .fields ps } ∧ TriplesOk ps.toList := x
    show h'.get? a = some { cls := .none, data := .fields ps } ∧ TriplesOk ps.toList
    exact ⟨k a _ (.inl rfl) e.1, e.2⟩
  | met f y =>
    have e : h.get? a = some (PySem.W.methodObj (.ref f) (.ref y)) := x
    show h'.get? a = some (PySem.W.methodObj (.ref f) (.ref y))
    exact k a _ (.inl rfl) e
  | ext φ => obtain ⟨p, ⟨o, e⟩, st⟩ := x; exact ⟨st _ _ p fun o q => k _ _ (.inl rfl) q, ⟨o, k _ _ (.inl rfl) e⟩, st⟩
theorem HOk.lt (x : HOk P w H h) (e : H a = some o) : a < h.objs.size := (x a o e).lt
theorem HOk.fresh (x : HOk P w H h) (e : h.objs.size ≤ a) : H a = none := by
  cases q : H a with
  | none => rfl
  | some u => exact absurd (Nat.lt_of_lt_of_le (x.lt q) e) (Nat.lt_irrefl _)
/-- every object of the heap is kept -/
theorem HOk.kept (x : HOk P w H h) (k : ∀ b u, h.get? b = some u → h'.get? b = some u) : HOk P w H h' := fun a o e =>
  (x a o e).stay (fun b u _ q => k b u q) (fun _ q => q) fun _ _ q => q
/-- a new object is laid and tracked -/
theorem HOk.laid (x : HOk P w H h) (k : ∀ b u, h.get? b = some u → h'.get? b = some u) (hp : h.objs.size ≤ a) (new : ObjOk P w (upd H a o) h' a o) : HOk P w (upd H a o) h' := fun b u e => by
  have hn := x.fresh hp
  by_cases hb : b = a
  · subst hb; rw [upd_same] at e; cases e; exact new
  · rw [upd_ne hb] at e
    exact (x b u e).stay (fun c v _ q => k c v q) (fun c q => by rw [upd_ne (ne_of_none q hn)]; exact q) fun c xs q => by rw [upd_ne (ne_of_none q hn)]; exact q
end

/-- what may be read as u: it is u, or a known u -/
def Rd (H : Hp) (a : Addr) (u : HO) : Prop := H a = some u ∨ ∃ o, H a = some (.frz o u)
theorem Rd.of {H : Hp} {a : Addr} {u : HO} (h : H a = some u) : Rd H a u := .inl h
theorem Rd.ok {P : Program} {w : World} {H : Hp} {h : Heap} {a : Addr} {u : HO} (r : Rd H a u) (x : HOk P w H h) : ObjOk P w H h a u := by
  rcases r with r | ⟨o, r⟩
  · exact x a u r
  · obtain ⟨_, q⟩ := x a _ r
    exact q
/-- what may be written -/
def Mut : Option HO → Prop
  | some (.lst _) => True
  | some (.dK _) => True
  | some (.dT _) => True
  | some (.set _ _) => True
  | some (.ins _ _ _) => True
  | some (.ext _) => True
  | _ => False
section
variable {P : Program} {w : World} {H : Hp} {h h' : Heap} {x e : Addr} {o' : HO}
/-- the object at e is changed: x itself, or the dict of the instance x -/
theorem HOk.write (ok : HOk P w H h) (mu : Mut (H x)) (he : e = x ∨ H e = some (.own x)) (k : ∀ b u, b ≠ e → h.get? b = some u → h'.get? b = some u) (heo : ∃ u, h'.get? e = some u)
    (new : ObjOk P w (upd H x o') h' x o') : HOk P w (upd H x o') h' := fun b u q => by
  have nown : ∀ c y, H c = some (.own y) → c ≠ x := fun c y r z => by subst z; rw [r] at mu; exact mu
  have ntup : ∀ c xs, H c = some (.tup xs) → c ≠ x := fun c xs r z => by subst z; rw [r] at mu; exact mu
  by_cases hb : b = x
  · subst hb; rw [upd_same] at q; cases q; exact new
  · rw [upd_ne hb] at q
    by_cases hbe : b = e
    · have q' : H b = some (.own x) := by
        rcases he with z | z
        · exact absurd (hbe.trans z) hb
        · rw [hbe]; exact z
      rw [q] at q'; cases q'
      obtain ⟨v, hv⟩ := heo
      exact ⟨v, by rw [hbe]; exact hv⟩
    · refine (ok b u q).stay (fun c v hc r => k c v ?_ r) (fun c r => by rw [upd_ne (nown c b r)]; exact r) fun c xs r => by rw [upd_ne (ntup c xs r)]; exact r
      rcases hc with rfl | hc
      · exact hbe
      · rintro rfl
        rcases he with z | z
        · exact nown c b hc z
        · rw [hc] at z; cases z; exact hb rfl
end

/-! ### kept unless tracked; of the frames at fs (the callers') the slots may change (an exception that passes writes there); of the records at ex (iterators) nothing is said -/
/-- a code object that a table holds -/
def CdAt (H : Hp) (c : Addr) : Prop := ∃ (o : Obj) (vs : Array Value) (q : Str) (t : Tok), H c = some (.frz o (.frz o (.ext fun _ => True))) ∧ o.data = .fields vs ∧ vs[1]? = some (.str q t)
def CdOk (H : Hp) : List Value → Prop
  | [] => True
  | .int _ _ :: .int _ _ :: v :: r => (∃ c, v = .ref c ∧ CdAt H c) ∧ CdOk H r
  | _ => False
theorem CdOk.nil {H : Hp} : CdOk H (#[] : Array Value).toList := trivial
theorem CdAt.mono {H H' : Hp} {c : Addr} (h : CdAt H c) (k : ∀ b o u, H b = some (.frz o u) → H' b = some (.frz o u)) : CdAt H' c := let ⟨o, vs, q, t, e, r⟩ := h; ⟨o, vs, q, t, k _ _ _ e, r⟩
theorem CdOk.map {H H' : Hp} (k : ∀ c, CdAt H c → CdAt H' c) (l : List Value) : CdOk H l → CdOk H' l := by
  fun_induction CdOk H l with
  | case1 => exact fun _ => trivial
  | case2 i t j u v r ih => exact fun h => ⟨h.1.elim fun c z => ⟨c, z.1, k c z.2⟩, ih h.2⟩
  | case3 => exact fun h => h.elim
theorem CdOk.mono {H H' : Hp} {l : List Value} (h : CdOk H l) (k : ∀ b o u, H b = some (.frz o u) → H' b = some (.frz o u)) : CdOk H' l := CdOk.map (fun _ z => z.mono k) l h
theorem CdOk.appL {H : Hp} {b : List Value} (k : CdOk H b) (a : List Value) : CdOk H a → CdOk H (a ++ b) := by
  fun_induction CdOk H a with
  | case1 => exact fun _ => k
  | case2 i t j u v r ih => exact fun h => ⟨h.1, ih h.2⟩
  | case3 => exact fun h => h.elim
theorem CdOk.app {H : Hp} {a b : Array Value} (h : CdOk H a.toList) (k : CdOk H b.toList) : CdOk H (a ++ b).toList := by
  rw [Array.toList_append]
  exact CdOk.appL k _ h
theorem CdOk.un {H : Hp} {l : List Value} {d : Addr} {od : Obj} {u : HO} (h : CdOk H l) (e : H d = some (.frz od u)) (mu : Mut (some u)) : CdOk (upd H d u) l := CdOk.map (fun c ⟨o, vs, q, t, e2, r⟩ => ⟨o, vs, q, t, by
  rw [upd_ne fun z => by rw [z, e] at e2; cases e2; exact mu]
  exact e2, r⟩) l h
theorem CdOk.among {H : Hp} {pos : Pos} {v : Value} (l : List Value) : CdOk H l → codeAmong pos l = some v → ∃ c, v = .ref c ∧ CdAt H c := by
  fun_induction CdOk H l with
  | case1 => intro _ h; simp [codeAmong] at h
  | case2 i t j u w r ih =>
    intro h e
    simp only [codeAmong] at e
    split at e
    · cases e; exact h.1
    · exact ih h.2 e
  | case3 => exact fun h => h.elim
structure Un (fs ex : List Addr) (H H' : Hp) (h h' : Heap) : Prop where
  keep : ∀ b o, h.get? b = some o → H b = none → b ∉ fs → b ∉ ex → h'.get? b = some o
  slot : ∀ b o, h.get? b = some o → H b = none → b ∈ fs → b ∉ ex → ∃ sl, h'.get? b = some { o with slots := sl }
  free : ∀ b o, h.get? b = some o → H b = none → b ∉ ex → H' b = none
  there : ∀ b o, h.get? b = some o → b ∉ ex → ∃ o', h'.get? b = some o'
  tups : ∀ b xs, H b = some (.tup xs) → H' b = some (.tup xs)
  frzs : ∀ b o u, H b = some (.frz o u) → H' b = some (.frz o u)
  tbls : ∀ b ps, H b = some (.tbl ps) → ∃ more, H' b = some (.tbl (ps ++ more)) ∧ CdOk H' more.toList
section
variable {fs fs' ex ex' : List Addr} {H H1 H2 : Hp} {h h1 h2 h' : Heap} {a x e : Addr} {o : HO}
theorem Un.any (u : Un fs ex H H1 h h1) {b : Addr} {ob : Obj} (q : h.get? b = some ob) (n : H b = none) (hx : b ∉ ex) : ∃ sl, h1.get? b = some { ob with slots := sl } := by
  by_cases hb : b ∈ fs
  · exact u.slot b ob q n hb hx
  · exact ⟨ob.slots, u.keep b ob q n hb hx⟩
theorem Un.trans (a : Un fs ex H H1 h h1) (b : Un fs ex H1 H2 h1 h2) : Un fs ex H H2 h h2 where
  keep := fun c ob q n hc hx => b.keep c ob (a.keep c ob q n hc hx) (a.free c ob q n hx) hc hx
  slot := fun c ob q n hc hx => by
    obtain ⟨sl, e1⟩ := a.slot c ob q n hc hx
    obtain ⟨sl', e2⟩ := b.slot c _ e1 (a.free c ob q n hx) hc hx
    exact ⟨sl', e2⟩
  free := fun c ob q n hx => by
    obtain ⟨o', e1⟩ := a.there c ob q hx
    exact b.free c o' e1 (a.free c ob q n hx) hx
  there := fun c ob q hx => by
    obtain ⟨o', e1⟩ := a.there c ob q hx
    exact b.there c o' e1 hx
  tups := fun c xs q => b.tups c xs (a.tups c xs q)
  frzs := fun c ob xs q => b.frzs c ob xs (a.frzs c ob xs q)
  tbls := fun c ps q => by
    obtain ⟨m1, e1, c1⟩ := a.tbls c ps q
    obtain ⟨m2, e2, c2⟩ := b.tbls c _ e1
    exact ⟨m1 ++ m2, by rw [e2, Array.append_assoc], (c1.mono b.frzs).app c2⟩
theorem Un.kept (k : ∀ b u, h.get? b = some u → h'.get? b = some u) : Un fs ex H H h h' :=
  ⟨fun b ob q _ _ _ => k b ob q, fun b ob q _ _ _ => ⟨ob.slots, k b ob q⟩, fun _ _ _ n _ => n, fun b ob q _ => ⟨ob, k b ob q⟩, fun _ _ q => q, fun _ _ _ q => q, fun _ ps q => ⟨#[], by rw [q]; simp, CdOk.nil⟩⟩
theorem Un.refl : Un fs ex H H h h := Un.kept fun _ _ q => q
theorem Un.laid (k : ∀ b u, h.get? b = some u → h'.get? b = some u) (hp : h.objs.size ≤ a) (hn : H a = none) : Un fs ex H (upd H a o) h h' where
  keep := fun b u q _ _ _ => k b u q
  slot := fun b u q _ _ _ => ⟨u.slots, k b u q⟩
  free := fun b u q n _ => by rw [upd_ne (Nat.ne_of_lt (Nat.lt_of_lt_of_le (Heap.lt_size q) hp))]; exact n
  there := fun b u q _ => ⟨u, k b u q⟩
  tups := fun b xs q => by rw [upd_ne (ne_of_none q hn)]; exact q
  frzs := fun b u xs q => by rw [upd_ne (ne_of_none q hn)]; exact q
  tbls := fun b ps q => ⟨#[], by rw [upd_ne (ne_of_none q hn), q]; simp, CdOk.nil⟩
theorem Un.write (mu : Mut (H x)) (he : e = x ∨ H e = some (.own x)) (k : ∀ b u, b ≠ e → h.get? b = some u → h'.get? b = some u) (heo : ∃ u, h'.get? e = some u) : Un fs ex H (upd H x o) h h' := by
  have hx : ∀ b, H b = none → b ≠ x := fun b n z => by subst z; rw [n] at mu; exact mu
  have hb : ∀ b, H b = none → b ≠ e := fun b n z => by
    subst z
    rcases he with r | r
    · exact hx b n r
    · rw [n] at r; cases r
  have hm : ∀ b u, H b = some u → ¬ Mut (some u) → b ≠ x := fun b u q nm z => by subst z; rw [q] at mu; exact nm mu
  refine ⟨fun b u q n _ _ => k b u (hb b n) q, fun b u q n _ _ => ⟨u.slots, k b u (hb b n) q⟩, fun b u q n _ => by rw [upd_ne (hx b n)]; exact n, fun b u q _ => ?_,
    fun b xs q => by rw [upd_ne (hm b _ q fun z => z)]; exact q, fun b u xs q => by rw [upd_ne (hm b _ q fun z => z)]; exact q, fun b ps q => ⟨#[], by rw [upd_ne (hm b _ q fun z => z), q]; simp, CdOk.nil⟩⟩
  by_cases hbe : b = e
  · subst hbe; exact heo
  · exact ⟨u, k b u hbe q⟩
theorem Un.mono (u : Un fs ex H H1 h h1) (hs : ∀ b ∈ fs, b ∈ fs') (hx : ∀ b ∈ ex, b ∈ ex') : Un fs' ex' H H1 h h1 :=
  ⟨fun b ob q n hb he => u.keep b ob q n (fun z => hb (hs b z)) fun z => he (hx b z), fun _ _ q n _ he => u.any q n fun z => he (hx _ z), fun b ob q n he => u.free b ob q n fun z => he (hx b z), fun b ob q he => u.there b ob q fun z => he (hx b z), u.tups, u.frzs, u.tbls⟩
end

/-- the tables that the base names are tracked -/
def TbOk (base : Heap) (H : Hp) : Prop := ∀ q ∈ base.life.ids, ∃ ps, H q.2 = some (.tbl ps) ∧ CdOk H ps.toList
theorem TbOk.un {fs ex : List Addr} {base : Heap} {H H' : Hp} {h h' : Heap} (t : TbOk base H) (u : Un fs ex H H' h h') : TbOk base H' := fun q hq =>
  let ⟨_, e, c⟩ := t q hq
  let ⟨_, e', c'⟩ := u.tbls _ _ e
  ⟨_, e', (c.mono u.frzs).app c'⟩

/-! ### the heap without what is tracked -/
def trk (h : Heap) (H : Hp) : List Addr := (List.range h.objs.size).filter fun a => (H a).isSome
def hidT (h : Heap) (H : Hp) : Heap := PySem.W.hideAll h (trk h H)
theorem hidT_size (h : Heap) (H : Hp) : (hidT h H).objs.size = h.objs.size := PySem.W.hideAll_size _ _
theorem hidT_get {h : Heap} {H : Hp} {b : Addr} {o : Obj} (e : h.get? b = some o) (n : H b = none) : (hidT h H).get? b = some o :=
  PySem.W.hideAll_get _ e fun hm => by
    have q : (H b).isSome = true := (List.mem_filter.mp hm).2
    rw [n] at q; simp at q
theorem of_hidT {h : Heap} {H : Hp} {b : Addr} {o : Obj} (e : (hidT h H).get? b = some o) : h.get? b = some o ∧ H b = none := by
  have e' : h.get? b = some o := PySem.W.of_hideAll (trk h H) e
  refine ⟨e', ?_⟩
  cases q : H b with
  | none => rfl
  | some x =>
    have hm : b ∈ trk h H := List.mem_filter.mpr ⟨List.mem_range.mpr (Heap.lt_size e'), by simp [q]⟩
    have z : (hidT h H).get? b = none := PySem.W.hideAll_none (trk h H) hm
    rw [z] at e; cases e

/-! ### OpenK's ledger, filled with every new object but one -/
def allNews (g h : Heap) (L : Addr) : List (Addr × Obj) := (List.range h.objs.size).filterMap fun a => if a = L ∨ (g.get? a).isSome = true then none else (h.get? a).map fun o => (a, o)
def rest (g h : Heap) (L d : Addr) : List (Addr × Obj) := (allNews g h L).filter fun p => decide (p.1 ≠ d)
end L2

namespace L2
open PySem PySem.Spec PyProof.Rows

/-- the module's facts, over the base: the heap at the law's entry without what is tracked there -/
structure Mod (K : PySem.W.Frag) (mg : Str → Option Value) (base : Heap) : Prop where
  kin : K.In base
  glob : base.Ns mainGlobals mg
  blt : ∃ mb, base.Ns builtinsNs mb ∧ ∀ x : Str, x ≠ "__name__" → mb x = bootBuiltins x
  nolimit : base.NoLimit

/-- the context: a def's body (or a comprehension's block) running. base: fixed through the whole law; s₀, H₀: the entry; outer: the frames whose slots others may change (a def's callers); stack: all frames that run;
   ex: iterators that were made ahead of the entry and are walked here (a comprehension's); fn: the names whose cells were made at the entry (a def: all; a comprehension's block: its own); calm: not within an except suite; pn: pins that every state bears; xe: what is wanted of an exception that leaves the code -/
structure Cx where
  prog : Program
  w : World
  K : PySem.W.Frag
  mg : Str → Option Value
  base : Heap
  A : Around
  N : List Str
  s_0 : Shared
  H_0 : Hp
  env : Env
  outer : List Env
  stack : List Env
  ex : List Addr
  fn : Str → Bool
  calm : Bool
  pn : List (Addr × Obj)
  xe : Value → Shared → Prop
/-- the callers' frames -/
def frs (l : List Env) : List Addr := l.filterMap (·.frame)
abbrev Cx.fs (X : Cx) : List Addr := frs X.outer

def Vis (sc : Scope) (x : Str) : Prop := sc.names.lookup x = some .local ∨ sc.names.lookup x = some .cell ∨ sc.names.lookup x = some .free
def Loc (sc : Scope) (x : Str) : Prop := sc.names.lookup x = some .local ∨ sc.names.lookup x = some .cell
def Look (env : Env) (h : Heap) (m : Str → Option Value) (x : Str) (u : Value) : Prop :=
  (env.kindOf x = some .local ∧ m x = some u) ∨ ((env.kindOf x = some .cell ∨ env.kindOf x = some .free) ∧ ∃ c, env.cells.lookup x = some c ∧ h.IsCell c (some u))

structure Cx.Ok (X : Cx) : Prop where
  mod : Mod X.K X.mg X.base
  kind : X.env.scope.kind = .function
  glob : X.env.globals = mainGlobals
  blt : X.env.builtins = builtinsNs
  above : X.s_0.heap.objs.size ≤ X.env.locals
  inj : ∀ x y c, X.env.cells.lookup x = some c → X.env.cells.lookup y = some c → x = y
  has : ∀ x, (X.env.kindOf x = some .cell ∨ X.env.kindOf x = some .free) → ∃ c, X.env.cells.lookup x = some c
  cab : ∀ x c, X.fn x = true → X.env.cells.lookup x = some c → X.s_0.heap.objs.size ≤ c
  hd : X.calm = true → X.A.handled = none
  frames : X.A.frames = some X.stack
  stk : X.stack = X.outer ∨ (X.stack = X.env :: X.outer ∧ X.env.frame = some X.env.locals)
  exf : ∀ b ∈ X.ex, b ≠ X.env.locals ∧ ∀ x c, X.env.cells.lookup x = some c → c ≠ b
  bs : ∀ b o, X.base.get? b = some o → X.s_0.heap.get? b = some o ∧ X.H_0 b = none
  bsz : X.base.objs.size ≤ X.s_0.heap.objs.size
  noex : ∀ b o, X.base.get? b = some o → b ∉ X.ex
  exfs : ∀ b ∈ X.ex, b ∉ X.fs
  funs : X.s_0.heap.FunFrames X.base X.outer
  frf : ∀ b ∈ X.fs, X.H_0 b = none
  tb : TbOk X.base X.H_0

/-- the generators that stood stand as they were -/
def GG (a b : Array GenState) : Prop := a.size ≤ b.size ∧ ∀ i, i < a.size → b[i]? = a[i]?
theorem GG.refl (a : Array GenState) : GG a a := ⟨Nat.le_refl _, fun _ _ => rfl⟩
theorem GG.trans {a b c : Array GenState} (x : GG a b) (y : GG b c) : GG a c := ⟨Nat.le_trans x.1 y.1, fun i h => (y.2 i (Nat.lt_of_lt_of_le h x.1)).trans (x.2 i h)⟩
structure Inv (X : Cx) (pins : List (Addr × Obj)) (σ : List (Option V)) (H : Hp) (s : Shared) : Prop where
  ok : X.Ok
  os : s.os = X.s_0.os
  bare : AllBare s.gens ∧ GG X.s_0.gens s.gens
  base : Un X.fs X.ex X.H_0 H X.s_0.heap s.heap
  loc : ∃ m, s.heap.Ns X.env.locals m ∧ ∀ (i : Nat) (x : Str) (v : V), X.N[i]? = some x → σ[i]? = some (some v) → Vis X.env.scope x → ∃ u, RelV v u ∧ Look X.env s.heap m x u
  cell : ∀ x c, X.env.cells.lookup x = some c → ∃ v, s.heap.IsCell c v
  free : H X.env.locals = none
  freeC : ∀ x c, X.env.cells.lookup x = some c → H c = none
  pin : ∀ p ∈ X.pn ++ pins, s.heap.get? p.1 = some p.2 ∧ H p.1 = none ∧ p.1 ≠ X.env.locals ∧ p.1 ∉ X.fs ∧ ∀ v, p.2.data ≠ .cell v
  hok : HOk X.prog X.w H s.heap
  len : σ.length = X.N.length

section
variable {X : Cx} {pins : List (Addr × Obj)} {σ : List (Option V)} {H H' : Hp} {s : Shared} {h' : Heap}

theorem Cx.Ok.nofr (ok : X.Ok) {b : Addr} {o : Obj} (e : X.base.get? b = some o) : b ∉ X.fs := fun hb => by
  have := (ok.funs.mem hb).1
  rw [e] at this; cases this
theorem Inv.bs (I : Inv X pins σ H s) : ∀ b o, X.base.get? b = some o → s.heap.get? b = some o ∧ H b = none := fun b o e =>
  ⟨I.base.keep b o (I.ok.bs b o e).1 (I.ok.bs b o e).2 (I.ok.nofr e) (I.ok.noex b o e), I.base.free b o (I.ok.bs b o e).1 (I.ok.bs b o e).2 (I.ok.noex b o e)⟩
theorem Inv.bk (I : Inv X pins σ H s) : ∀ b o, X.base.get? b = some o → s.heap.get? b = some o := fun b o e => (I.bs b o e).1
theorem Inv.mod (I : Inv X pins σ H s) : Mod X.K X.mg X.base := I.ok.mod
theorem Inv.kIn (I : Inv X pins σ H s) : X.K.In s.heap := I.ok.mod.kin.keeps I.bk
theorem Inv.nolimit (I : Inv X pins σ H s) : s.heap.NoLimit := I.ok.mod.nolimit.keeps I.bk
/-- the frame over the base: for OpenK's rules (K.In X.base is I.mod.kin) -/
theorem Inv.fr (I : Inv X pins σ H s) : ∃ m, Fr X.base X.env.locals s.heap m :=
  let ⟨m, hn, _⟩ := I.loc
  ⟨m, hn, I.bk, Nat.le_trans I.ok.bsz I.ok.above⟩
theorem Inv.lt (I : Inv X pins σ H s) : X.env.locals < s.heap.objs.size := let ⟨_, hn, _⟩ := I.loc; hn.lt
theorem Inv.sz (I : Inv X pins σ H s) : X.s_0.heap.objs.size ≤ s.heap.objs.size := Nat.le_trans I.ok.above (Nat.le_of_lt I.lt)
theorem Inv.nofs (I : Inv X pins σ H s) {a : Addr} (h : s.heap.objs.size ≤ a) : a ∉ X.fs := fun hb => by
  obtain ⟨_, o, ho, _⟩ := I.ok.funs.mem hb
  exact absurd (Nat.lt_of_lt_of_le (Heap.lt_size ho) (Nat.le_trans I.sz h)) (Nat.lt_irrefl _)
theorem Inv.cne (I : Inv X pins σ H s) : ∀ x c, X.env.cells.lookup x = some c → c ≠ X.env.locals := fun x c e z => by
  obtain ⟨v, o, ho, hd⟩ := I.cell x c e
  obtain ⟨m, ⟨o', es, ep, ho', hd', _⟩, _⟩ := I.loc
  rw [z, ho'] at ho; cases ho; rw [hd'] at hd; cases hd
theorem Inv.funs (I : Inv X pins σ H s) : s.heap.FunFrames X.base X.outer := by
  have all : ∀ (l : List Env), (∀ b ∈ frs l, b ∈ X.fs) → X.s_0.heap.FunFrames X.base l → s.heap.FunFrames X.base l := by
    intro l
    induction l with
    | nil => intro _ _; trivial
    | cons env r ih =>
      intro hs hl
      obtain ⟨hk, ⟨L, o, hf, hn, ho, hd⟩, hr⟩ := hl
      have hL : L ∈ X.fs := hs L (by unfold frs; rw [List.filterMap_cons, hf]; exact List.mem_cons_self)
      obtain ⟨sl, e⟩ := I.base.slot L o ho (I.ok.frf L hL) hL fun z => I.ok.exfs L z hL
      exact ⟨hk, ⟨L, _, hf, hn, e, hd⟩, ih (fun b hb => hs b (by unfold frs; rw [List.filterMap_cons, hf]; exact List.mem_cons_of_mem _ hb)) hr⟩
  exact all X.outer (fun _ hb => hb) I.ok.funs

/-- the frames that run, for a call -/
theorem Inv.stack (I : Inv X pins σ H s) : s.heap.FunFrames X.base X.stack := by
  rcases I.ok.stk with e | ⟨e, hf⟩
  · rw [e]; exact I.funs
  · rw [e]
    obtain ⟨m, hn, _⟩ := I.loc
    refine .cons (by rw [I.ok.kind]; decide) hf hn ?_ I.funs
    exact Heap.get?_none_of_le (Nat.le_trans I.ok.bsz I.ok.above)
theorem Inv.stkSub (I : Inv X pins σ H s) : ∀ b ∈ frs X.stack, b ∈ X.env.locals :: X.fs := fun b hb => by
  rcases I.ok.stk with e | ⟨e, hf⟩
  · rw [e] at hb; exact List.mem_cons_of_mem _ hb
  · rw [e] at hb
    unfold frs at hb
    rw [List.filterMap_cons, hf] at hb
    exact hb
theorem Inv.stkFree (I : Inv X pins σ H s) : ∀ b ∈ frs X.stack, H b = none := fun b hb => by
  rcases List.mem_cons.mp (I.stkSub b hb) with e | hb
  · rw [e]; exact I.free
  · obtain ⟨_, o, ho, _⟩ := I.ok.funs.mem hb
    exact I.base.free b o ho (I.ok.frf b hb) fun z => I.ok.exfs b z hb

/-- THE STEP: the untracked objects but the frame and the records at ch are kept (the callers' frames up to slots), the frame's map is kept, the new abstract heap is held -/
theorem Inv.step {g' : Array GenState} {t' : Nat} {d' : Drawn} {ch : List Addr} (I : Inv X pins σ H s)
    (hch : ∀ b ∈ ch, (b ∈ X.ex ∨ X.s_0.heap.objs.size ≤ b) ∧ b ≠ X.env.locals ∧ (∀ x c, X.env.cells.lookup x = some c → c ≠ b) ∧ ∀ p ∈ X.pn ++ pins, p.1 ≠ b)
    (keep : ∀ b o, b ≠ X.env.locals → b ∉ X.fs → b ∉ ch → s.heap.get? b = some o → H b = none → h'.get? b = some o)
    (slot : ∀ b o, b ≠ X.env.locals → b ∈ X.fs → b ∉ ch → s.heap.get? b = some o → H b = none → ∃ sl, h'.get? b = some { o with slots := sl }) (free : ∀ b o, b ∉ ch → s.heap.get? b = some o → H b = none → H' b = none)
    (there : ∀ b o, b ∉ ch → s.heap.get? b = some o → ∃ o', h'.get? b = some o')
    (tups : ∀ b xs, H b = some (.tup xs) → H' b = some (.tup xs)) (frzs : ∀ b o u, H b = some (.frz o u) → H' b = some (.frz o u)) (tbls : ∀ b ps, H b = some (.tbl ps) → ∃ more, H' b = some (.tbl (ps ++ more)) ∧ CdOk H' more.toList)
    (ns : ∀ m, s.heap.Ns X.env.locals m → h'.Ns X.env.locals m) (hok : HOk X.prog X.w H' h') (hg : AllBare g' ∧ GG X.s_0.gens g') :
    Inv X pins σ H' { s with heap := h', gens := g', drawn := d', toks := t' } := by
  have neL : ∀ b o, X.s_0.heap.get? b = some o → b ≠ X.env.locals := fun b o e => Nat.ne_of_lt (Nat.lt_of_lt_of_le (Heap.lt_size e) I.ok.above)
  have neC : ∀ b o, X.s_0.heap.get? b = some o → b ∉ X.ex → b ∉ ch := fun b o e hx hb => by
    rcases (hch b hb).1 with z | z
    · exact hx z
    · exact absurd (Nat.lt_of_lt_of_le (Heap.lt_size e) z) (Nat.lt_irrefl _)
  have cellK : ∀ x c, X.env.cells.lookup x = some c → ∀ v, s.heap.IsCell c v → h'.IsCell c v := fun x c e v ⟨o, ho, hd⟩ => by
    have nch : c ∉ ch := fun z => (hch c z).2.2.1 x c e rfl
    by_cases hc : c ∈ X.fs
    · obtain ⟨sl, q⟩ := slot c o (I.cne x c e) hc nch ho (I.freeC x c e)
      exact ⟨_, q, hd⟩
    · exact ⟨o, keep c o (I.cne x c e) hc nch ho (I.freeC x c e), hd⟩
  refine ⟨I.ok, I.os, hg, ⟨fun b o e n hb hx => ?_, fun b o e n hb hx => ?_, fun b o e n hx => ?_, fun b o e hx => ?_, fun b xs e => tups b xs (I.base.tups b xs e), fun b o xs e => frzs b o xs (I.base.frzs b o xs e), fun b ps e => ?_⟩, ?_, fun x c e => ?_, ?_, fun x c e => ?_, fun p hp => ?_, hok, I.len⟩
  · exact keep b o (neL b o e) hb (neC b o e hx) (I.base.keep b o e n hb hx) (I.base.free b o e n hx)
  · obtain ⟨sl, e1⟩ := I.base.slot b o e n hb hx
    obtain ⟨sl', e2⟩ := slot b _ (neL b o e) hb (neC b o e hx) e1 (I.base.free b o e n hx)
    exact ⟨sl', e2⟩
  · obtain ⟨o', e1⟩ := I.base.there b o e hx
    exact free b o' (neC b o e hx) e1 (I.base.free b o e n hx)
  · obtain ⟨o', e1⟩ := I.base.there b o e hx
    exact there b o' (neC b o e hx) e1
  · obtain ⟨m1, e1, c1⟩ := I.base.tbls b ps e
    obtain ⟨m2, e2, c2⟩ := tbls b _ e1
    exact ⟨m1 ++ m2, by rw [e2, Array.append_assoc], (c1.mono frzs).app c2⟩
  · obtain ⟨m, hn, hl⟩ := I.loc
    refine ⟨m, ns m hn, fun i x v e1 e2 e3 => ?_⟩
    obtain ⟨u, r, l⟩ := hl i x v e1 e2 e3
    refine ⟨u, r, ?_⟩
    rcases l with l | ⟨k, c, e, z⟩
    · exact .inl l
    · exact .inr ⟨k, c, e, cellK x c e _ z⟩
  · obtain ⟨v, z⟩ := I.cell x c e
    exact ⟨v, cellK x c e v z⟩
  · obtain ⟨m, ⟨o, _, _, ho, _⟩, _⟩ := I.loc
    exact free _ o (fun z => (hch _ z).2.1 rfl) ho I.free
  · obtain ⟨v, o, ho, hd⟩ := I.cell x c e
    exact free c o (fun z => (hch c z).2.2.1 x c e rfl) ho (I.freeC x c e)
  · obtain ⟨e, n, ne, nf, d⟩ := I.pin p hp
    have nch : p.1 ∉ ch := fun z => (hch p.1 z).2.2.2 p hp rfl
    exact ⟨keep p.1 p.2 ne nf nch e n, free p.1 p.2 nch e n, ne, nf, d⟩
/-- .. where the frame's own object is kept too -/
theorem Inv.un {t' : Nat} (I : Inv X pins σ H s) (u : Un X.fs [] H H' s.heap h') (hok : HOk X.prog X.w H' h') : Inv X pins σ H' { s with heap := h', toks := t' } := by
  obtain ⟨m, ⟨o, es, ep, ho, r⟩, _⟩ := id I.loc
  obtain ⟨sl, hL⟩ := u.any ho I.free (by simp)
  exact I.step (g' := s.gens) (d' := s.drawn) (ch := []) (fun _ z => nomatch z) (fun b o _ hb _ e n => u.keep b o e n hb (by simp)) (fun b o _ hb _ e n => u.slot b o e n hb (by simp)) (fun b o _ e n => u.free b o e n (by simp)) (fun b o _ e => u.there b o e (by simp)) u.tups u.frzs u.tbls (fun m' hm => by
    obtain ⟨o', es', ep', ho', r'⟩ := hm
    rw [ho] at ho'; cases ho'
    exact ⟨_, es', ep', hL, r'⟩) hok I.bare
/-- behind a call (or a comprehension's block): the slots of this frame may have changed too, the records at ch may have turned -/
theorem Inv.call {g' : Array GenState} {t' : Nat} {d' : Drawn} {ch : List Addr} (I : Inv X pins σ H s) (u : Un (frs X.stack) ch H H' s.heap h') (hok : HOk X.prog X.w H' h') (hg : AllBare g' ∧ GG s.gens g')
    (hch : ∀ b ∈ ch, (b ∈ X.ex ∨ X.s_0.heap.objs.size ≤ b) ∧ b ≠ X.env.locals ∧ (∀ x c, X.env.cells.lookup x = some c → c ≠ b) ∧ ∀ p ∈ X.pn ++ pins, p.1 ≠ b) :
    Inv X pins σ H' { s with heap := h', gens := g', drawn := d', toks := t' } := by
  obtain ⟨m, ⟨o, es, ep, ho, r⟩, _⟩ := id I.loc
  obtain ⟨sl, hL⟩ := u.any ho I.free fun z => (hch _ z).2.1 rfl
  exact I.step (ch := ch) hch (fun b o hL hb hc e n => u.keep b o e n (fun z => (List.mem_cons.mp (I.stkSub b z)).elim hL hb) hc) (fun b o _ _ hc e n => u.any e n hc) (fun b o hc e n => u.free b o e n hc) (fun b o hc e => u.there b o e hc) u.tups u.frzs u.tbls (fun m' hm => by
    obtain ⟨o', es', ep', ho', r'⟩ := hm
    rw [ho] at ho'; cases ho'
    exact ⟨_, es', ep', hL, r'⟩) hok ⟨hg.1, I.bare.2.trans hg.2⟩
/-- an untracked record of ours (an iterator) has turned -/
theorem Inv.turned {t' : Nat} {it : Addr} (I : Inv X pins σ H s) (k : ∀ b o, b ≠ it → s.heap.get? b = some o → h'.get? b = some o) (hn : H it = none) (hL : it ≠ X.env.locals)
    (h1 : it ∈ X.ex ∨ X.s_0.heap.objs.size ≤ it) (h2 : ∀ x c, X.env.cells.lookup x = some c → c ≠ it) (h3 : ∀ p ∈ X.pn ++ pins, p.1 ≠ it) : Inv X pins σ H { s with heap := h', toks := t' } := by
  have nit : ∀ b u, H b = some u → b ≠ it := fun b u e z => by rw [z, hn] at e; cases e
  refine I.step (g' := s.gens) (d' := s.drawn) (ch := [it]) (fun b hb => ?_) (fun b o _ _ hc e _ => k b o (fun z => hc (by simp [z])) e) (fun b o _ _ hc e _ => ⟨o.slots, k b o (fun z => hc (by simp [z])) e⟩) (fun _ _ _ _ n => n)
    (fun b o hc e => ⟨o, k b o (fun z => hc (by simp [z])) e⟩) (fun _ _ e => e) (fun _ _ _ e => e) (fun b ps e => ⟨#[], by rw [e]; simp, CdOk.nil⟩) (fun m hm => ?_) (fun b u e => ?_) I.bare
  · have e : b = it := by simpa using hb
    subst e
    exact ⟨h1, hL, h2, h3⟩
  · obtain ⟨o, es, ep, ho, r⟩ := hm
    exact ⟨o, es, ep, k _ o (Ne.symm hL) ho, r⟩
  · refine (I.hok b u e).stay (fun c v hc q => k c v ?_ q) (fun _ q => q) fun _ _ q => q
    rcases hc with z | z
    · rw [z]; exact nit b u e
    · exact nit c _ z
theorem Inv.tok (I : Inv X pins σ H s) (t : Nat) : Inv X pins σ H { s with toks := t } := I.un (h' := s.heap) (t' := t) Un.refl I.hok
/-- all objects kept -/
theorem Inv.kept {t' : Nat} (I : Inv X pins σ H s) (k : ∀ b u, s.heap.get? b = some u → h'.get? b = some u) : Inv X pins σ H { s with heap := h', toks := t' } := I.un (Un.kept k) (I.hok.kept k)
/-- a new object laid and tracked -/
theorem Inv.laid {a : Addr} {o : HO} {t' : Nat} (I : Inv X pins σ H s) (k : ∀ b u, s.heap.get? b = some u → h'.get? b = some u) (hp : s.heap.objs.size ≤ a) (new : ObjOk X.prog X.w (upd H a o) h' a o) :
    Inv X pins σ (upd H a o) { s with heap := h', toks := t' } := I.un (Un.laid k hp (I.hok.fresh hp)) (I.hok.laid k hp new)
/-- an object written -/
theorem Inv.write {x e : Addr} {o : HO} {t' : Nat} (I : Inv X pins σ H s) (mu : Mut (H x)) (he : e = x ∨ H e = some (.own x)) (k : ∀ b u, b ≠ e → s.heap.get? b = some u → h'.get? b = some u) (heo : ∃ u, h'.get? e = some u)
    (new : ObjOk X.prog X.w (upd H x o) h' x o) : Inv X pins σ (upd H x o) { s with heap := h', toks := t' } := I.un (Un.write mu he k heo) (I.hok.write mu he k heo new)
/-- forgetting slots, pins -/
theorem Inv.weak {σ' : List (Option V)} (I : Inv X pins σ H s) (hl : σ'.length = σ.length) (w : ∀ (i : Nat) v, σ'[i]? = some (some v) → σ[i]? = some (some v)) : Inv X pins σ' H s :=
  ⟨I.ok, I.os, I.bare, I.base, let ⟨m, hn, hl'⟩ := I.loc; ⟨m, hn, fun i x v e1 e2 e3 => hl' i x v e1 (w i v e2) e3⟩, I.cell, I.free, I.freeC, I.pin, I.hok, hl.trans I.len⟩
theorem Inv.pins_of {pins' : List (Addr × Obj)} (I : Inv X pins σ H s) (h : ∀ p ∈ pins', s.heap.get? p.1 = some p.2 ∧ H p.1 = none ∧ p.1 ≠ X.env.locals ∧ p.1 ∉ X.fs ∧ ∀ v, p.2.data ≠ .cell v) : Inv X pins' σ H s :=
  ⟨I.ok, I.os, I.bare, I.base, I.loc, I.cell, I.free, I.freeC, fun p hp => (List.mem_append.mp hp).elim (fun z => I.pin p (List.mem_append_left _ z)) (h p), I.hok, I.len⟩

theorem nodup_ix {N : List Str} (hN : N.Nodup) {i j : Nat} {x : Str} (a : N[i]? = some x) (b : N[j]? = some x) : i = j := by
  obtain ⟨h1, e1⟩ := List.getElem?_eq_some_iff.mp a
  obtain ⟨h2, e2⟩ := List.getElem?_eq_some_iff.mp b
  exact (List.getElem_inj hN).mp (e1.trans e2.symm)

/-- a name is stored; what changed -/
theorem store_ok2 {M : Model} {A : Around} {E : Value → Shared → Prop} {i : Nat} {x : Str} {v : V} {u : Value} {Q : Unit → Shared → Prop} (I : Inv X pins σ H s) (hN : X.N.Nodup) (hi : X.N[i]? = some x) (hx : Loc X.env.scope x) (r : RelV v u)
    (h : ∀ s', Inv X pins (σ.set i (some v)) H s' → (∃ a, Heap.SameBut a s.heap s'.heap ∧ (a = X.env.locals ∨ X.env.cells.lookup x = some a)) → Q () s') (hf : X.fn x = true ∨ X.env.scope.names.lookup x = some .local := by first | exact .inl rfl | exact .inr rfl | assumption) : wpAny M A (storeName X.env x u) Q E s := by
  obtain ⟨m, hn, hl⟩ := id I.loc
  have hcls : (X.env.scope.kind == .class || (X.env.scope.kind == .module && X.env.locals != X.env.globals)) = false := by rw [I.ok.kind]; rfl
  have hiσ : i < σ.length := by rw [I.len]; exact (List.getElem?_eq_some_iff.mp hi).1
  have cne := I.cne
  have tracked : ∀ {a : Addr} {h' : Heap}, (∃ o, s.heap.get? a = some o ∧ H a = none) → Heap.SameBut a s.heap h' → HOk X.prog X.w H h' := fun {a h'} ha hs b ob e => by
    obtain ⟨_, _, hfree⟩ := ha
    refine (I.hok b ob e).stay (fun c w' hc q => (hs.2 c ?_).trans q) (fun _ q => q) fun _ _ q => q
    rintro rfl
    rcases hc with rfl | hc
    · rw [hfree] at e; cases e
    · rw [hfree] at hc; cases hc
  rcases hx with hk | hk
  · refine wpAny_storeName_local hk hn (fun h' hn' hs => ?_) hcls
    obtain ⟨oL, _, _, hoL, _⟩ := id hn
    refine h _ ⟨I.ok, I.os, I.bare, ⟨fun b o e n hb hx => ?_, fun b o e n hb hx => ?_, I.base.free, fun b o e hx => ?_, I.base.tups, I.base.frzs, I.base.tbls⟩, ⟨_, hn', fun j y v' e1 e2 e3 => ?_⟩, fun y c e => ?_, I.free, I.freeC, fun p hp => ?_, tracked ⟨oL, hoL, I.free⟩ hs, by simpa using I.len⟩ ⟨_, hs, .inl rfl⟩
    · exact (hs.2 b (Nat.ne_of_lt (Nat.lt_of_lt_of_le (Heap.lt_size e) I.ok.above))).trans (I.base.keep b o e n hb hx)
    · obtain ⟨sl, e1⟩ := I.base.slot b o e n hb hx
      exact ⟨sl, (hs.2 b (Nat.ne_of_lt (Nat.lt_of_lt_of_le (Heap.lt_size e) I.ok.above))).trans e1⟩
    · obtain ⟨o', e1⟩ := I.base.there b o e hx
      exact ⟨o', (hs.2 b (Nat.ne_of_lt (Nat.lt_of_lt_of_le (Heap.lt_size e) I.ok.above))).trans e1⟩
    · by_cases hj : j = i
      · subst hj
        rw [hi] at e1; cases e1
        rw [List.getElem?_set_self hiσ] at e2
        cases e2
        exact ⟨u, r, .inl ⟨hk, by simp⟩⟩
      · rw [List.getElem?_set_ne (Ne.symm hj)] at e2
        obtain ⟨u', r', q⟩ := hl j y v' e1 e2 e3
        refine ⟨u', r', ?_⟩
        rcases q with ⟨k, e⟩ | ⟨k, c, e, z⟩
        · refine .inl ⟨k, ?_⟩
          have : y ≠ x := fun e => hj (nodup_ix hN e1 (e ▸ hi))
          simp [this, e]
        · exact .inr ⟨k, c, e, z.sameBut hs (cne y c e)⟩
    · obtain ⟨w', z⟩ := I.cell y c e
      exact ⟨w', z.sameBut hs (cne y c e)⟩
    · obtain ⟨e, n, ne, nf, d⟩ := I.pin p hp
      exact ⟨(hs.2 p.1 ne).trans e, n, ne, nf, d⟩
  · have hfn : X.fn x = true := by
      rcases hf with z | z
      · exact z
      · rw [z] at hk; cases hk
    obtain ⟨c, hc⟩ := I.ok.has x (.inl hk)
    obtain ⟨w', z⟩ := I.cell x c hc
    refine wpAny_storeName_cell I.ok.kind hk hc z (fun h' hc' hs => ?_)
    obtain ⟨oc, hoc, hocd⟩ := id z
    refine h { s with heap := h' } ⟨I.ok, I.os, I.bare, ⟨fun b o e n hb hx => ?_, fun b o e n hb hx => ?_, I.base.free, fun b o e hx => ?_, I.base.tups, I.base.frzs, I.base.tbls⟩, ⟨m, hn.sameBut hs (Ne.symm (cne x c hc)), fun j y v' e1 e2 e3 => ?_⟩, fun y c' e => ?_, I.free, I.freeC, fun p hp => ?_, tracked ⟨oc, hoc, I.freeC x c hc⟩ hs, by simpa using I.len⟩ ⟨c, hs, .inr hc⟩
    · exact (hs.2 b (Nat.ne_of_lt (Nat.lt_of_lt_of_le (Heap.lt_size e) (I.ok.cab x c hfn hc)))).trans (I.base.keep b o e n hb hx)
    · obtain ⟨sl, e1⟩ := I.base.slot b o e n hb hx
      exact ⟨sl, (hs.2 b (Nat.ne_of_lt (Nat.lt_of_lt_of_le (Heap.lt_size e) (I.ok.cab x c hfn hc)))).trans e1⟩
    · obtain ⟨o', e1⟩ := I.base.there b o e hx
      exact ⟨o', (hs.2 b (Nat.ne_of_lt (Nat.lt_of_lt_of_le (Heap.lt_size e) (I.ok.cab x c hfn hc)))).trans e1⟩
    · by_cases hj : j = i
      · subst hj
        rw [hi] at e1; cases e1
        rw [List.getElem?_set_self hiσ] at e2
        cases e2
        exact ⟨u, r, .inr ⟨.inl hk, c, hc, hc'⟩⟩
      · rw [List.getElem?_set_ne (Ne.symm hj)] at e2
        obtain ⟨u', r', q⟩ := hl j y v' e1 e2 e3
        refine ⟨u', r', ?_⟩
        rcases q with q | ⟨k, c', e, z'⟩
        · exact .inl q
        · refine .inr ⟨k, c', e, z'.sameBut hs ?_⟩
          rintro rfl
          exact hj (nodup_ix hN e1 (I.ok.inj _ _ _ e hc ▸ hi))
    · by_cases hcc : c' = c
      · subst hcc; exact ⟨_, hc'⟩
      · obtain ⟨w2, z2⟩ := I.cell y c' e
        exact ⟨w2, z2.sameBut hs hcc⟩
    · obtain ⟨e, n, ne, nf, d⟩ := I.pin p hp
      refine ⟨(hs.2 p.1 ?_).trans e, n, ne, nf, d⟩
      intro q
      rw [q, hoc] at e
      have q' : oc = p.2 := Option.some.inj e
      exact d w' (by rw [← q']; exact hocd)
theorem store_ok {M : Model} {A : Around} {E : Value → Shared → Prop} {i : Nat} {x : Str} {v : V} {u : Value} {Q : Unit → Shared → Prop} (I : Inv X pins σ H s) (hN : X.N.Nodup) (hi : X.N[i]? = some x) (hx : Loc X.env.scope x) (r : RelV v u)
    (h : ∀ s', Inv X pins (σ.set i (some v)) H s' → Q () s') (hf : X.fn x = true ∨ X.env.scope.names.lookup x = some .local := by first | exact .inl rfl | exact .inr rfl | assumption) : wpAny M A (storeName X.env x u) Q E s :=
  store_ok2 I hN hi hx r (fun s' I' _ => h s' I') hf
/-- behind a call or a block, the state as it is -/
theorem Inv.call' {s' : Shared} {ch : List Addr} (I : Inv X pins σ H s) (ho : s'.os = s.os) (u : Un (frs X.stack) ch H H' s.heap s'.heap) (hok : HOk X.prog X.w H' s'.heap) (hg : AllBare s'.gens ∧ GG s.gens s'.gens)
    (hch : ∀ b ∈ ch, (b ∈ X.ex ∨ X.s_0.heap.objs.size ≤ b) ∧ b ≠ X.env.locals ∧ (∀ x c, X.env.cells.lookup x = some c → c ≠ b) ∧ ∀ p ∈ X.pn ++ pins, p.1 ≠ b) : Inv X pins σ H' s' := by
  obtain ⟨h', g', d', t', o'⟩ := s'
  have e : o' = s.os := ho
  subst e
  exact I.call (g' := g') (t' := t') (d' := d') u hok hg hch
end

/-! ### the judgements -/
/-- an exception: its class, its own dict's address (where it has one), the abstract heap behind it -/
abbrev XK := Value → Option Addr → Hp → Prop
abbrev St := List (Option V)
abbrev VK := V → Hp → Prop
/-- an expression's reading; a test's; an argument list's -/
abbrev TE := St → Hp → VK → Prop
abbrev TT := St → Hp → (Bool → Hp → Prop) → Prop
abbrev TA := St → Hp → (List V → Hp → Prop) → Prop
/-- what is wanted behind a statement -/
structure Ends where
  nx : St → Hp → Prop
  rt : VK
  bk : St → Hp → Prop := fun _ _ => False
  ct : St → Hp → Prop := fun _ _ => False
abbrev TS := Ends → St → Hp → Prop

def EP (X : Cx) (pins : List (Addr × Obj)) (σ : St) (Q : VK) (u : Value) (s' : Shared) : Prop := ∃ v H', Inv X pins σ H' s' ∧ RelV v u ∧ Q v H'
def TP (X : Cx) (pins : List (Addr × Obj)) (σ : St) (Q : Bool → Hp → Prop) (b : Bool) (s' : Shared) : Prop := ∃ H', Inv X pins σ H' s' ∧ Q b H'
def AP (X : Cx) (pins : List (Addr × Obj)) (σ : St) (Q : List V → Hp → Prop) (us : List Value) (s' : Shared) : Prop := ∃ vs H', Inv X pins σ H' s' ∧ Vals vs us ∧ Q vs H'
def SP (X : Cx) (pins : List (Addr × Obj)) (D : Ends) (f : Flow) (s' : Shared) : Prop :=
  match f with
  | .next => ∃ σ' H', Inv X pins σ' H' s' ∧ D.nx σ' H'
  | .brk => ∃ σ' H', Inv X pins σ' H' s' ∧ D.bk σ' H'
  | .cont => ∃ σ' H', Inv X pins σ' H' s' ∧ D.ct σ' H'
  | .ret u => ∃ v σ' H', Inv X pins σ' H' s' ∧ RelV v u ∧ D.rt v H'

def PE (X : Cx) (e : Expr) (t : TE) : Prop :=
  ∀ (pins : List (Addr × Obj)) (s : Shared) (σ : St) (H : Hp) (Q : VK), Inv X pins σ H s → t σ H Q → wpAny (model X.prog X.w) X.A (eval e X.env) (EP X pins σ Q) X.xe s
def PT (X : Cx) (e : Expr) (t : TT) : Prop :=
  ∀ (pins : List (Addr × Obj)) (s : Shared) (σ : St) (H : Hp) (Q : Bool → Hp → Prop), Inv X pins σ H s → t σ H Q → wpAny (model X.prog X.w) X.A (isTrue e X.env (eval e X.env)) (TP X pins σ Q) X.xe s
/-- a test whatever its 'whole' is (and, or) -/
def PW (X : Cx) (e : Expr) (t : TT) : Prop :=
  ∀ (whole : Sem Value) (pins : List (Addr × Obj)) (s : Shared) (σ : St) (H : Hp) (Q : Bool → Hp → Prop), Inv X pins σ H s → t σ H Q → wpAny (model X.prog X.w) X.A (isTrue e X.env whole) (TP X pins σ Q) X.xe s
theorem PW.pt {X : Cx} {e : Expr} {t : TT} (h : PW X e t) : PT X e t := h _
/-- an argument list (no star), from the left -/
def PA (X : Cx) (es : List Expr) (t : TA) : Prop :=
  ∀ (pos : Pos) (pins : List (Addr × Obj)) (s : Shared) (σ : St) (H : Hp) (Q : List V → Hp → Prop), Inv X pins σ H s → t σ H Q → wpAny (model X.prog X.w) X.A (spliced (backTo pos (starEach es X.env))) (AP X pins σ Q) X.xe s
def PS (X : Cx) (st : Stmt) (t : TS) : Prop :=
  ∀ (pins : List (Addr × Obj)) (s : Shared) (σ : St) (H : Hp) (D : Ends), Inv X pins σ H s → t D σ H → wpAny (model X.prog X.w) X.A (exec st X.env) (SP X pins D) X.xe s
def PSs (X : Cx) (st : List Stmt) (t : TS) : Prop :=
  ∀ (pins : List (Addr × Obj)) (s : Shared) (σ : St) (H : Hp) (D : Ends), Inv X pins σ H s → t D σ H → wpAny (model X.prog X.w) X.A (execs st X.env) (SP X pins D) X.xe s
/-- weaken the end -/
theorem thn {α : Type} {t : Sem α} {Q Q' : α → Shared → Prop} {M : Model} {A : Around} {E : Value → Shared → Prop} {s : Shared} (h : wpAny M A t Q E s) (hQ : ∀ a s, Q a s → Q' a s) : wpAny M A t Q' E s := wpAny_mono h hQ fun _ _ x => x
end L2

namespace L2
open PySem PySem.Spec PyProof.Rows
section
variable {X : Cx}

/-! ### names and constants -/
def tVar (i : Nat) : TE := fun σ H Q => ∃ v, σ[i]? = some (some v) ∧ Q v H
def tC (v : V) : TE := fun _ H Q => Q v H
theorem pe_var {i : Nat} {x : Str} {pos : Pos} (hN : X.N[i]? = some x) (hv : Vis X.env.scope x) (hd : (x == ("__debug__" : Str)) = false := by decide) (hcd : (x == ("__classdict__" : Str)) = false := by decide) : PE X (.Name x pos) (tVar i) := by
  intro pins s σ H Q I h
  obtain ⟨v, e, h⟩ := h
  obtain ⟨m, hn, hl⟩ := I.loc
  obtain ⟨u, r, l⟩ := hl i x v hN e hv
  have fin : EP X pins σ Q u s := ⟨v, H, I, r, h⟩
  rcases l with ⟨hk, hm⟩ | ⟨hk, c, hc, hcell⟩
  · exact wpAny_Name (wpAny_loadName_local I.ok.kind hk hn hm fin) hd
  · rcases hk with hk | hk
    · exact wpAny_Name (wpAny_loadName_cell I.ok.kind hk hc hcell fin) hd
    · exact wpAny_Name (wpAny_loadName_free I.ok.kind hk hc hcell fin hcd) hd
theorem pe_int {i j pos} : PE X (.Constant (.int i) j pos) (tC (.int i)) := fun _ _ _ H _ I h => wpAny_Constant_int ⟨.int i, H, I.tok _, ⟨_, rfl⟩, h⟩
theorem pe_bl {b j pos} : PE X (.Constant (.bool b) j pos) (tC (.bl b)) := fun _ _ _ H _ I h => Constant_bool ⟨.bl b, H, I, rfl, h⟩
theorem pe_non {j pos} : PE X (.Constant .none j pos) (tC .non) := fun _ _ _ H _ I h => Constant_none ⟨.non, H, I, rfl, h⟩
theorem pe_str {x j pos} : PE X (.Constant (.str x) j pos) (tC (.str x)) := fun _ _ _ H _ I h => Calls.Constant_str ⟨.str x, H, I.tok _, ⟨_, rfl⟩, h⟩

/-- a global name of the def -/
def Gl (X : Cx) (x : Str) : Prop := X.env.kindOf x = some .globalImplicit
theorem ld_glob {E : Value → Shared → Prop} {pins : List (Addr × Obj)} {s : Shared} {σ : St} {H : Hp} {x : Str} {u : Value} {pos : Pos} {Q : Value → Shared → Prop} (I : Inv X pins σ H s) (hg : Gl X x) (hm : X.mg x = some u) (h : Q u s)
    (hd : (x == ("__debug__" : Str)) = false := by decide) : wpAny (model X.prog X.w) X.A (eval (.Name x pos) X.env) Q E s :=
  Calls.Name_function_global I.ok.kind hg (Calls.loadGlobal_global (by rw [I.ok.glob]; exact I.mod.glob.keeps I.bk) hm h) hd
theorem ld_blt {E : Value → Shared → Prop} {pins : List (Addr × Obj)} {s : Shared} {σ : St} {H : Hp} {x : Str} {u : Value} {pos : Pos} {Q : Value → Shared → Prop} (I : Inv X pins σ H s) (hg : Gl X x) (hm : X.mg x = none) (hv : bootBuiltins x = some u) (h : Q u s)
    (hn : x ≠ "__name__" := by decide) (hd : (x == ("__debug__" : Str)) = false := by decide) : wpAny (model X.prog X.w) X.A (eval (.Name x pos) X.env) Q E s := by
  obtain ⟨mb, h1, h2⟩ := I.mod.blt
  exact Calls.Name_function_global I.ok.kind hg (Calls.loadGlobal_builtin (by rw [I.ok.glob]; exact I.mod.glob.keeps I.bk) hm (by rw [I.ok.blt]; exact h1.keeps I.bk) ((h2 x hn).trans hv) h) hd
theorem pe_bltn {x : Str} {v : V} {u : Value} {pos : Pos} (hg : Gl X x) (hm : X.mg x = none) (hv : bootBuiltins x = some u) (r : RelV v u) (hn : x ≠ "__name__" := by decide) (hd : (x == ("__debug__" : Str)) = false := by decide) : PE X (.Name x pos) (tC v) :=
  fun _ _ _ H _ I h => ld_blt I hg hm hv ⟨v, H, I, r, h⟩ hn hd

/-! ### arithmetic -/
variable {a b : Expr} {ta tb : TE} {pos : Pos}
/-! ### comparisons -/
/-- a comparison as a value, as a test -/
def tB (t : TE) : TT := fun σ H Q => t σ H fun x H1 => ∃ c, x = .bl c ∧ Q c H1
/-- an expression whose value is a bool, as a test -/
theorem pt_val {e : Expr} {t : TE} (h : PE X e t) (he : ∀ whole, isTrue e X.env whole = (do let v ← whole; standAt e.pos; holding [v] (truthy v)) := by intro _; rfl) : PT X e (tB t) := by
  intro pins s σ H Q I hw
  refine isTrue_plain (thn (h pins s σ H _ I hw) fun v s1 ⟨x, H1, I1, r1, q1⟩ => ?_) (he _)
  obtain ⟨d, rfl, q⟩ := q1
  cases r1
  exact wpAny_truthy_bool ⟨H1, I1, q⟩

/-! ### and, or, not -/
variable {tA tB' : TT} {rest : List Expr}
def tAnd (t u : TT) : TT := fun σ H Q => t σ H fun c H1 => if c = true then u σ H1 Q else Q false H1
def tOr (t u : TT) : TT := fun σ H Q => t σ H fun c H1 => if c = true then Q true H1 else u σ H1 Q
def tNot (t : TT) : TT := fun σ H Q => t σ H fun c H1 => Q (!c) H1
theorem pw_and1 (ha : PT X a tA) : PW X (.BoolOp .And [a] pos) tA := by
  intro wh pins s σ H Q I h
  refine isTrue_and (thn (ha pins s σ H Q I h) fun c s1 e => ?_)
  cases c with
  | true => exact isTrue_and_nil e
  | false => exact e
theorem pw_or1 (ha : PT X a tA) : PW X (.BoolOp .Or [a] pos) tA := by
  intro wh pins s σ H Q I h
  refine isTrue_or (thn (ha pins s σ H Q I h) fun c s1 e => ?_)
  cases c with
  | false => exact isTrue_or_nil e
  | true => exact e
theorem pw_and (ha : PT X a tA) (hb : PW X (.BoolOp .And (b :: rest) pos) tB') : PW X (.BoolOp .And (a :: b :: rest) pos) (tAnd tA tB') := by
  intro wh pins s σ H Q I h
  refine isTrue_and (thn (ha pins s σ H _ I h) fun c s1 ⟨H1, I1, q1⟩ => ?_)
  cases c with
  | true => exact hb wh pins s1 σ H1 Q I1 q1
  | false => exact ⟨H1, I1, q1⟩
theorem pw_or (ha : PT X a tA) (hb : PW X (.BoolOp .Or (b :: rest) pos) tB') : PW X (.BoolOp .Or (a :: b :: rest) pos) (tOr tA tB') := by
  intro wh pins s σ H Q I h
  refine isTrue_or (thn (ha pins s σ H _ I h) fun c s1 ⟨H1, I1, q1⟩ => ?_)
  cases c with
  | true => exact ⟨H1, I1, q1⟩
  | false => exact hb wh pins s1 σ H1 Q I1 q1
theorem pt_not (ha : PT X a tA) : PT X (.UnaryOp .Not a pos) (tNot tA) := by
  intro pins s σ H Q I h
  exact isTrue_not (ha pins s σ H (fun c H1 => Q (!c) H1) I h)
/-- .. as values (bools) -/
def tAndV (ta tb : TE) : TE := fun σ H Q => ta σ H fun x H1 => ∃ c, x = .bl c ∧ if c = true then tb σ H1 Q else Q (.bl false) H1
def tOrV (ta tb : TE) : TE := fun σ H Q => ta σ H fun x H1 => ∃ c, x = .bl c ∧ if c = true then Q (.bl true) H1 else tb σ H1 Q
def tNotV (ta : TE) : TE := fun σ H Q => ta σ H fun x H1 => ∃ c, x = .bl c ∧ Q (.bl (!c)) H1
theorem pe_one {op} {t : TE} (h : PE X a t) : PE X (.BoolOp op [a] pos) t := fun pins s σ H Q I hw => BoolOp_one (h pins s σ H Q I hw)
theorem pe_and (ha : PE X a ta) (hb : PE X (.BoolOp .And (b :: rest) pos) tb) : PE X (.BoolOp .And (a :: b :: rest) pos) (tAndV ta tb) := by
  intro pins s σ H Q I h
  refine BoolOp_and (thn (ha pins s σ H _ I h) fun v s1 ⟨x, H1, I1, r1, q1⟩ => ?_)
  obtain ⟨c, rfl, q1⟩ := q1
  cases r1
  refine wpAny_truthy_bool ?_
  cases c with
  | true => exact hb pins s1 σ H1 Q I1 q1
  | false => exact ⟨.bl false, H1, I1, rfl, q1⟩
theorem pe_or (ha : PE X a ta) (hb : PE X (.BoolOp .Or (b :: rest) pos) tb) : PE X (.BoolOp .Or (a :: b :: rest) pos) (tOrV ta tb) := by
  intro pins s σ H Q I h
  refine BoolOp_or (thn (ha pins s σ H _ I h) fun v s1 ⟨x, H1, I1, r1, q1⟩ => ?_)
  obtain ⟨c, rfl, q1⟩ := q1
  cases r1
  refine wpAny_truthy_bool ?_
  cases c with
  | false => exact hb pins s1 σ H1 Q I1 q1
  | true => exact ⟨.bl true, H1, I1, rfl, q1⟩
theorem pe_not (ha : PE X a ta) : PE X (.UnaryOp .Not a pos) (tNotV ta) := by
  intro pins s σ H Q I h
  refine UnaryOp_ (thn (ha pins s σ H _ I h) fun v s1 ⟨x, H1, I1, r1, q1⟩ => ?_)
  obtain ⟨c, rfl, q1⟩ := q1
  cases r1
  exact not_of (wpAny_truthy_bool ⟨.bl (!c), H1, I1, rfl, q1⟩)
/-- a if t else b -/
def tIf (t : TT) (ta tb : TE) : TE := fun σ H Q => t σ H fun c H1 => if c = true then ta σ H1 Q else tb σ H1 Q
end
end L2

namespace L2
open PySem PySem.Spec PyProof.Rows

/-! ### a list, a tuple that is read: tracked, frozen, or an object of the module -/
def SqL (K : PySem.W.Frag) (H : Hp) (a : Addr) (xs : List V) : Prop :=
  Rd H a (.lst xs) ∨
    ∃ (o : Obj) (its : Array Value) (n : Nat), K.lookup a = some o ∧ o.cls = .type "list" ∧ o.dict = none ∧ o.data = .seq its n ∧ its.size ≤ sizeLine ∧ Vals xs its.toList
def SqT (K : PySem.W.Frag) (H : Hp) (a : Addr) (xs : List V) : Prop :=
  Rd H a (.tup xs) ∨
    ∃ (o : Obj) (its : Array Value) (n : Nat), K.lookup a = some o ∧ o.cls = .type "tuple" ∧ o.data = .seq its n ∧ its.size ≤ sizeLine ∧ Vals xs its.toList
def absV : Value → Option V
  | .none => some .non
  | .bool b => some (.bl b)
  | .int i _ => some (.int i)
  | .str x _ => some (.str x)
  | .bytes b _ => some (.byt b)
  | .float b _ => some (.flt b)
  | .ref a => some (.ref a)
  | .type n => some (.ty n)
  | _ => none
theorem RelV.abs {x : V} {u : Value} (r : RelV x u) : absV u = some x := by
  cases x with
  | non => cases r; rfl
  | bl _ => cases r; rfl
  | int _ => obtain ⟨t, rfl⟩ := r; rfl
  | str _ => obtain ⟨t, rfl⟩ := r; rfl
  | byt _ => obtain ⟨t, rfl⟩ := r; rfl
  | flt _ => obtain ⟨t, rfl⟩ := r; rfl
  | ref _ => cases r; rfl
  | ty _ => cases r; rfl
theorem RelV.inj {x y : V} {u : Value} (r : RelV x u) (q : RelV y u) : x = y := Option.some.inj (r.abs.symm.trans q.abs)
theorem Vals.inj : ∀ {xs ys : List V} {us : List Value}, Vals xs us → Vals ys us → xs = ys
  | _, _, _, .nil, .nil => rfl
  | _, _, _, .cons r t, .cons r' t' => by rw [r.inj r', Vals.inj t t']
section
variable {X : Cx} {pins : List (Addr × Obj)} {σ : St} {H : Hp} {s : Shared} {a : Addr} {xs ys : List V}
theorem SqL.of {K : PySem.W.Frag} (h : H a = some (.lst xs)) : SqL K H a xs := .inl (.inl h)
theorem SqT.of {K : PySem.W.Frag} (h : H a = some (.tup xs)) : SqT K H a xs := .inl (.inl h)
theorem Inv.list (I : Inv X pins σ H s) (h : SqL X.K H a xs) : ∃ its : List Value, Vals xs its ∧ PlainL s.heap a its.toArray ∧ xs.length ≤ sizeLine := by
  rcases h with h | ⟨o, its, n, hk, hc, hd, hs, hz, r⟩
  · obtain ⟨z, its, n, r, e⟩ := h.ok I.hok
    exact ⟨its, r, ⟨_, n, e, rfl, rfl, rfl⟩, z⟩
  · refine ⟨its.toList, r, ⟨o, n, I.kIn a o hk, hc, hd, by simpa using hs⟩, ?_⟩
    have e := r.length
    simp only [Array.length_toList] at e
    omega
theorem Inv.tuple (I : Inv X pins σ H s) (h : SqT X.K H a xs) : ∃ its : List Value, Vals xs its ∧ IsTup s.heap a its.toArray ∧ xs.length ≤ sizeLine := by
  rcases h with h | ⟨o, its, n, hk, hc, hs, hz, r⟩
  · obtain ⟨z, its, r, p⟩ := h.ok I.hok
    exact ⟨its, r, p, z⟩
  · refine ⟨its.toList, r, ⟨o, I.kIn a o hk, hc, n, by simpa using hs⟩, ?_⟩
    have e := r.length
    simp only [Array.length_toList] at e
    omega
theorem Inv.list_inj (I : Inv X pins σ H s) (h : SqL X.K H a xs) (h' : SqL X.K H a ys) : xs = ys := by
  obtain ⟨its, r, ⟨o, n, e, _, _, d⟩, _⟩ := I.list h
  obtain ⟨its', r', ⟨o', n', e', _, _, d'⟩, _⟩ := I.list h'
  rw [e] at e'; cases e'
  rw [d] at d'
  injection d' with d1 _
  have : its = its' := by simpa using congrArg Array.toList d1
  subst this
  exact r.inj r'
theorem Inv.tuple_inj (I : Inv X pins σ H s) (h : SqT X.K H a xs) (h' : SqT X.K H a ys) : xs = ys := by
  obtain ⟨its, r, ⟨o, e, _, n, d⟩, _⟩ := I.tuple h
  obtain ⟨its', r', ⟨o', e', _, n', d'⟩, _⟩ := I.tuple h'
  rw [e] at e'; cases e'
  rw [d] at d'
  injection d' with d1 _
  have : its = its' := by simpa using congrArg Array.toList d1
  subst this
  exact r.inj r'
end

/-! ### another wish about exceptions -/
abbrev Cx.wish (X : Cx) (E : Value → Shared → Prop) : Cx := { X with xe := E }
/-- no exception leaves -/
abbrev Cx.nox (X : Cx) : Cx := X.wish fun _ _ => False
theorem Cx.Ok.wish {X : Cx} (ok : X.Ok) (E : Value → Shared → Prop) : (X.wish E).Ok :=
  ⟨ok.mod, ok.kind, ok.glob, ok.blt, ok.above, ok.inj, ok.has, ok.cab, ok.hd, ok.frames, ok.stk, ok.exf, ok.bs, ok.bsz, ok.noex, ok.exfs, ok.funs, ok.frf, ok.tb⟩
theorem Cx.Ok.unwish {X : Cx} {E : Value → Shared → Prop} (ok : (X.wish E).Ok) : X.Ok :=
  ⟨ok.mod, ok.kind, ok.glob, ok.blt, ok.above, ok.inj, ok.has, ok.cab, ok.hd, ok.frames, ok.stk, ok.exf, ok.bs, ok.bsz, ok.noex, ok.exfs, ok.funs, ok.frf, ok.tb⟩
section
variable {X : Cx} {pins : List (Addr × Obj)} {σ : St} {H : Hp} {s : Shared} {E : Value → Shared → Prop}
theorem Inv.wish (I : Inv X pins σ H s) (E : Value → Shared → Prop) : Inv (X.wish E) pins σ H s := ⟨I.ok.wish E, I.os, I.bare, I.base, I.loc, I.cell, I.free, I.freeC, I.pin, I.hok, I.len⟩
theorem Inv.unwish (I : Inv (X.wish E) pins σ H s) : Inv X pins σ H s := ⟨I.ok.unwish, I.os, I.bare, I.base, I.loc, I.cell, I.free, I.freeC, I.pin, I.hok, I.len⟩
theorem SP.unwish {D : Ends} {f : Flow} {s' : Shared} (h : SP (X.wish E) pins D f s') : SP X pins D f s' := by
  cases f with
  | next => obtain ⟨σ', H', I, q⟩ := h; exact ⟨σ', H', I.unwish, q⟩
  | brk => obtain ⟨σ', H', I, q⟩ := h; exact ⟨σ', H', I.unwish, q⟩
  | cont => obtain ⟨σ', H', I, q⟩ := h; exact ⟨σ', H', I.unwish, q⟩
  | ret u => obtain ⟨v, σ', H', I, r, q⟩ := h; exact ⟨v, σ', H', I.unwish, r, q⟩
theorem PE.nox {e : Expr} {t : TE} (h : PE X.nox e t) : PE X e t := fun pins s σ H Q I hw =>
  wpAny_mono (h pins s σ H Q (I.wish _) hw) (fun _ _ ⟨v, H', I', r, q⟩ => ⟨v, H', I'.unwish, r, q⟩) fun _ _ z => False.elim z
theorem PT.nox {e : Expr} {t : TT} (h : PT X.nox e t) : PT X e t := fun pins s σ H Q I hw =>
  wpAny_mono (h pins s σ H Q (I.wish _) hw) (fun _ _ ⟨H', I', q⟩ => ⟨H', I'.unwish, q⟩) fun _ _ z => False.elim z
theorem PSs.nox {st : List Stmt} {t : TS} (h : PSs X.nox st t) : PSs X st t := fun pins s σ H D I hw =>
  wpAny_mono (h pins s σ H D (I.wish _) hw) (fun _ _ q => q.unwish) fun _ _ z => False.elim z
end

/-! ### blocks and small statements -/
section
variable {X : Cx} {st : Stmt} {rest : List Stmt} {t u : TS} {e : Expr} {te : TE} {pos : Pos}
def tNext : TS := fun D σ H => D.nx σ H
def tSeq (t u : TS) : TS := fun D σ H => t { D with nx := u D } σ H
theorem pss_nil : PSs X [] tNext := fun _ _ σ H _ I h => wpAny_execs_nil ⟨σ, H, I, h⟩
theorem pss_cons (h1 : PS X st t) (h2 : PSs X rest u) : PSs X (st :: rest) (tSeq t u) := by
  intro pins s σ H D I h
  refine wpAny_execs_cons (thn (h1 pins s σ H { D with nx := u D } I h) fun f s1 q => ?_)
  cases f with
  | next =>
    obtain ⟨σ', H', I', q⟩ := q
    exact h2 pins s1 σ' H' D I' q
  | ret v => exact q
  | brk => exact q
  | cont => exact q
theorem pss_one (h1 : PS X st t) : PSs X [st] t := by
  intro pins s σ H D I h
  refine wpAny_execs_cons (thn (h1 pins s σ H D I h) fun f s1 q => ?_)
  cases f with
  | next => exact wpAny_execs_nil q
  | ret v => exact q
  | brk => exact q
  | cont => exact q
/-- in a def's body nothing is shown -/
theorem Inv.quiet {pins : List (Addr × Obj)} {σ : St} {H : Hp} {s : Shared} (I : Inv X pins σ H s) : interactive X.env = false := by simp [interactive, I.ok.kind]
/-- an expression whose value is dropped -/
def tDrop (te : TE) : TS := fun D σ H => te σ H fun _ H1 => D.nx σ H1
theorem ps_expr (he : PE X e te) (hs : swapsWith e none pos.line X.env = pure false := by rfl) : PS X (.Expr e pos) (tDrop te) := by
  intro pins s σ H D I h
  exact wpAny_Expr_any (thn (he pins s σ H _ I h) fun v s1 ⟨x, H1, I1, r1, q1⟩ => ⟨σ, H1, I1, q1⟩) I.quiet hs
def tRet (te : TE) : TS := fun D σ H => te σ H D.rt
theorem ps_ret (he : PE X e te) : PS X (.Return (some e) pos) (tRet te) := by
  intro pins s σ H D I h
  exact wpAny_Return_some (thn (he pins s σ H _ I h) fun v s1 ⟨x, H1, I1, r1, q1⟩ => ⟨x, σ, H1, I1, r1, q1⟩)
def tIfS (c : TT) (t u : TS) : TS := fun D σ H => c σ H fun b H1 => if b = true then t D σ H1 else u D σ H1
theorem ps_if {c : Expr} {a b : List Stmt} {tc : TT} (hc : PT X c tc) (ha : PSs X a t) (hb : PSs X b u) : PS X (.If c a b pos) (tIfS tc t u) := by
  intro pins s σ H D I h
  refine wpAny_If (thn (hc pins s σ H _ I h) fun d s1 ⟨H1, I1, q1⟩ => ?_)
  cases d with
  | true => exact ha pins s1 σ H1 D I1 q1
  | false => exact hb pins s1 σ H1 D I1 q1
/-- code that the proof never comes to -/
def tNever : TS := fun _ _ _ => False
theorem ps_never : PS X st tNever := fun _ _ _ _ _ _ h => h.elim
end

/-! ### targets -/
abbrev TG := V → St → Hp → (St → Hp → Prop) → Prop
abbrev TGs := List V → St → Hp → (St → Hp → Prop) → Prop
def PG (X : Cx) (target : Expr) (t : TG) : Prop :=
  ∀ (pins : List (Addr × Obj)) (s : Shared) (σ : St) (H : Hp) (v : V) (u : Value) (Q : St → Hp → Prop), Inv X pins σ H s → RelV v u → t v σ H Q →
    wpAny (model X.prog X.w) X.A (assign target X.env u) (fun _ s' => ∃ σ' H', Inv X pins σ' H' s' ∧ Q σ' H') X.xe s
/-- several targets, one after another -/
def PGs (X : Cx) (ts : List Expr) (t : TGs) : Prop :=
  ∀ (pins : List (Addr × Obj)) (s : Shared) (σ : St) (H : Hp) (vs : List V) (us : List Value) (Q : St → Hp → Prop), Inv X pins σ H s → Vals vs us → t vs σ H Q →
    wpAny (model X.prog X.w) X.A (assignInOrder ((assignEach ts X.env).map (·.2)) us) (fun _ s' => ∃ σ' H', Inv X pins σ' H' s' ∧ Q σ' H') X.xe s
/-- o[i] = v, by values -/
abbrev TSet := V → V → V → Hp → (Hp → Prop) → Prop
def PSet (X : Cx) (t : TSet) : Prop :=
  ∀ (pins : List (Addr × Obj)) (s : Shared) (σ : St) (H : Hp) (o i v : V) (ov iv u : Value) (Q : Hp → Prop), Inv X pins σ H s → RelV o ov → RelV i iv → RelV v u → t o i v H Q →
    wpAny (model X.prog X.w) X.A (setItem ov iv u) (fun _ s' => ∃ H', Inv X pins σ H' s' ∧ Q H') X.xe s
section
variable {X : Cx} {pos : Pos}
def gName (i : Nat) : TG := fun v σ H Q => Q (σ.set i (some v)) H
theorem pg_name {i : Nat} {x : Str} (hN : X.N.Nodup) (hi : X.N[i]? = some x) (hx : Loc X.env.scope x) (hf : X.fn x = true ∨ X.env.scope.names.lookup x = some .local := by first | exact .inl rfl | exact .inr rfl | assumption) : PG X (.Name x pos) (gName i) := by
  intro pins s σ H v u Q I r h
  exact wpAny_assign_Name (store_ok I hN hi hx r (fun s' I' => ⟨_, H, I', h⟩) hf)
def gNil : TGs := fun vs σ H Q => vs = [] ∧ Q σ H
def gCons (t : TG) (u : TGs) : TGs := fun vs σ H Q => ∃ v r, vs = v :: r ∧ t v σ H fun σ' H' => u r σ' H' Q
theorem pgs_nil : PGs X [] gNil := by
  intro pins s σ H vs us Q I r h
  obtain ⟨e, h⟩ := h
  subst e
  cases r
  exact assignInOrder_nil ⟨σ, H, I, h⟩
theorem pgs_cons {e : Expr} {es : List Expr} {t : TG} {u : TGs} (h1 : PG X e t) (h2 : PGs X es u)
    (hs : (assignEach (e :: es) X.env).map (·.2) = assign e X.env :: (assignEach es X.env).map (·.2) := by rfl) : PGs X (e :: es) (gCons t u) := by
  intro pins s σ H vs us Q I r h
  obtain ⟨v, vr, e1, h⟩ := h
  subst e1
  cases r with
  | cons r rr =>
    rw [hs]
    refine assignInOrder_cons (thn (h1 pins s σ H _ _ _ I r h) fun _ s1 ⟨σ1, H1, I1, q1⟩ => ?_)
    exact h2 pins s1 σ1 H1 _ _ Q I1 rr q1
/-- (a, b, ..) = a tuple of that length -/
def gTup (K : PySem.W.Frag) (n : Nat) (t : TGs) : TG := fun v σ H Q => ∃ a xs, v = .ref a ∧ SqT K H a xs ∧ xs.length = n ∧ t xs σ H Q
theorem pg_tup {es : List Expr} {k : Nat} {t : TGs} {n : Nat} (hc : X.calm = true) (h : PGs X es t)
    (hn : (assignEach es X.env).length = n := by rfl) (hst : (assignEach es X.env).findIdx? (·.1) = none := by rfl) : PG X (.Tuple es k pos) (gTup X.K n t) := by
  intro pins s σ H v u Q I r hw
  obtain ⟨a, xs, e1, hq, hl, hw⟩ := hw
  subst e1
  cases r
  obtain ⟨its, rv, ht, hz⟩ := I.tuple hq
  refine assign_Tuple_tuple (I.ok.hd hc) ht (by simp [hn, ← hl, rv.length]) hst fun h' hx => ?_
  have I1 : Inv X pins σ H { s with heap := h' } := I.kept (t' := s.toks) fun b o e => hx b o (Nat.ne_of_lt (Heap.lt_size e)) e
  exact h pins _ σ H xs _ Q I1 (by simpa using rv) hw
/-- o[i] = .. -/
def gSub (to ti : TE) (t : TSet) : TG := fun v σ H Q => to σ H fun o H1 => ti σ H1 fun i H2 => t o i v H2 fun H3 => Q σ H3
theorem pg_sub {o i : Expr} {to ti : TE} {t : TSet} (ho : PE X o to) (hi : PE X i ti) (hs : PSet X t)
    (ha : ∀ v, assign (.Subscript o i pos) X.env v = (do
      let ov ← holding [v] (eval o X.env)
      let iv ← holding [v, ov] (eval i X.env)
      standAt pos
      holding [v, ov, iv] (setItem ov iv v)
      release [v, ov, iv] []) := by intro _; rfl) : PG X (.Subscript o i pos) (gSub to ti t) := by
  intro pins s σ H v u Q I r h
  rw [ha]
  refine wpAny_bind (wpAny_holding (thn (ho pins s σ H _ I h) fun ov s1 ⟨x, H1, I1, r1, q1⟩ => ?_))
  refine wpAny_bind (wpAny_holding (thn (hi pins s1 σ H1 _ I1 q1) fun iv s2 ⟨y, H2, I2, r2, q2⟩ => ?_))
  refine wpAny_bind (wpAny_standAt (wpAny_bind (wpAny_holding (thn (hs pins s2 σ H2 x y v ov iv u _ I2 r1 r2 r q2) fun _ s3 ⟨H3, I3, q3⟩ => ?_))))
  exact wpAny_release ⟨σ, H3, I3, q3⟩
/-- target = value -/
def tAsg (te : TE) (g : TG) : TS := fun D σ H => te σ H fun x H1 => g x σ H1 D.nx
theorem ps_asg {tg e : Expr} {te : TE} {g : TG} (he : PE X e te) (hg : PG X tg g) (hs : swapsWithSole [tg] e pos.line X.env = pure false := by rfl) (hw : swappedStores [tg] e X.env = pure none := by rfl)
    (h1 : (assignEach [tg] X.env).map (·.2) = [assign tg X.env] := by rfl) : PS X (.Assign [tg] e pos) (tAsg te g) := by
  intro pins s σ H D I h
  refine wpAny_Assign_stores (thn (he pins s σ H _ I h) fun v s1 ⟨x, H1, I1, r1, q1⟩ => ?_) hs hw
  rw [h1]
  exact thn (hg pins s1 σ H1 x v _ I1 r1 q1) fun _ s2 q => q
/-- name = value -/
theorem ps_set {i : Nat} {x : Str} {e : Expr} {te : TE} {pos' : Pos} (hN : X.N.Nodup) (hi : X.N[i]? = some x) (hx : Loc X.env.scope x) (he : PE X e te) (hs : swapsWith e (some (.Name x pos')) pos.line X.env = pure false := by rfl) (hf : X.fn x = true ∨ X.env.scope.names.lookup x = some .local := by first | exact .inl rfl | exact .inr rfl | assumption) :
    PS X (.Assign [.Name x pos'] e pos) (tAsg te (gName i)) := by
  intro pins s σ H D I h
  refine wpAny_Assign_Name (thn (he pins s σ H _ I h) fun v s1 ⟨y, H1, I1, r1, q1⟩ => ?_) hs
  exact store_ok I1 hN hi hx r1 (fun s2 I2 => ⟨_, H1, I2, q1⟩) hf
/-- a, b = x, y with plain local names: stored from the right; the pair itself is not tracked (the opening rows as in PyProof/Rows/TupAssign.lean:23) -/
def tPar (i j : Nat) (ta : TA) : TS := fun D σ H => ta σ H fun vs H1 => ∃ v w, vs = [v, w] ∧ D.nx ((σ.set i (some v)).set j (some w)) H1
theorem ps_par {i j : Nat} {x y : Str} {a b : Expr} {ta : TA} {px py pt : Pos} {kt k2 pt2} (hc : X.calm = true) (hN : X.N.Nodup) (hi : X.N[i]? = some x) (hj : X.N[j]? = some y) (hij : i ≠ j)
    (hx : X.env.scope.names.lookup x = some .local) (hy : X.env.scope.names.lookup y = some .local) (ha : PA X [a, b] ta)
    (hw : swappedStores [.Tuple [.Name x px, .Name y py] kt pt] (.Tuple [a, b] k2 pt2) X.env = pure (some [x, y]))
    (hs : swapsWithSole [.Tuple [.Name x px, .Name y py] kt pt] (.Tuple [a, b] k2 pt2) pos.line X.env = pure false := by rfl) :
    PS X (.Assign [.Tuple [.Name x px, .Name y py] kt pt] (.Tuple [a, b] k2 pt2) pos) (tPar i j ta) := by
  intro pins s σ H D I h
  rw [exec_Assign_arm]
  refine wpAny_bind (wpAny_standAt ?_)
  rw [hs]
  refine wpAny_bind (wpAny_pure ?_)
  rw [if_neg (by decide)]
  refine wpAny_bind (Tuple_ (thn (ha _ pins s σ H _ I h) fun us s1 ⟨vs, H1, I1, r1, q1⟩ => ?_))
  obtain ⟨v, w, e1, q1⟩ := q1
  subst e1
  obtain ⟨u1, u2, rfl, rv, rw'⟩ : ∃ u1 u2, us = [u1, u2] ∧ RelV v u1 ∧ RelV w u2 := by
    cases r1 with
    | cons p q =>
      cases q with
      | cons p' q' =>
        cases q'
        exact ⟨_, _, rfl, p, p'⟩
  refine wpAny_newObj_type ?_ (by show 2 ≤ sizeLine; decide)
  have I2 : Inv X pins σ H1 { s1 with heap := s1.heap.push { cls := .type "tuple", data := .seq [u1, u2].toArray } } := I1.kept (t' := s1.toks) fun b o e => Heap.get?_push_of_some _ e
  rw [hw]
  refine wpAny_bind (wpAny_pure ?_)
  show wpAny (model X.prog X.w) X.A (do rule "assign.swapped-stores"; let items ← unpackItems (.ref s1.heap.objs.size) 2 none; assignInOrder [fun v => bindName X.env y v, fun v => bindName X.env x v] items.reverse; pure Flow.next) _ _ _
  refine wpAny_bind (wpAny_rule (wpAny_bind (unpackItems_tuple (items := #[u1, u2]) (I.ok.hd hc) (IsTup.new s1.heap _) fun h' hx' => ?_)))
  have I3 := I2.kept (h' := h') (t' := s1.toks) fun b o e => hx' b o (Nat.ne_of_lt (Heap.lt_size e)) e
  show wpAny _ _ (assignInOrder [fun v => bindName X.env y v, fun v => bindName X.env x v] [u2, u1] >>= fun _ => pure Flow.next) _ _ _
  refine wpAny_bind (assignInOrder_cons (wpAny_bindName (store_ok I3 hN hj (.inl hy) rw' (fun s2 I4 => ?_) (.inr hy))))
  refine assignInOrder_cons (wpAny_bindName (store_ok I4 hN hi (.inl hx) rv (fun s3 I5 => assignInOrder_nil (wpAny_pure ?_)) (.inr hx)))
  rw [List.set_comm _ _ (Ne.symm hij)] at I5
  exact ⟨_, H1, I5, q1⟩
end

/-! ### while -/
section
variable {X : Cx} {pos : Pos}
/-- the invariant W with its measure -/
def tWhile (c : TT) (tb : TS) : TS := fun D σ H => ∃ W : Nat → St → Hp → Prop, (∃ m, W m σ H) ∧ ∀ m σ H, W m σ H →
  c σ H fun b H1 => if b = true then ∃ N : St → Hp → Prop, (∀ σ' H', N σ' H' → ∃ m', m' < m ∧ W m' σ' H') ∧ tb { D with nx := N, ct := N, bk := D.nx } σ H1 else D.nx σ H1
theorem ps_while {c : Expr} {body : List Stmt} {tc : TT} {tb : TS} (hp : PassesOwn (model X.prog X.w) X.A X.env X.xe) (hc : PT X c tc) (hb : PSs X body tb) : PS X (.While c body [] pos) (tWhile tc tb) := by
  intro pins s σ H D I h
  obtain ⟨W, ⟨m0, w0⟩, turn⟩ := h
  refine wpAny_While (codeAny_whileLoop (fun n s' => ∃ σ' H', Inv X pins σ' H' s' ∧ W n σ' H') ?_ m0 ⟨σ, H, I, w0⟩)
  rintro n s1 ⟨σ1, H1, I1, w1⟩
  refine wpAny_passesOwn hp (thn (hc pins s1 σ1 H1 _ I1 (turn n σ1 H1 w1)) fun b s2 ⟨H2, I2, q2⟩ => ?_)
  cases b with
  | true =>
    obtain ⟨N, hN, q2⟩ := q2
    rw [if_pos rfl]
    refine wpAny_passesOwn hp (thn (hb pins s2 σ1 H2 _ I2 q2) fun f s3 q3 => ?_)
    cases f with
    | next =>
      obtain ⟨σ3, H3, I3, n3⟩ := q3
      obtain ⟨m', hm, w3⟩ := hN σ3 H3 n3
      exact ⟨m', hm, σ3, H3, I3, w3⟩
    | cont =>
      obtain ⟨σ3, H3, I3, n3⟩ := q3
      obtain ⟨m', hm, w3⟩ := hN σ3 H3 n3
      exact ⟨m', hm, σ3, H3, I3, w3⟩
    | brk => exact q3
    | ret v => exact q3
  | false =>
    rw [if_neg Bool.false_ne_true]
    exact wpAny_execs_nil ⟨σ1, H2, I2, q2⟩
end

/-! ### what a loop or a comprehension walks -/
/-- at turn i: it yields x (the heap may grow), or it stops -/
structure It where
  go : Nat → Hp → Prop
  yld : Nat → Hp → V → Hp → Prop
  stop : Nat → Hp → Prop
/-- the iterator's own objects may turn: they are not the frame's, not pinned, younger than the entry (or a comprehension's own) -/
def FpOk (X : Cx) (pins : List (Addr × Obj)) (H : Hp) (b : Addr) : Prop :=
  H b = none ∧ b ≠ X.env.locals ∧ b ∉ X.fs ∧ (b ∈ X.ex ∨ X.s_0.heap.objs.size ≤ b) ∧ (∀ x c, X.env.cells.lookup x = some c → c ≠ b) ∧ ∀ p ∈ X.pn ++ pins, p.1 ≠ b
theorem Inv.fpOk {X : Cx} {pins : List (Addr × Obj)} {σ : St} {H H' : Hp} {s : Shared} {b : Addr} (I : Inv X pins σ H s) (hb : s.heap.objs.size ≤ b) (hn : H' b = none) : FpOk X pins H' b := by
  refine ⟨hn, Nat.ne_of_gt (Nat.lt_of_lt_of_le I.lt hb), I.nofs hb, .inr (Nat.le_trans I.sz hb), fun x c e z => ?_, fun p hp z => ?_⟩
  · obtain ⟨v, q⟩ := I.cell x c e
    exact absurd (Nat.lt_of_lt_of_le q.lt (by rw [z]; exact hb)) (Nat.lt_irrefl _)
  · exact absurd (Nat.lt_of_lt_of_le (Heap.lt_size (I.pin p hp).1) (by rw [z]; exact hb)) (Nat.lt_irrefl _)
structure Turn (P : Program) (w : World) (K : PySem.W.Frag) (tg : Expr) (J : It) (fp : List Addr) (it : Addr) (tn : Nat → Heap → Prop) : Prop where
  mem : it ∈ fp
  obj : ∀ i h, tn i h → ∀ b ∈ fp, ∃ o, h.get? b = some o ∧ ∀ v, o.data ≠ .cell v
  keep : ∀ i h h', tn i h → (∀ b ∈ fp, ∀ o, h.get? b = some o → h'.get? b = some o) → tn i h'
  item : ∀ (X : Cx), X.prog = P → X.w = w → X.K = K → X.calm = true → ∀ (i : Nat) (pins : List (Addr × Obj)) (s : Shared) (σ : St) (H : Hp) (E : Value → Shared → Prop), Inv X pins σ H s → (∀ b ∈ fp, FpOk X pins H b) → tn i s.heap → J.go i H →
    wpAny (model P w) X.A (pyNext (.ref it)) (fun r s1 => ∃ u, r = some u ∧
      wpAny (model P w) X.A (letOwnedTupleGo tg (.ref it) u) (fun _ s2 => ∃ x H', Inv X pins σ H' s2 ∧ RelV x u ∧ J.yld i H x H' ∧ tn (i + 1) s2.heap ∧ ∀ b ∈ fp, H' b = none) E s1) E s
  done : ∀ (X : Cx), X.prog = P → X.w = w → X.K = K → X.calm = true → ∀ (i : Nat) (pins : List (Addr × Obj)) (s : Shared) (σ : St) (H : Hp) (E : Value → Shared → Prop), Inv X pins σ H s → (∀ b ∈ fp, FpOk X pins H b) → tn i s.heap → J.stop i H →
    wpAny (model P w) X.A (pyNext (.ref it)) (fun r s1 => r = none ∧ Inv X pins σ H s1) E s
  self : ∀ (A : Around) (i : Nat) (s : Shared) (Q : Value → Shared → Prop) (E : Value → Shared → Prop), tn i s.heap → Q (.ref it) s → wpAny (model P w) A (pyIter (.ref it)) Q E s
abbrev TI := St → Hp → (It → Hp → Prop) → Prop
/-- an iterator has come -/
def PIE (X : Cx) (pins : List (Addr × Obj)) (σ : St) (tg : Expr) (R : It → Hp → Prop) (itv : Value) (s2 : Shared) : Prop :=
  ∃ (it : Addr) (fp : List Addr) (tn : Nat → Heap → Prop) (J : It) (H' : Hp), itv = .ref it ∧ Inv X pins σ H' s2 ∧ Turn X.prog X.w X.K tg J fp it tn ∧ tn 0 s2.heap ∧ (∀ b ∈ fp, FpOk X pins H' b) ∧ R J H'
def PI (X : Cx) (tg iter : Expr) (wi : TI) : Prop :=
  ∀ (pins : List (Addr × Obj)) (s : Shared) (σ : St) (H : Hp) (R : It → Hp → Prop), Inv X pins σ H s → wi σ H R →
    wpAny (model X.prog X.w) X.A (eval iter X.env) (fun v s1 => wpAny (model X.prog X.w) X.A (pyIter v) (PIE X pins σ tg R) X.xe s1) X.xe s

/-- the step ahead of the store is nothing for an iterator that keeps no tuple -/
theorem go_of {M : Model} {A : Around} {E : Value → Shared → Prop} {s : Shared} {tg : Expr} {it : Addr} {u : Value} {o : Obj} {n : String} {vs : Array Value} {Q : Unit → Shared → Prop} (ho : s.heap.get? it = some o) (hc : o.cls = .type n) (hd : o.data = .fields vs)
    (hn : ["enumerate", "zip", "dict_itemiterator", "dict_reverseitemiterator", "odict_iterator", "itertools.zip_longest", "itertools.pairwise"].contains n = false) (hQ : Q () s) : wpAny M A (letOwnedTupleGo tg (.ref it) u) Q E s := by
  unfold letOwnedTupleGo
  cases tg <;> first
    | exact wpAny_pure hQ
    | (cases u <;> first
        | exact wpAny_pure hQ
        | (refine wpAny_bind (wpAny_load ho ?_)
           rw [hc, hd]
           show wpAny M A (if (["enumerate", "zip", "dict_itemiterator", "dict_reverseitemiterator", "odict_iterator", "itertools.zip_longest", "itertools.pairwise"].contains n && vs[0]? == some (rawInt _)) = true then _ else _) Q E s
           rw [if_neg (by intro h; rw [hn, Bool.false_and] at h; cases h)]
           exact wpAny_pure hQ))

/-- the list at a, as it stands at each turn (a loop may append to it) -/
def Itl (K : PySem.W.Frag) (a : Addr) : It :=
  ⟨fun i H => ∃ xs x, SqL K H a xs ∧ xs[i]? = some x, fun i H x H' => H' = H ∧ ∀ xs, SqL K H a xs → xs[i]? = some x, fun i H => ∃ xs, SqL K H a xs ∧ xs.length ≤ i⟩
def Itt (K : PySem.W.Frag) (a : Addr) : It :=
  ⟨fun i H => ∃ xs x, SqT K H a xs ∧ xs[i]? = some x, fun i H x H' => H' = H ∧ ∀ xs, SqT K H a xs → xs[i]? = some x, fun i H => ∃ xs, SqT K H a xs ∧ xs.length ≤ i⟩
/-- lo, lo + 1, .. (n of them) -/
def Itr (lo : Int) (n : Nat) : It := ⟨fun i _ => i < n, fun i H x H' => H' = H ∧ x = .int (lo + i), fun i _ => n ≤ i⟩
theorem turn_list {P : Program} {w : World} {K : PySem.W.Frag} {tg : Expr} (a it : Addr) : Turn P w K tg (Itl K a) [it] it (fun i h => h.IsListIter it a i) where
  mem := by simp
  obj := fun i h st b hb => by
    have e : b = it := by simpa using hb
    subst e
    obtain ⟨o, e, c, d⟩ := st
    exact ⟨o, e, fun v z => by rw [d] at z; cases z⟩
  keep := fun i h h' st k => st.at fun o e => k it (by simp) o e
  item := by
    intro X hP hw hK hc i pins s σ H E I hf st hg
    subst hP hw hK
    obtain ⟨xs, x, hq, hx⟩ := hg
    obtain ⟨its, rv, p, hz⟩ := I.list hq
    obtain ⟨u, hu, ru⟩ := rv.get hx
    obtain ⟨f0, f1, f2, f3, f4, f5⟩ := hf it (by simp)
    refine wpAny_pyNext_list_item st p.isList (x := u) (by simpa using hu) fun h' st' sb => ?_
    have I1 : Inv X pins σ H { s with heap := h' } := I.turned (t' := s.toks) (fun b o hb e => (sb.2 b hb).trans e) f0 f1 f3 f4 f5
    obtain ⟨o, e, c, d⟩ := id st'
    exact ⟨u, rfl, go_of (s := { s with heap := h' }) e c d (by decide) ⟨x, H, I1, ru, ⟨rfl, fun ys hy => by rw [I.list_inj hy hq]; exact hx⟩, st', fun b hb => (hf b hb).1⟩⟩
  done := by
    intro X hP hw hK hc i pins s σ H E I hf st hg
    subst hP hw hK
    obtain ⟨xs, hq, hx⟩ := hg
    obtain ⟨its, rv, p, hz⟩ := I.list hq
    obtain ⟨f0, f1, f2, f3, f4, f5⟩ := hf it (by simp)
    have hl := rv.length
    exact wpAny_pyNext_list_end (I.ok.hd hc) st p.isList (by simp; omega) fun h' eb => ⟨rfl, I.turned (t' := s.toks) (fun b o hb e => eb b o hb e) f0 f1 f3 f4 f5⟩
  self := fun _ _ _ _ _ st h => wpAny_pyIter_listiter st h
theorem turn_tuple {P : Program} {w : World} {K : PySem.W.Frag} {tg : Expr} (a it : Addr) : Turn P w K tg (Itt K a) [it] it (fun i h => h.IsTupleIter it a i) where
  mem := by simp
  obj := fun i h st b hb => by
    have e : b = it := by simpa using hb
    subst e
    obtain ⟨o, e, c, d⟩ := st
    exact ⟨o, e, fun v z => by rw [d] at z; cases z⟩
  keep := fun i h h' st k => st.at fun o e => k it (by simp) o e
  item := by
    intro X hP hw hK hc i pins s σ H E I hf st hg
    subst hP hw hK
    obtain ⟨xs, x, hq, hx⟩ := hg
    obtain ⟨its, rv, p, hz⟩ := I.tuple hq
    obtain ⟨u, hu, ru⟩ := rv.get hx
    obtain ⟨f0, f1, f2, f3, f4, f5⟩ := hf it (by simp)
    refine wpAny_pyNext_tuple_item st (show s.heap.IsTuple a its.toArray from p) (x := u) (by simpa using hu) fun h' st' sb => ?_
    have I1 : Inv X pins σ H { s with heap := h' } := I.turned (t' := s.toks) (fun b o hb e => (sb.2 b hb).trans e) f0 f1 f3 f4 f5
    obtain ⟨o, e, c, d⟩ := id st'
    exact ⟨u, rfl, go_of (s := { s with heap := h' }) e c d (by decide) ⟨x, H, I1, ru, ⟨rfl, fun ys hy => by rw [I.tuple_inj hy hq]; exact hx⟩, st', fun b hb => (hf b hb).1⟩⟩
  done := by
    intro X hP hw hK hc i pins s σ H E I hf st hg
    subst hP hw hK
    obtain ⟨xs, hq, hx⟩ := hg
    obtain ⟨its, rv, p, hz⟩ := I.tuple hq
    obtain ⟨f0, f1, f2, f3, f4, f5⟩ := hf it (by simp)
    have hl := rv.length
    exact wpAny_pyNext_tuple_end (I.ok.hd hc) st (show s.heap.IsTuple a its.toArray from p) (by simp; omega) fun h' eb => ⟨rfl, I.turned (t' := s.toks) (fun b o hb e => eb b o hb e) f0 f1 f3 f4 f5⟩
  self := fun _ _ _ _ _ st h => wpAny_pyIter_tupleiter st h
theorem turn_range {P : Program} {w : World} {K : PySem.W.Frag} {tg : Expr} (it : Addr) (lo : Int) (n : Nat) : Turn P w K tg (Itr lo n) [it] it (fun i h => IsRangeIter h it (lo + (i : Nat) * 1) ((n : Int) - (i : Nat)) 1) where
  mem := by simp
  obj := fun i h st b hb => by
    have e : b = it := by simpa using hb
    subst e
    exact ⟨_, st, fun v z => by
      have z' : Data.fields _ = Data.cell v := z
      cases z'⟩
  keep := fun i h h' st k => k it (by simp) _ st
  item := by
    intro X hP hw hK hc i pins s σ H E I hf st hg
    subst hP hw hK
    obtain ⟨f0, f1, f2, f3, f4, f5⟩ := hf it (by simp)
    have W := Walks.range (prog := X.prog) (w := X.w) (I.ok.hd hc) it lo 1 n
    refine W.item i s _ _ hg st fun v h' tk hv st' kk => ?_
    obtain ⟨t, rfl⟩ := hv
    have I1 : Inv X pins σ H { s with heap := h', toks := tk } := I.turned (fun b o hb e => kk b o (by simpa using hb) e) f0 f1 f3 f4 f5
    refine ⟨_, rfl, go_of (s := { s with heap := h', toks := tk }) (n := "range_iterator") st' rfl rfl (by decide) ⟨.int (lo + i), H, I1, ⟨t, ?_⟩, ⟨rfl, rfl⟩, st', fun b hb => (hf b hb).1⟩⟩
    rw [Int.mul_one]
  done := by
    intro X hP hw hK hc i pins s σ H E I hf st hg
    subst hP hw hK
    obtain ⟨f0, f1, f2, f3, f4, f5⟩ := hf it (by simp)
    exact wpAny_pyNext_range_end (I.ok.hd hc) st (by have : n ≤ i := hg; omega) fun h' eb => ⟨rfl, I.turned (t' := s.toks) (fun b o hb e => eb b o hb e) f0 f1 f3 f4 f5⟩
  self := fun _ _ _ _ _ st h => wpAny_pyIter_rangeiter st h
end L2

namespace L2
open PySem PySem.Spec PyProof.Rows
section
variable {X : Cx} {tg : Expr}
def iList (K : PySem.W.Frag) (tl : TE) : TI := fun σ H R => tl σ H fun x H1 => ∃ a, x = .ref a ∧ (∃ xs, SqL K H1 a xs) ∧ R (Itl K a) H1
def iTup (K : PySem.W.Frag) (tl : TE) : TI := fun σ H R => tl σ H fun x H1 => ∃ a, x = .ref a ∧ (∃ xs, SqT K H1 a xs) ∧ R (Itt K a) H1
theorem pi_list {l : Expr} {tl : TE} (hl : PE X l tl) : PI X tg l (iList X.K tl) := by
  intro pins s σ H R I h
  refine thn (hl pins s σ H _ I h) fun v s1 ⟨x, H1, I1, r1, q1⟩ => ?_
  obtain ⟨a, e, ⟨xs, hq⟩, q⟩ := q1
  subst e
  cases r1
  obtain ⟨its, rv, p, hz⟩ := I1.list hq
  refine wpAny_pyIter_list p.isList ?_
  refine ⟨s1.heap.objs.size, [s1.heap.objs.size], _, _, H1, rfl, I1.kept (t' := s1.toks) fun b o e => Heap.get?_push_of_some _ e, turn_list a _, ⟨_, Heap.get?_push_size _ rfl, rfl, rfl⟩, fun b hb => ?_, q⟩
  have e : b = s1.heap.objs.size := by simpa using hb
  subst e
  exact I1.fpOk (Nat.le_refl _) (I1.hok.fresh (Nat.le_refl _))
theorem pi_tup {l : Expr} {tl : TE} (hl : PE X l tl) : PI X tg l (iTup X.K tl) := by
  intro pins s σ H R I h
  refine thn (hl pins s σ H _ I h) fun v s1 ⟨x, H1, I1, r1, q1⟩ => ?_
  obtain ⟨a, e, ⟨xs, hq⟩, q⟩ := q1
  subst e
  cases r1
  obtain ⟨its, rv, p, hz⟩ := I1.tuple hq
  refine wpAny_pyIter_tuple (show s1.heap.IsTuple a its.toArray from p) ?_
  refine ⟨s1.heap.objs.size, [s1.heap.objs.size], _, _, H1, rfl, I1.kept (t' := s1.toks) fun b o e => Heap.get?_push_of_some _ e, turn_tuple a _, ⟨_, Heap.get?_push_size _ rfl, rfl, rfl⟩, fun b hb => ?_, q⟩
  have e : b = s1.heap.objs.size := by simpa using hb
  subst e
  exact I1.fpOk (Nat.le_refl _) (I1.hok.fresh (Nat.le_refl _))
/-- a range object just made, walked -/
theorem range_it {pins : List (Addr × Obj)} {σ : St} {H : Hp} {s : Shared} {R : It → Hp → Prop} {E : Value → Shared → Prop} {lo hi : Int} {t u v : Tok} {tk : Nat} (I : Inv X pins σ H s) (h1 : -(2 ^ 62) ≤ lo) (h2 : lo < 2 ^ 62) (h3 : -(2 ^ 62) ≤ hi) (h4 : hi < 2 ^ 62)
    (q : R (Itr lo (hi - lo).toNat) H) : wpAny (model X.prog X.w) X.A (pyIter (.ref s.heap.objs.size)) (PIE X pins σ tg R) E { s with heap := s.heap.push { cls := .type "range", data := .fields #[.int lo t, .int hi u, .int 1 v] }, toks := tk } := by
  refine wpAny_pyIter_range (IsRange.new ..) (small_one h1 h2 h3 h4) ?_
  have I1 : Inv X pins σ H { s with heap := s.heap.push { cls := .type "range", data := .fields #[.int lo t, .int hi u, .int 1 v] }, toks := tk } := I.kept fun b o e => Heap.get?_push_of_some _ e
  refine ⟨(s.heap.push { cls := .type "range", data := .fields #[.int lo t, .int hi u, .int 1 v] }).objs.size, [(s.heap.push { cls := .type "range", data := .fields #[.int lo t, .int hi u, .int 1 v] }).objs.size], _, _, H, rfl,
    I1.kept (t' := tk) fun b o e => Heap.get?_push_of_some _ e, turn_range _ lo (hi - lo).toNat, ?_, fun b hb => ?_, q⟩
  · have e1 : lo + ((0 : Nat) : Int) * 1 = lo := by simp
    have e2 : (((hi - lo).toNat : Nat) : Int) - ((0 : Nat) : Int) = Builtin.Range.rangeSize lo hi 1 := by rw [rangeSize_one]; split <;> omega
    show IsRangeIter _ _ (lo + ((0 : Nat) : Int) * 1) ((((hi - lo).toNat : Nat) : Int) - ((0 : Nat) : Int)) 1
    rw [e1, e2]
    exact Heap.get?_push_size _ rfl
  · have e : b = (s.heap.push { cls := .type "range", data := .fields #[.int lo t, .int hi u, .int 1 v] }).objs.size := by simpa using hb
    subst e
    exact I1.fpOk (Nat.le_refl _) (I1.hok.fresh (Nat.le_refl _))
def iRng1 (ta : TA) : TI := fun σ H R => ta σ H fun vs H1 => ∃ j : Int, vs = [.int j] ∧ -(2 ^ 62) ≤ j ∧ j < 2 ^ 62 ∧ R (Itr 0 j.toNat) H1
def iRng2 (ta : TA) : TI := fun σ H R => ta σ H fun vs H1 => ∃ i j : Int, vs = [.int i, .int j] ∧ (-(2 ^ 62) ≤ i ∧ i < 2 ^ 62 ∧ -(2 ^ 62) ≤ j ∧ j < 2 ^ 62) ∧ R (Itr i (j - i).toNat) H1
theorem pi_range1 {a : Expr} {ta : TA} {p pos : Pos} (hg : Gl X "range") (hm : X.mg "range" = none) (ha : PA X [a] ta) (hs : starEach [a] X.env = [(false, eval a X.env)] := by rfl) : PI X tg (.Call (.Name "range" p) [a] [] pos) (iRng1 ta) := by
  intro pins s σ H R I h
  refine Call_ (ld_blt I hg hm boot_range (PyProof.Rows.callWith_type1 (thn (ha pos pins s σ H _ I h) fun us s1 ⟨vs, H1, I1, r1, q1⟩ => ?_) hs rfl))
  obtain ⟨j, e, q1, q2, q⟩ := q1
  subst e
  cases r1 with
  | cons r rr =>
    cases rr
    obtain ⟨t, rfl⟩ := r
    exact call_range_1 (range_it I1 (by omega) (by omega) q1 q2 (by simpa using q))
theorem pi_range2 {a b : Expr} {ta : TA} {p pos : Pos} (hg : Gl X "range") (hm : X.mg "range" = none) (ha : PA X [a, b] ta) (hs : starEach [a, b] X.env = [(false, eval a X.env), (false, eval b X.env)] := by rfl) (hs2 : starEach [b] X.env = [(false, eval b X.env)] := by rfl) :
    PI X tg (.Call (.Name "range" p) [a, b] [] pos) (iRng2 ta) := by
  intro pins s σ H R I h
  refine Call_ (ld_blt I hg hm boot_range (PyProof.Rows.callWith_type1 (thn (ha pos pins s σ H _ I h) fun us s1 ⟨vs, H1, I1, r1, q1⟩ => ?_) (by rw [hs, hs2]) (by rw [hs2]; rfl)))
  obtain ⟨i, j, e, ⟨q1, q2, q3, q4⟩, q⟩ := q1
  subst e
  cases r1 with
  | cons r rr =>
    cases rr with
    | cons r' rr =>
      cases rr
      obtain ⟨t, rfl⟩ := r
      obtain ⟨t', rfl⟩ := r'
      exact call_range_2 (range_it I1 q1 q2 q3 q4 q)

/-! ### for -/
/-- W: the invariant by the turn and a measure; N: what the body is to reach -/
def tFor (wi : TI) (g : TG) (tb : TS) : TS := fun D σ H => wi σ H fun J H1 => ∃ W : Nat → Nat → St → Hp → Prop, (∃ m, W 0 m σ H1) ∧ ∀ i m σ H, W i m σ H →
  (J.stop i H ∧ D.nx σ H) ∨ (J.go i H ∧ ∃ N : St → Hp → Prop, (∀ σ' H', N σ' H' → ∃ m', m' < m ∧ W (i + 1) m' σ' H') ∧ ∀ x H', J.yld i H x H' → g x σ H' fun σ2 H2 => tb { D with nx := N, ct := N, bk := D.nx } σ2 H2)
/-- the records at fp as they stand -/
def pinsAt (fp : List Addr) (h : Heap) : List (Addr × Obj) := fp.filterMap fun b => (h.get? b).map fun o => (b, o)
theorem mem_pinsAt {fp : List Addr} {h : Heap} {b : Addr} {o : Obj} (hb : b ∈ fp) (e : h.get? b = some o) : (b, o) ∈ pinsAt fp h := List.mem_filterMap.mpr ⟨b, hb, by rw [e]; rfl⟩
theorem of_pinsAt {fp : List Addr} {h : Heap} {p : Addr × Obj} (hp : p ∈ pinsAt fp h) : p.1 ∈ fp ∧ h.get? p.1 = some p.2 := by
  obtain ⟨b, hb, e⟩ := List.mem_filterMap.mp hp
  cases q : h.get? b with
  | none => rw [q] at e; cases e
  | some o =>
    rw [q] at e
    have e' : (b, o) = p := Option.some.inj e
    subst e'
    exact ⟨hb, q⟩
theorem Inv.pinned {pins : List (Addr × Obj)} {σ : St} {H : Hp} {s : Shared} {fp : List Addr} (I : Inv X pins σ H s) (hf : ∀ b ∈ fp, FpOk X pins H b) (ho : ∀ b ∈ fp, ∃ o, s.heap.get? b = some o ∧ ∀ v, o.data ≠ .cell v) : Inv X (pins ++ pinsAt fp s.heap) σ H s :=
  I.pins_of fun p hp => (List.mem_append.mp hp).elim (fun z => I.pin p (List.mem_append_right _ z)) fun z => by
    obtain ⟨hb, e⟩ := of_pinsAt z
    obtain ⟨f0, f1, f2, _⟩ := hf p.1 hb
    obtain ⟨o, e', d⟩ := ho p.1 hb
    rw [e] at e'; cases e'
    exact ⟨e, f0, f1, f2, d⟩
theorem Inv.unpinned {pins pl : List (Addr × Obj)} {σ : St} {H : Hp} {s : Shared} (I : Inv X (pins ++ pl) σ H s) : Inv X pins σ H s := I.pins_of fun p hp => I.pin p (List.mem_append_right _ (List.mem_append_left _ hp))
theorem ps_for {iter : Expr} {body : List Stmt} {wi : TI} {g : TG} {tb : TS} {pos : Pos} (hp : PassesOwn (model X.prog X.w) X.A X.env X.xe) (hc : X.calm = true) (hi : PI X tg iter wi) (hg : PG X tg g) (hb : PSs X body tb)
    (hs : ∀ x, foldedSetIterable iter X.env x = pure x := by intro _; rfl) : PS X (.For tg iter body [] pos) (tFor wi g tb) := by
  intro pins s σ H D I h
  refine wpAny_For (thn (hi pins s σ H _ I h) fun v s1 h1 => thn h1 fun itv s2 h2 => ?_) hs
  obtain ⟨it, fp, tn, J, H2, e, I2, T, st2, f2, W, ⟨m0, w0⟩, turn⟩ := h2
  subst e
  -- what stays true of the iterator's objects through the loop
  have stat : ∀ {H' : Hp}, (∀ b ∈ fp, H' b = none) → ∀ b ∈ fp, FpOk X pins H' b := fun hn b hb => ⟨hn b hb, (f2 b hb).2⟩
  refine codeAny_forLoop_any (fun n s' => ∃ i σ' H', Inv X pins σ' H' s' ∧ tn i s'.heap ∧ (∀ b ∈ fp, H' b = none) ∧ W i n σ' H') ?_ m0 ⟨0, σ, H2, I2, st2, fun b hb => (f2 b hb).1, w0⟩
  rintro n s3 ⟨i, σ3, H3, I3, st3, fr3, w3⟩
  rcases turn i n σ3 H3 w3 with ⟨stop, qn⟩ | ⟨go, N, hN, step⟩
  · refine wpAny_passesOwn hp (thn (T.done X rfl rfl rfl hc i pins s3 σ3 H3 X.xe I3 (stat fr3) st3 stop) fun r s4 ⟨hr, I4⟩ => ?_)
    subst hr
    exact wpAny_execs_nil ⟨σ3, H3, I4, qn⟩
  · refine wpAny_passesOwn hp (thn (T.item X rfl rfl rfl hc i pins s3 σ3 H3 X.xe I3 (stat fr3) st3 go) fun r s4 ⟨u, hr, h4⟩ => ?_)
    subst hr
    refine wpAny_passesOwn hp (thn h4 fun _ s5 ⟨x, H5, I5, r5, y5, st5, fr5⟩ => ?_)
    have I5' := I5.pinned (stat fr5) (T.obj _ _ st5)
    refine wpAny_passesOwn hp (thn (hg _ s5 σ3 H5 x u _ I5' r5 (step x H5 y5)) fun _ s6 ⟨σ6, H6, I6, q6⟩ => ?_)
    refine wpAny_passesOwn hp (thn (hb _ s6 σ6 H6 _ I6 q6) fun f s7 q7 => ?_)
    have again : ∀ {σ7 : St} {H7 : Hp}, Inv X (pins ++ pinsAt fp s5.heap) σ7 H7 s7 → N σ7 H7 → ∃ m, m < n ∧ ∃ i σ' H', Inv X pins σ' H' s7 ∧ tn i s7.heap ∧ (∀ b ∈ fp, H' b = none) ∧ W i m σ' H' := fun {σ7 H7} I7 n7 => by
      obtain ⟨m', hm, w7⟩ := hN σ7 H7 n7
      refine ⟨m', hm, i + 1, σ7, H7, I7.unpinned, T.keep _ _ _ st5 fun b hb o e => (I7.pin (b, o) (List.mem_append_right _ (List.mem_append_right _ (mem_pinsAt hb e)))).1, fun b hb => ?_, w7⟩
      obtain ⟨o, e, d⟩ := T.obj _ _ st5 b hb
      exact (I7.pin (b, o) (List.mem_append_right _ (List.mem_append_right _ (mem_pinsAt hb e)))).2.1
    cases f with
    | next => obtain ⟨σ7, H7, I7, n7⟩ := q7; exact again I7 n7
    | cont => obtain ⟨σ7, H7, I7, n7⟩ := q7; exact again I7 n7
    | brk => obtain ⟨σ7, H7, I7, q7⟩ := q7; exact ⟨σ7, H7, I7.unpinned, q7⟩
    | ret v => obtain ⟨x7, σ7, H7, I7, r7, q7⟩ := q7; exact ⟨x7, σ7, H7, I7.unpinned, r7, q7⟩
end

/-! ### the forms one uses -/
/-- over a list that the body leaves as it is -/
theorem for_list {K : PySem.W.Frag} {a : Addr} {xs : List V} {g : TG} {tb : TS} {D : Ends} {σ : St} {H : Hp} (Pv : Nat → St → Hp → Prop) (h0 : Pv 0 σ H) (hl : ∀ i σ H, i ≤ xs.length → Pv i σ H → SqL K H a xs)
    (hs : ∀ i x σ H, xs[i]? = some x → Pv i σ H → g x σ H fun σ2 H2 => tb { D with nx := Pv (i + 1), ct := Pv (i + 1), bk := D.nx } σ2 H2) (hd : ∀ σ H, Pv xs.length σ H → D.nx σ H) :
    ∃ W : Nat → Nat → St → Hp → Prop, (∃ m, W 0 m σ H) ∧ ∀ i m σ H, W i m σ H →
      ((Itl K a).stop i H ∧ D.nx σ H) ∨ ((Itl K a).go i H ∧ ∃ N : St → Hp → Prop, (∀ σ' H', N σ' H' → ∃ m', m' < m ∧ W (i + 1) m' σ' H') ∧ ∀ x H', (Itl K a).yld i H x H' → g x σ H' fun σ2 H2 => tb { D with nx := N, ct := N, bk := D.nx } σ2 H2) := by
  refine ⟨fun i m σ H => m = xs.length - i ∧ i ≤ xs.length ∧ Pv i σ H, ⟨xs.length, by simp, Nat.zero_le _, h0⟩, ?_⟩
  rintro i m σ H ⟨rfl, hi, p⟩
  have q := hl i σ H hi p
  by_cases hlt : i < xs.length
  · refine .inr ⟨⟨xs, xs[i], q, by simp [hlt]⟩, Pv (i + 1), fun σ' H' p' => ⟨xs.length - (i + 1), by omega, rfl, hlt, p'⟩, fun x H' y => ?_⟩
    obtain ⟨e, y⟩ := y
    subst e
    exact hs i x σ _ (y xs q) p
  · have e : i = xs.length := by omega
    subst e
    exact .inl ⟨⟨xs, q, Nat.le_refl _⟩, hd σ H p⟩
theorem for_tup {K : PySem.W.Frag} {a : Addr} {xs : List V} {g : TG} {tb : TS} {D : Ends} {σ : St} {H : Hp} (Pv : Nat → St → Hp → Prop) (h0 : Pv 0 σ H) (hl : ∀ i σ H, i ≤ xs.length → Pv i σ H → SqT K H a xs)
    (hs : ∀ i x σ H, xs[i]? = some x → Pv i σ H → g x σ H fun σ2 H2 => tb { D with nx := Pv (i + 1), ct := Pv (i + 1), bk := D.nx } σ2 H2) (hd : ∀ σ H, Pv xs.length σ H → D.nx σ H) :
    ∃ W : Nat → Nat → St → Hp → Prop, (∃ m, W 0 m σ H) ∧ ∀ i m σ H, W i m σ H →
      ((Itt K a).stop i H ∧ D.nx σ H) ∨ ((Itt K a).go i H ∧ ∃ N : St → Hp → Prop, (∀ σ' H', N σ' H' → ∃ m', m' < m ∧ W (i + 1) m' σ' H') ∧ ∀ x H', (Itt K a).yld i H x H' → g x σ H' fun σ2 H2 => tb { D with nx := N, ct := N, bk := D.nx } σ2 H2) := by
  refine ⟨fun i m σ H => m = xs.length - i ∧ i ≤ xs.length ∧ Pv i σ H, ⟨xs.length, by simp, Nat.zero_le _, h0⟩, ?_⟩
  rintro i m σ H ⟨rfl, hi, p⟩
  have q := hl i σ H hi p
  by_cases hlt : i < xs.length
  · refine .inr ⟨⟨xs, xs[i], q, by simp [hlt]⟩, Pv (i + 1), fun σ' H' p' => ⟨xs.length - (i + 1), by omega, rfl, hlt, p'⟩, fun x H' y => ?_⟩
    obtain ⟨e, y⟩ := y
    subst e
    exact hs i x σ _ (y xs q) p
  · have e : i = xs.length := by omega
    subst e
    exact .inl ⟨⟨xs, q, Nat.le_refl _⟩, hd σ H p⟩
theorem for_range {lo : Int} {n : Nat} {g : TG} {tb : TS} {D : Ends} {σ : St} {H : Hp} (Pv : Nat → St → Hp → Prop) (h0 : Pv 0 σ H)
    (hs : ∀ i σ H, i < n → Pv i σ H → g (.int (lo + i)) σ H fun σ2 H2 => tb { D with nx := Pv (i + 1), ct := Pv (i + 1), bk := D.nx } σ2 H2) (hd : ∀ σ H, Pv n σ H → D.nx σ H) :
    ∃ W : Nat → Nat → St → Hp → Prop, (∃ m, W 0 m σ H) ∧ ∀ i m σ H, W i m σ H →
      ((Itr lo n).stop i H ∧ D.nx σ H) ∨ ((Itr lo n).go i H ∧ ∃ N : St → Hp → Prop, (∀ σ' H', N σ' H' → ∃ m', m' < m ∧ W (i + 1) m' σ' H') ∧ ∀ x H', (Itr lo n).yld i H x H' → g x σ H' fun σ2 H2 => tb { D with nx := N, ct := N, bk := D.nx } σ2 H2) := by
  refine ⟨fun i m σ H => m = n - i ∧ i ≤ n ∧ Pv i σ H, ⟨n, by simp, Nat.zero_le _, h0⟩, ?_⟩
  rintro i m σ H ⟨rfl, hi, p⟩
  by_cases hlt : i < n
  · refine .inr ⟨hlt, Pv (i + 1), fun σ' H' p' => ⟨n - (i + 1), by omega, rfl, hlt, p'⟩, fun x H' y => ?_⟩
    obtain ⟨e, y⟩ := y
    subst e y
    exact hs i σ _ hlt p
  · have e : i = n := by omega
    subst e
    exact .inl ⟨Nat.le_refl _, hd σ H p⟩
end L2

namespace L2
open PySem PySem.Spec PyProof.Rows

abbrev R2 := V → V → Hp → VK → Prop
/-- a two-place operation on values: f is binaryOp op, inplaceOp op or compareOp op -/
def OpR (X : Cx) (f : Value → Value → Sem Value) (r : R2) : Prop :=
  ∀ (pins : List (Addr × Obj)) (s : Shared) (σ : St) (H : Hp) (x y : V) (v u : Value) (Q : VK), Inv X pins σ H s → RelV x v → RelV y u → r x y H Q →
    wpAny (model X.prog X.w) X.A (f v u) (EP X pins σ Q) X.xe s
/-- a one-place operation -/
def UnR (X : Cx) (f : Value → Sem Value) (r : V → Hp → VK → Prop) : Prop :=
  ∀ (pins : List (Addr × Obj)) (s : Shared) (σ : St) (H : Hp) (x : V) (v : Value) (Q : VK), Inv X pins σ H s → RelV x v → r x H Q →
    wpAny (model X.prog X.w) X.A (f v) (EP X pins σ Q) X.xe s
/-- a call of a value that is known (a builtin, a type) with values -/
def CallR (X : Cx) (f : Value) (r : List V → Hp → VK → Prop) : Prop :=
  ∀ (pins : List (Addr × Obj)) (s : Shared) (σ : St) (H : Hp) (xs : List V) (us : List Value) (Q : VK), Inv X pins σ H s → Vals xs us → r xs H Q →
    wpAny (model X.prog X.w) X.A (call f us) (EP X pins σ Q) X.xe s
def tOp (r : R2) (ta tb : TE) : TE := fun σ H Q => ta σ H fun x H1 => tb σ H1 fun y H2 => r x y H2 Q
def tUn (r : V → Hp → VK → Prop) (ta : TE) : TE := fun σ H Q => ta σ H fun x H1 => r x H1 Q
/-- ints in, under C, and a value out -/
def rI (C : Int → Int → Prop) (g : Int → Int → V) : R2 := fun x y H Q => ∃ i j, x = .int i ∧ y = .int j ∧ C i j ∧ Q (g i j) H
def rI0 (g : Int → Int → V) : R2 := fun x y H Q => ∃ i j, x = .int i ∧ y = .int j ∧ Q (g i j) H
def rU (g : Int → V) : V → Hp → VK → Prop := fun x H Q => ∃ i, x = .int i ∧ Q (g i) H

section
variable {X : Cx} {a b c : Expr} {ta tb tc : TE} {pos : Pos}

theorem binT (ha : PE X a ta) (hb : PE X b tb) {pins : List (Addr × Obj)} {s : Shared} {σ : St} {H : Hp} {R : V → V → Hp → Prop} (I : Inv X pins σ H s)
    (h : ta σ H fun x H1 => tb σ H1 fun y H2 => R x y H2) {Q : Value → Shared → Prop} {f : Value → Value → Sem Value}
    (hf : ∀ v u s2 x y H2, Inv X pins σ H2 s2 → RelV x v → RelV y u → R x y H2 → wpAny (model X.prog X.w) X.A (f v u) Q X.xe s2) :
    wpAny (model X.prog X.w) X.A (eval a X.env) (fun v s₁ => wpAny (model X.prog X.w) X.A (eval b X.env) (fun u s₂ => wpAny (model X.prog X.w) X.A (f v u) Q X.xe s₂) X.xe s₁) X.xe s := by
  refine thn (ha pins s σ H _ I h) fun v s1 ⟨x, H1, I1, r1, q1⟩ => ?_
  refine thn (hb pins s1 σ H1 _ I1 q1) fun u s2 ⟨y, H2, I2, r2, q2⟩ => ?_
  exact hf v u s2 x y H2 I2 r1 r2 q2

theorem pe_op {op : Operator} {r : R2} (ho : OpR X (binaryOp op) r) (ha : PE X a ta) (hb : PE X b tb) : PE X (.BinOp a op b pos) (tOp r ta tb) := by
  intro pins s σ H Q I h
  exact wpAny_BinOp (binT ha hb I h fun v u s2 x y H2 I2 rx ry q => ho pins s2 σ H2 x y v u Q I2 rx ry q)
theorem pe_un {op : UnaryOp} {r : V → Hp → VK → Prop} (ho : UnR X (unaryOp op) r) (ha : PE X a ta) : PE X (.UnaryOp op a pos) (tUn r ta) := by
  intro pins s σ H Q I h
  exact UnaryOp_ (thn (ha pins s σ H _ I h) fun v s1 ⟨x, H1, I1, r1, q1⟩ => ho pins s1 σ H1 x v Q I1 r1 q1)
/-! ### ints -/
theorem opI {f : Value → Value → Sem Value} {C : Int → Int → Prop} {g : Int → Int → Int}
    (rule : ∀ (i j : Int) (t u : Tok) (s : Shared) (Q : Value → Shared → Prop) (E : Value → Shared → Prop), C i j → Q (.int (g i j) s.toks) { s with toks := s.toks + 1 } → wpAny (model X.prog X.w) X.A (f (.int i t) (.int j u)) Q E s) :
    OpR X f (rI C fun i j => .int (g i j)) := by
  intro pins s σ H x y v u Q I rx ry h
  obtain ⟨i, j, rfl, rfl, hc, q⟩ := h
  obtain ⟨t, rfl⟩ := rx
  obtain ⟨t', rfl⟩ := ry
  exact rule i j t t' s _ _ hc ⟨.int (g i j), H, I.tok _, ⟨_, rfl⟩, q⟩
theorem opI0 {f : Value → Value → Sem Value} {g : Int → Int → Int}
    (rule : ∀ (i j : Int) (t u : Tok) (s : Shared) (Q : Value → Shared → Prop) (E : Value → Shared → Prop), Q (.int (g i j) s.toks) { s with toks := s.toks + 1 } → wpAny (model X.prog X.w) X.A (f (.int i t) (.int j u)) Q E s) :
    OpR X f (rI0 fun i j => .int (g i j)) := by
  intro pins s σ H x y v u Q I rx ry h
  obtain ⟨i, j, rfl, rfl, q⟩ := h
  obtain ⟨t, rfl⟩ := rx
  obtain ⟨t', rfl⟩ := ry
  exact rule i j t t' s _ _ ⟨.int (g i j), H, I.tok _, ⟨_, rfl⟩, q⟩
theorem opB0 {f : Value → Value → Sem Value} {g : Int → Int → Bool}
    (rule : ∀ (i j : Int) (t u : Tok) (s : Shared) (Q : Value → Shared → Prop) (E : Value → Shared → Prop), Q (.bool (g i j)) s → wpAny (model X.prog X.w) X.A (f (.int i t) (.int j u)) Q E s) :
    OpR X f (rI0 fun i j => .bl (g i j)) := by
  intro pins s σ H x y v u Q I rx ry h
  obtain ⟨i, j, rfl, rfl, q⟩ := h
  obtain ⟨t, rfl⟩ := rx
  obtain ⟨t', rfl⟩ := ry
  exact rule i j t t' s _ _ ⟨.bl (g i j), H, I, rfl, q⟩

def CPow (i j : Int) : Prop := 0 ≤ j ∧ j ≤ 1000000 ∧ i.natAbs < 2 ^ 64
def CMul (i j : Int) : Prop := (-(2 ^ 64) < i ∧ i < 2 ^ 64) ∨ (-(2 ^ 64) < j ∧ j < 2 ^ 64)
theorem CMul.ok {i j : Int} (h : CMul i j) : IntMulOk i j := by
  rcases h with ⟨h1, h2⟩ | ⟨h1, h2⟩
  · exact .of_left (intBits_le_64 h1 h2)
  · exact .of_right (intBits_le_64 h1 h2)
theorem op_add : OpR X (binaryOp .Add) (rI0 fun i j => .int (i + j)) := opI0 fun _ _ _ _ _ _ _ q => add_int q
theorem op_sub : OpR X (binaryOp .Sub) (rI0 fun i j => .int (i - j)) := opI0 fun _ _ _ _ _ _ _ q => sub_int q
theorem op_mul : OpR X (binaryOp .Mult) (rI CMul fun i j => .int (i * j)) := opI fun _ _ _ _ _ _ _ hc q => mul_int q hc.ok
theorem op_modN : OpR X (binaryOp .Mod) (rI (fun _ j => j ≠ 0) fun i j => .int (i.fmod j)) := opI fun _ _ _ _ _ _ _ hc q => mod_int' hc q
theorem op_pow : OpR X (binaryOp .Pow) (rI CPow fun i j => .int (i ^ j.toNat)) := opI fun _ _ _ _ _ _ _ hc q => pow_int_small hc.1 hc.2.1 hc.2.2 q
theorem unI {f : Value → Sem Value} {g : Int → Int}
    (rule : ∀ (i : Int) (t : Tok) (s : Shared) (Q : Value → Shared → Prop) (E : Value → Shared → Prop), Q (.int (g i) s.toks) { s with toks := s.toks + 1 } → wpAny (model X.prog X.w) X.A (f (.int i t)) Q E s) :
    UnR X f (rU fun i => .int (g i)) := by
  intro pins s σ H x v Q I rx h
  obtain ⟨i, rfl, q⟩ := h
  obtain ⟨t, rfl⟩ := rx
  exact rule i t s _ _ ⟨.int (g i), H, I.tok _, ⟨_, rfl⟩, q⟩
theorem un_neg : UnR X (unaryOp .USub) (rU fun i => .int (-i)) := unI fun _ _ _ _ _ q => neg_int q
/-! ### bools among ints: n += (a < b) -/
end

/-! ### comparisons -/
/-- the scalars that == tells apart as data does -/
def scal : V → V → Bool
  | .non, .non => true | .non, .int _ => true | .int _, .non => true | .non, .bl _ => true | .bl _, .non => true | .non, .str _ => true | .str _, .non => true
  | .int _, .int _ => true | .bl _, .bl _ => true | .str _, .str _ => true | .byt _, .byt _ => true
  | .int _, .str _ => true | .str _, .int _ => true | .bl _, .str _ => true | .str _, .bl _ => true
  | _, _ => false
def rEq : R2 := fun x y H Q => scal x y = true ∧ Q (.bl (decide (x = y))) H
def rNe : R2 := fun x y H Q => scal x y = true ∧ Q (.bl (!decide (x = y))) H

theorem dec_int {i j : Int} : decide (V.int i = V.int j) = (i == j) := by
  rw [Bool.eq_iff_iff]
  simp
theorem dec_bl {i j : Bool} : decide (V.bl i = V.bl j) = (i == j) := by
  rw [Bool.eq_iff_iff]
  simp
theorem dec_str {i j : Str} : decide (V.str i = V.str j) = (i == j) := by
  rw [Bool.eq_iff_iff]
  simp
theorem dec_byt {i j : Array UInt8} : decide (V.byt i = V.byt j) = (i.toList == j.toList) := by
  rw [Bool.eq_iff_iff]
  cases i
  cases j
  simp

section
variable {X : Cx} {a b c : Expr} {ta tb tc : TE} {pos : Pos}
theorem fin_bl {pins : List (Addr × Obj)} {σ : St} {H : Hp} {s : Shared} {Q : VK} {k k' : Bool} (I : Inv X pins σ H s) (q : Q (.bl k) H) (e : k = k') : EP X pins σ Q (.bool k') s := by
  subst e
  exact ⟨.bl k, H, I, rfl, q⟩
theorem op_eq : OpR X (compareOp .Eq) rEq := by
  intro pins s σ H x y v u Q I rx ry h
  obtain ⟨hs, q⟩ := h
  cases x with
  | non =>
    cases rx
    cases y with
    | non => cases ry; exact PySem.EqNone.eq_none_none (fin_bl I q (by simp))
    | bl j => cases ry; exact PySem.EqNone.eq_none_bool (fin_bl I q (by simp))
    | int j => obtain ⟨t', rfl⟩ := ry; exact PySem.EqNone.eq_none_int (fin_bl I q (by simp))
    | str j => obtain ⟨t', rfl⟩ := ry; exact PySem.EqNone.eq_none_str (fin_bl I q (by simp))
    | _ => exact absurd (show false = true from hs) Bool.false_ne_true
  | bl i =>
    cases rx
    cases y with
    | non => cases ry; exact PySem.EqNone.eq_bool_none (fin_bl I q (by simp))
    | bl j => cases ry; exact eq_bool (fin_bl I q dec_bl)
    | str j => obtain ⟨t', rfl⟩ := ry; exact PySem.EqMixed.eq_bool_str (fin_bl I q (by simp))
    | _ => exact absurd (show false = true from hs) Bool.false_ne_true
  | int i =>
    obtain ⟨t, rfl⟩ := rx
    cases y with
    | non => cases ry; exact PySem.EqNone.eq_int_none (fin_bl I q (by simp))
    | int j => obtain ⟨t', rfl⟩ := ry; exact eq_int (fin_bl I q dec_int)
    | str j => obtain ⟨t', rfl⟩ := ry; exact PySem.EqMixed.eq_int_str (fin_bl I q (by simp))
    | _ => exact absurd (show false = true from hs) Bool.false_ne_true
  | str i =>
    obtain ⟨t, rfl⟩ := rx
    cases y with
    | non => cases ry; exact PySem.EqNone.eq_str_none (fin_bl I q (by simp))
    | bl j => cases ry; exact PySem.EqMixed.eq_str_bool (fin_bl I q (by simp))
    | int j => obtain ⟨t', rfl⟩ := ry; exact PySem.EqMixed.eq_str_int (fin_bl I q (by simp))
    | str j => obtain ⟨t', rfl⟩ := ry; exact eq_str (fin_bl I q dec_str)
    | _ => exact absurd (show false = true from hs) Bool.false_ne_true
  | byt i =>
    obtain ⟨t, rfl⟩ := rx
    cases y with
    | byt j => obtain ⟨t', rfl⟩ := ry; exact PySem.W.eq_bytes (fin_bl I q dec_byt)
    | _ => exact absurd (show false = true from hs) Bool.false_ne_true
  | _ => cases y <;> exact absurd (show false = true from hs) Bool.false_ne_true
theorem op_ne : OpR X (compareOp .NotEq) rNe := by
  intro pins s σ H x y v u Q I rx ry h
  obtain ⟨hs, q⟩ := h
  cases x with
  | non =>
    cases rx
    cases y with
    | non => cases ry; exact PySem.EqNone.ne_none_none (fin_bl I q (by simp))
    | bl j => cases ry; exact PySem.EqNone.ne_none_bool (fin_bl I q (by simp))
    | int j => obtain ⟨t', rfl⟩ := ry; exact PySem.EqNone.ne_none_int (fin_bl I q (by simp))
    | str j => obtain ⟨t', rfl⟩ := ry; exact PySem.EqNone.ne_none_str (fin_bl I q (by simp))
    | _ => exact absurd (show false = true from hs) Bool.false_ne_true
  | bl i =>
    cases rx
    cases y with
    | non => cases ry; exact PySem.EqNone.ne_bool_none (fin_bl I q (by simp))
    | bl j => cases ry; exact ne_bool (fin_bl I q (congrArg not dec_bl))
    | str j => obtain ⟨t', rfl⟩ := ry; exact PySem.EqMixed.ne_bool_str (fin_bl I q (by simp))
    | _ => exact absurd (show false = true from hs) Bool.false_ne_true
  | int i =>
    obtain ⟨t, rfl⟩ := rx
    cases y with
    | non => cases ry; exact PySem.EqNone.ne_int_none (fin_bl I q (by simp))
    | int j => obtain ⟨t', rfl⟩ := ry; exact ne_int (fin_bl I q (congrArg not dec_int))
    | str j => obtain ⟨t', rfl⟩ := ry; exact PySem.EqMixed.ne_int_str (fin_bl I q (by simp))
    | _ => exact absurd (show false = true from hs) Bool.false_ne_true
  | str i =>
    obtain ⟨t, rfl⟩ := rx
    cases y with
    | non => cases ry; exact PySem.EqNone.ne_str_none (fin_bl I q (by simp))
    | bl j => cases ry; exact PySem.EqMixed.ne_str_bool (fin_bl I q (by simp))
    | int j => obtain ⟨t', rfl⟩ := ry; exact PySem.EqMixed.ne_str_int (fin_bl I q (by simp))
    | str j => obtain ⟨t', rfl⟩ := ry; exact ne_str (fin_bl I q (congrArg not dec_str))
    | _ => exact absurd (show false = true from hs) Bool.false_ne_true
  | byt i =>
    obtain ⟨t, rfl⟩ := rx
    cases y with
    | byt j => obtain ⟨t', rfl⟩ := ry; exact PySem.W.ne_bytes (fin_bl I q (congrArg not dec_byt))
    | _ => exact absurd (show false = true from hs) Bool.false_ne_true
  | _ => cases y <;> exact absurd (show false = true from hs) Bool.false_ne_true

theorem op_lt : OpR X (compareOp .Lt) (rI0 fun i j => .bl (decide (i < j))) := opB0 fun _ _ _ _ _ _ _ q => lt_int q
theorem op_le : OpR X (compareOp .LtE) (rI0 fun i j => .bl (decide (i ≤ j))) := opB0 fun _ _ _ _ _ _ _ q => le_int q
theorem op_gt : OpR X (compareOp .Gt) (rI0 fun i j => .bl (decide (j < i))) := opB0 fun _ _ _ _ _ _ _ q => gt_int q
theorem op_ge : OpR X (compareOp .GtE) (rI0 fun i j => .bl (decide (j ≤ i))) := opB0 fun _ _ _ _ _ _ _ q => ge_int q
/-- is None, is not None: the right side a value none -/
theorem op_isN : OpR X (compareOp .Is) (fun x y H Q => y = .non ∧ Q (.bl (decide (x = .non))) H) := by
  intro pins s σ H x y v u Q I rx ry h
  obtain ⟨rfl, q⟩ := h
  cases ry
  refine is_none_gen (fin_bl I q ?_)
  cases x <;> first
    | (cases rx; rfl)
    | (obtain ⟨t, rfl⟩ := rx; rfl)
theorem op_notN : OpR X (compareOp .IsNot) (fun x y H Q => y = .non ∧ Q (.bl (!decide (x = .non))) H) := by
  intro pins s σ H x y v u Q I rx ry h
  obtain ⟨rfl, q⟩ := h
  cases ry
  refine isnot_none_gen (fin_bl I q ?_)
  cases x <;> first
    | (cases rx; rfl)
    | (obtain ⟨t, rfl⟩ := rx; rfl)

/-- two rules for one operation: by cases -/
theorem OpR.or {f : Value → Value → Sem Value} {r r' : R2} (h : OpR X f r) (h' : OpR X f r') : OpR X f (fun x y H Q => r x y H Q ∨ r' x y H Q) := by
  intro pins s σ H x y v u Q I rx ry q
  rcases q with q | q
  · exact h pins s σ H x y v u Q I rx ry q
  · exact h' pins s σ H x y v u Q I rx ry q

theorem nomark (b : Expr) {op : CmpOp} (h : op ≠ .In := by decide) (h2 : op ≠ .NotIn := by decide) : behindInMarks op b = false := by
  have e1 : (op == CmpOp.In) = false := by cases op <;> first | rfl | exact absurd rfl h
  have e2 : (op == CmpOp.NotIn) = false := by cases op <;> first | rfl | exact absurd rfl h2
  cases b <;> simp [behindInMarks, e1, e2]
/-- a comparison as a value; hm: nomark b, or (for in, not in) by with_unfolding_all rfl -/
theorem pe_cmpR {op : CmpOp} {r : R2} (ho : OpR X (compareOp op) r) (ha : PE X a ta) (hb : PE X b tb) (hm : behindInMarks op b = false) : PE X (.Compare a [op] [b] pos) (tOp r ta tb) := by
  intro pins s σ H Q I h
  exact wpAny_Compare1 (binT ha hb I h fun v u s2 x y H2 I2 rx ry q => ho pins s2 σ H2 x y v u Q I2 rx ry q) hm
/-- a reading of a value as a test -/
def tTest (t : TE) : TT := fun σ H Q => t σ H fun x H' => ∃ k, x = .bl k ∧ Q k H'
theorem pt_cmpR {op : CmpOp} {r : R2} (ho : OpR X (compareOp op) r) (ha : PE X a ta) (hb : PE X b tb) (hm : behindInMarks op b = false) : PT X (.Compare a [op] [b] pos) (tTest (tOp r ta tb)) := by
  intro pins s σ H Q I h
  refine wpAny_isTrue_Compare1 (thn (ha pins s σ H _ I h) fun v s1 ⟨x, H1, I1, r1, q1⟩ => thn (hb pins s1 σ H1 _ I1 q1) fun u s2 ⟨y, H2, I2, r2, q2⟩ =>
    thn (ho pins s2 σ H2 x y v u _ I2 r1 r2 q2) fun c s3 ⟨z, H3, I3, r3, k, e, q3⟩ => ?_) hm
  subst e
  cases r3
  exact wpAny_truthy_bool ⟨H3, I3, q3⟩
/-- a op1 b op2 c -/
def tChain (r r' : R2) (ta tb tc : TE) : TE := fun σ H Q => ta σ H fun x H1 => tb σ H1 fun y H2 => r x y H2 fun z H3 => ∃ k, z = .bl k ∧
  (if k = true then tc σ H3 fun w' H4 => r' y w' H4 Q else Q (.bl false) H3)
theorem pe_chain {op op' : CmpOp} {r r' : R2} (ho : OpR X (compareOp op) r) (ho' : OpR X (compareOp op') r') (ha : PE X a ta) (hb : PE X b tb) (hc : PE X c tc)
    (hm : lastMarks [op, op'] [b, c] = false := by with_unfolding_all rfl) : PE X (.Compare a [op, op'] [b, c] pos) (tChain r r' ta tb tc) := by
  intro pins s σ H Q I h
  refine Compare_chain (thn (ha pins s σ H _ I h) fun v s1 ⟨x, H1, I1, r1, q1⟩ => chain_link (thn (hb pins s1 σ H1 _ I1 q1) fun u s2 ⟨y, H2, I2, r2, q2⟩ =>
    thn (ho pins s2 σ H2 x y v u _ I2 r1 r2 q2) fun d s3 ⟨z, H3, I3, r3, k, e, q3⟩ => ?_)) hm
  subst e
  cases r3
  refine wpAny_truthy_bool ?_
  cases k with
  | false => exact ite_ff ⟨.bl false, H3, I3, rfl, q3⟩
  | true => exact ite_tt (chain_last (thn (hc pins s3 σ H3 _ I3 q3) fun w' s4 ⟨z', H4, I4, r4, q4⟩ => ho' pins s4 σ H4 y z' u w' Q I4 r2 r4 q4))
theorem pt_chain {op op' : CmpOp} {r r' : R2} (ho : OpR X (compareOp op) r) (ho' : OpR X (compareOp op') r') (ha : PE X a ta) (hb : PE X b tb) (hc : PE X c tc)
    (hm : lastMarks [op, op'] [b, c] = false := by with_unfolding_all rfl) : PT X (.Compare a [op, op'] [b, c] pos) (tTest (tChain r r' ta tb tc)) := by
  intro pins s σ H Q I h
  refine isTrue_chain (thn (ha pins s σ H _ I h) fun v s1 ⟨x, H1, I1, r1, q1⟩ => test_link (thn (hb pins s1 σ H1 _ I1 q1) fun u s2 ⟨y, H2, I2, r2, q2⟩ =>
    thn (ho pins s2 σ H2 x y v u _ I2 r1 r2 q2) fun d s3 ⟨z, H3, I3, r3, k, e, q3⟩ => ?_)) hm
  subst e
  cases r3
  refine wpAny_truthy_bool ?_
  cases k with
  | false =>
    obtain ⟨k', e', q'⟩ := q3
    cases e'
    exact ite_ff ⟨H3, I3, q'⟩
  | true =>
    refine ite_tt (test_last (thn (hc pins s3 σ H3 _ I3 q3) fun w' s4 ⟨z', H4, I4, r4, q4⟩ => thn (ho' pins s4 σ H4 y z' u w' _ I4 r2 r4 q4) fun d' s5 ⟨z2, H5, I5, r5, k2, e2, q5⟩ => ?_))
    subst e2
    cases r5
    exact wpAny_truthy_bool ⟨H5, I5, q5⟩

/-! ### truth -/
theorem line63 : (sizeLine : Nat) < 2 ^ 63 := by rw [sizeLine_eq]; decide
/-! ### strs and bytes -/
/-! ### scalar builtins, by CallR -/
theorem vals1 {x : V} {us : List Value} (r : Vals [x] us) : ∃ u, us = [u] ∧ RelV x u := by
  cases r with
  | cons r1 r2 => cases r2; exact ⟨_, rfl, r1⟩
theorem vals2 {x y : V} {us : List Value} (r : Vals [x, y] us) : ∃ u w', us = [u, w'] ∧ RelV x u ∧ RelV y w' := by
  cases r with
  | cons r1 r2 =>
    cases r2 with
    | cons r3 r4 => cases r4; exact ⟨_, _, rfl, r1, r3⟩
theorem call_abs : CallR X (.builtin "abs") (fun xs H Q => ∃ i, xs = [.int i] ∧ Q (.int (if i < 0 then -i else i)) H) := by
  intro pins s σ H xs us Q I r h
  obtain ⟨i, rfl, q⟩ := h
  obtain ⟨u, rfl, t, rfl⟩ := vals1 r
  exact call_abs_int fun u tk => ⟨.int (if i < 0 then -i else i), H, I.tok _, ⟨_, rfl⟩, q⟩
theorem call_max2 (hc : X.calm = true) : CallR X (.builtin "max") (fun xs H Q => ∃ i j, xs = [.int i, .int j] ∧ Q (.int (if j > i then j else i)) H) := by
  intro pins s σ H xs us Q I r h
  obtain ⟨i, j, rfl, q⟩ := h
  obtain ⟨u, w', rfl, ⟨t, rfl⟩, ⟨t', rfl⟩⟩ := vals2 r
  refine max_two_ints (I.ok.hd hc) fun h' tk k => ⟨_, H, I.kept k, ?_, q⟩
  by_cases hj : j > i
  · rw [if_pos hj, if_pos hj]; exact ⟨_, rfl⟩
  · rw [if_neg hj, if_neg hj]; exact ⟨_, rfl⟩
theorem call_min2 (hc : X.calm = true) : CallR X (.builtin "min") (fun xs H Q => ∃ i j, xs = [.int i, .int j] ∧ Q (.int (if j < i then j else i)) H) := by
  intro pins s σ H xs us Q I r h
  obtain ⟨i, j, rfl, q⟩ := h
  obtain ⟨u, w', rfl, ⟨t, rfl⟩, ⟨t', rfl⟩⟩ := vals2 r
  refine min_two_ints (I.ok.hd hc) fun h' tk k => ⟨_, H, I.kept k, ?_, q⟩
  by_cases hj : j < i
  · rw [if_pos hj, if_pos hj]; exact ⟨_, rfl⟩
  · rw [if_neg hj, if_neg hj]; exact ⟨_, rfl⟩
theorem call_int1 : CallR X (.type "int") (fun xs H Q => (∃ i, xs = [.int i] ∧ Q (.int i) H) ∨ ∃ k, xs = [.bl k] ∧ Q (.int (if k then 1 else 0)) H) := by
  intro pins s σ H xs us Q I r h
  rcases h with ⟨i, rfl, q⟩ | ⟨k, rfl, q⟩
  · obtain ⟨u, rfl, t, rfl⟩ := vals1 r
    exact call_int_int ⟨.int i, H, I, ⟨_, rfl⟩, q⟩
  · obtain ⟨u, rfl, r1⟩ := vals1 r
    cases r1
    exact call_int_bool ⟨.int (if k then 1 else 0), H, I.tok _, ⟨_, rfl⟩, q⟩
end
end L2

namespace L2
open PySem PySem.Spec PyProof.Rows

/-! ### an instance, its attributes a map -/
structure ObjM (h : Heap) (x dx C : Addr) (mA : Str → Option Value) : Prop where
  obj : h.get? x = some (PySem.W.instObj C dx)
  ns : h.Ns1 dx mA
  ne : dx ≠ x

theorem lookIn_ns {h : Heap} {dx : Addr} {mA : Str → Option Value} (n : h.Ns1 dx mA) : ∃ od, h.get? dx = some od ∧ ∀ name, PySem.W.lookIn name od = some (mA name) := by
  obtain ⟨o, es, ep, ho, hd, hk, _, hm⟩ := n
  refine ⟨o, ho, fun name => ?_⟩
  have e := hm name
  unfold nsFind findBy at e
  rw [← Array.find?_toList] at e
  unfold PySem.W.lookIn
  rw [hd]
  dsimp only
  split
  · rename_i y q
    rw [q] at e
    exact congrArg some e
  · rename_i q
    rw [q] at e
    have a : es.toList.any (·.refKey) = false := by
      rw [List.any_eq_false]
      intro y hy
      obtain ⟨z, t, hkey⟩ := hk y (Array.mem_toList_iff.mp hy)
      simp [DictEntry.refKey, hkey]
    have a' : ¬ es.toList.any (·.refKey) = true := by rw [a]; exact Bool.false_ne_true
    rw [if_neg a']
    exact congrArg some e

theorem ObjM.look {h : Heap} {x dx C : Addr} {mA : Str → Option Value} (I : ObjM h x dx C mA) : ∃ od, PySem.W.InstAt h x (PySem.W.instObj C dx) C (some od) ∧ ∀ name, PySem.W.lookIn name od = some (mA name) :=
  let ⟨od, ho, hl⟩ := lookIn_ns I.ns
  ⟨od, ⟨I.obj, rfl, rfl, ho⟩, hl⟩

section
variable {prog : Program} {w : World} {A : Around} {E : Value → Shared → Prop} {s : Shared} {K : PySem.W.Frag} {x dx C f : Addr} {mA : Str → Option Value} {name : Str} {v : Value}

end

/-! ### the attributes as a list of pairs -/
section
variable {P : Program} {w : World} {H H' : Hp} {h h' : Heap} {a C dx : Addr} {fs fs' : List (Str × V)}
theorem ins_get (hok : HOk P w H h) (e : H a = some (.ins C dx fs)) : ∃ mA, ObjM h a dx C mA ∧ (∀ f, RelO (fs.lookup f) (mA f)) ∧ PySem.Within mA (fs.map (·.1)) ∧ fs.length ≤ 1000 ∧ H dx = some (.own a) := by
  obtain ⟨d, z, ne, ob, mA, n, r, q⟩ := (show ObjOk P w H h a (.ins C dx fs) from hok a _ e)
  exact ⟨mA, ⟨ob, n, ne⟩, r, q, z, d⟩
end

/-! ### what of the text a class must have -/
structure Cls (K : PySem.W.Frag) (C : Addr) : Prop where
  pg : PySem.W.plainGet K C Str.empty = true
  hd : PySem.W.hasDictIn K C = true
  po : PySem.W.plainOver K C = true
  sa : PySem.W.findIn K (.ref C) "__setattr__" = some (some (.builtin "object.__setattr__"))
theorem Cls.get {K : PySem.W.Frag} {C : Addr} (c : Cls K C) (f : Str) : PySem.W.plainGet K C f = true := c.pg
/-- a constant of the class -/
structure Con (K : PySem.W.Frag) (C : Addr) (f : Str) (v : V) (u : Value) : Prop where
  at_ : PySem.W.findIn K (.ref C) f = some (some u)
  rel : RelV v u
  get : PySem.W.specialIn K u "__get__" = some none
  cp : PySem.W.copiedNames.contains f = false
/-- a method: a plain def of the class or of one above it -/
structure Meth (K : PySem.W.Frag) (C : Addr) (m : Str) (f : Addr) : Prop where
  at_ : PySem.W.findIn K (.ref C) m = some (some (.ref f))
  fn : PySem.W.isFn K (.ref f) = true
  kp : PySem.W.keepIn K (.ref f) = true

section
variable {X : Cx} {pins : List (Addr × Obj)} {σ : St} {H : Hp} {s : Shared} {a C dx : Addr} {fs : List (Str × V)} {f : Str} {v : V} {A : Around} {E : Value → Shared → Prop}

/-- a new instance, tracked, without attributes -/
theorem Inv.made (I : Inv X pins σ H s) : Inv X pins σ (upd (upd H s.heap.objs.size (.own (s.heap.objs.size + 1))) (s.heap.objs.size + 1) (.ins C s.heap.objs.size []))
    { s with heap := (s.heap.push PySem.W.emptyDict).push (PySem.W.instObj C s.heap.objs.size) } := by
  have e1 : (s.heap.push PySem.W.emptyDict).get? s.heap.objs.size = some PySem.W.emptyDict := Heap.get?_push_size s.heap rfl
  have e2 : ((s.heap.push PySem.W.emptyDict).push (PySem.W.instObj C s.heap.objs.size)).get? (s.heap.objs.size + 1) = some (PySem.W.instObj C s.heap.objs.size) := by
    have := Heap.get?_push_size (s.heap.push PySem.W.emptyDict) (o := PySem.W.instObj C s.heap.objs.size) rfl
    rwa [Heap.size_push] at this
  have e3 : (s.heap.push PySem.W.emptyDict).Ns s.heap.objs.size (fun _ => none) := ⟨PySem.W.emptyDict, #[], _, e1, rfl, (fun e he => absurd he (by simp)), fun _ => rfl⟩
  have I1 := I.laid (a := s.heap.objs.size) (o := .own (s.heap.objs.size + 1)) (h' := s.heap.push PySem.W.emptyDict) (t' := s.toks) (fun b u q => Heap.get?_push_of_some _ q) (Nat.le_refl _) ⟨_, e1⟩
  refine I1.laid (a := s.heap.objs.size + 1) (o := .ins C s.heap.objs.size []) (t' := s.toks) (fun b u q => Heap.get?_push_of_some _ q) (Nat.le_of_eq (Heap.size_push _ _)) ?_
  have ne : s.heap.objs.size ≠ s.heap.objs.size + 1 := Nat.ne_of_lt (Nat.lt_succ_self _)
  refine ⟨by rw [upd_ne ne, upd_same], Nat.zero_le _, ne, e2, fun _ => none, (Heap.Ns1.of_empty e3).at fun o q => Heap.get?_push_of_some _ q, fun _ => True.intro, fun y hy => absurd rfl hy⟩

end

/-! ### readings and rules -/
section
variable {X : Cx} {o e value : Expr} {f : Str} {pos pos' tpos : Pos} {ta tv : TE}
end

/-! ### isinstance -/
section
variable {X : Cx} {pins : List (Addr × Obj)} {σ : St} {H : Hp} {s : Shared} {A : Around} {E : Value → Shared → Prop} {Q : Value → Shared → Prop} {c : Value} {b : Bool}
/-- the type of a value, as the fragment's deciders take it; for an instance its class -/
inductive TyOf (K : PySem.W.Frag) (H : Hp) : V → Value → Prop where
  | non : TyOf K H .non (.type "NoneType")
  | bl (x : Bool) : TyOf K H (.bl x) (.type "bool")
  | int (i : Int) : TyOf K H (.int i) (.type "int")
  | str (x : Str) : TyOf K H (.str x) (.type "str")
  | flt (x : UInt64) : TyOf K H (.flt x) (.type "float")
  | lst {a : Addr} {xs : List V} (e : H a = some (.lst xs)) : TyOf K H (.ref a) (.type "list")
  | frz {a : Addr} {o : Obj} {xs : List V} (e : H a = some (.frz o (.lst xs))) : TyOf K H (.ref a) (.type "list")
  | tup {a : Addr} {xs : List V} (e : H a = some (.tup xs)) : TyOf K H (.ref a) (.type "tuple")
  | dK {a : Addr} {kvs : List (Key × V)} (e : H a = some (.dK kvs)) : TyOf K H (.ref a) (.type "dict")
  | dT {a : Addr} {kvs : List (List Key × V)} (e : H a = some (.dT kvs)) : TyOf K H (.ref a) (.type "dict")
  | ins {a C dx : Addr} {fs : List (Str × V)} (e : H a = some (.ins C dx fs)) (cl : Cls K C) (ha : PySem.W.findIn K (.ref C) "__class__" = some (some (.builtin "object.__class__")))
      (hn : PySem.W.specialIn K (.builtin "object.__class__") "__get__" = some (some (.builtin "getset_descriptor.__get__"))) (htk : PySem.W.takesIn K (.builtin "object.__class__") = some true)
      (hm : PySem.W.mroIn K C (.type "object") = some true) : TyOf K H (.ref a) (.ref C)
/-- isinstance(x, c) for one class c, a built-in or an own one: kitOne's answer -/
theorem isinst_ok {x : V} {u t : Value} (I : Inv X pins σ H s) (rx : RelV x u) (ty : TyOf X.K H x t) (e : PySem.W.kitOne X.K t c = some b) (h : ∀ tk, Q (.bool b) { s with toks := tk }) :
    wpAny (model X.prog X.w) A (call (.builtin "isinstance") [u, c]) Q E s := by
  cases ty with
  | non => cases (show u = Value.none from rx); exact PySem.W.kia_one PySem.W.kitx_none I.kIn True.intro e (fun z => nomatch z) h
  | bl y => cases (show u = Value.bool y from rx); exact PySem.W.kia_one PySem.W.kitx_bool I.kIn True.intro e (fun z => nomatch z) h
  | int i => obtain ⟨t, q⟩ := (show ∃ t, u = Value.int i t from rx); cases q; exact PySem.W.kia_one PySem.W.kitx_int I.kIn True.intro e (fun z => nomatch z) h
  | str y => obtain ⟨t, q⟩ := (show ∃ t, u = Value.str y t from rx); cases q; exact PySem.W.kia_one PySem.W.kitx_str I.kIn True.intro e (fun z => nomatch z) h
  | flt y => obtain ⟨t, q⟩ := (show ∃ t, u = Value.float y t from rx); cases q; exact PySem.W.kia_one PySem.W.kitx_float I.kIn True.intro e (fun z => nomatch z) h
  | @lst a xs ea =>
    cases (show u = Value.ref a from rx)
    obtain ⟨_, _, n, _, h1⟩ := (show ObjOk X.prog X.w H s.heap a (.lst xs) from I.hok a _ ea)
    exact PySem.W.kia_one PySem.W.kitx_list I.kIn ⟨_, h1, rfl⟩ e (fun z => nomatch z) h
  | @frz a ob xs ea =>
    cases (show u = Value.ref a from rx)
    obtain ⟨_, _, _, n, _, h1⟩ := (show ObjOk X.prog X.w H s.heap a (.frz ob (.lst xs)) from I.hok a _ ea)
    exact PySem.W.kia_one PySem.W.kitx_list I.kIn ⟨_, h1, rfl⟩ e (fun z => nomatch z) h
  | @tup a xs ea =>
    cases (show u = Value.ref a from rx)
    obtain ⟨_, _, _, p⟩ := (show ObjOk X.prog X.w H s.heap a (.tup xs) from I.hok a _ ea)
    obtain ⟨o, h1, h2, _⟩ := p
    exact PySem.W.kia_one PySem.W.kitx_tuple I.kIn ⟨o, h1, h2⟩ e (fun z => nomatch z) h
  | @dK a kvs ea =>
    cases (show u = Value.ref a from rx)
    obtain ⟨_, _, vs, _, p⟩ := (show ObjOk X.prog X.w H s.heap a (.dK kvs) from I.hok a _ ea)
    obtain ⟨o, es, ep, h1, h2, _⟩ := p
    exact PySem.W.kia_one PySem.W.kitx_dict I.kIn ⟨o, h1, h2.1⟩ e (fun z => nomatch z) h
  | @dT a kvs ea =>
    cases (show u = Value.ref a from rx)
    obtain ⟨_, _, xs, _, o, es, ep, h1, h2, _⟩ := (show ObjOk X.prog X.w H s.heap a (.dT kvs) from I.hok a _ ea)
    exact PySem.W.kia_one PySem.W.kitx_dict I.kIn ⟨o, h1, h2.1⟩ e (fun z => nomatch z) h
  | @ins a C dx fs ea cl ha hn htk hm =>
    cases (show u = Value.ref a from rx)
    obtain ⟨mA, O, _⟩ := ins_get I.hok ea
    obtain ⟨od, J, _⟩ := O.look
    exact PySem.W.kia_one (PySem.W.kitx_own (cl.get _) cl.hd ha hn htk hm) I.kIn J e (fun z => nomatch z) h
end
end L2

namespace L2
open PySem PySem.Spec PyProof.Rows

/-! ### room -/
structure Room (k : Nat) (A : Around) : Prop where
  hd : A.handled = none
  dp : A.depth + 3 * k + 5 < recursionLimit
  un : A.units + 16 * k + 200 < cLine
  gd : A.guards = some []
theorem Room.mono {j k : Nat} {A : Around} (r : Room k A) (h : j ≤ k) : Room j A := ⟨r.hd, by have := r.dp; omega, by have := r.un; omega, r.gd⟩
theorem Room.deeper {k : Nat} {A : Around} (r : Room (k + 1) A) (env : Env) : Room k (A.deeper env) :=
  ⟨r.hd, by have := r.dp; show A.depth + 1 + 3 * k + 5 < _; omega, by have := r.un; show A.units + 3 + 16 * k + 200 < _; omega, r.gd⟩
theorem Room.in1 {k : Nat} {A : Around} (r : Room (k + 1) A) : Room k A.in1 :=
  ⟨r.hd, by have := r.dp; show A.depth + 3 * k + 5 < _; omega, by have := r.un; show A.units + 1 + 16 * k + 200 < _; omega, r.gd⟩
theorem Room.depth {k : Nat} {A : Around} (r : Room k A) : A.depth < recursionLimit := by have := r.dp; omega
theorem Room.units {k : Nat} {A : Around} (r : Room k A) : A.units + 64 < cLine := by have := r.un; omega
/-! ### argument lists and displays -/
def tNil : TA := fun _ H Q => Q [] H
def tCons (ta : TE) (tr : TA) : TA := fun σ H Q => ta σ H fun x H1 => tr σ H1 fun xs H2 => Q (x :: xs) H2
section
variable {X : Cx} {e : Expr} {es : List Expr} {te : TE} {t : TA} {pos : Pos}
theorem pa_nil : PA X [] tNil := fun _ _ _ _ H Q I h => Calls.spliced_nil ⟨[], H, I, .nil, h⟩
theorem pa_cons (ha : PE X e te) (hr : PA X es t) (hs : starEach (e :: es) X.env = (false, eval e X.env) :: starEach es X.env := by rfl) : PA X (e :: es) (tCons te t) := by
  intro pos pins s σ H Q I h
  rw [hs]
  show wpAny _ _ (spliced ((false, eval e X.env) :: backTo pos (starEach es X.env))) _ _ s
  refine Calls.spliced_cons (thn (ha pins s σ H _ I h) fun u s1 ⟨x, H1, I1, r1, q1⟩ => ?_)
  exact thn (hr pos pins s1 σ H1 _ I1 q1) fun us s2 ⟨xs, H2, I2, r2, q2⟩ => ⟨x :: xs, H2, I2, .cons r1 r2, q2⟩

/-- a tuple, a list of written items -/
def tTup (t : TA) : TE := fun σ H Q => t σ H fun xs H1 => xs.length ≤ sizeLine ∧ ∀ p, H1 p = none → Q (.ref p) (upd H1 p (.tup xs))
def tLst (t : TA) : TE := fun σ H Q => t σ H fun xs H1 => xs.length ≤ sizeLine ∧ ∀ p, H1 p = none → Q (.ref p) (upd H1 p (.lst xs))
theorem pe_tup {x1} (h : PA X es t) : PE X (.Tuple es x1 pos) (tTup t) := by
  intro pins s σ H Q I hq
  refine wpAny_Tuple_spliced (thn (h pos pins s σ H _ I hq) fun us s1 ⟨xs, H1, I1, r, z, q⟩ => ⟨by rw [← r.length]; exact z, ?_⟩)
  have hf : H1 s1.heap.objs.size = none := I1.hok.fresh (Nat.le_refl _)
  refine ⟨.ref s1.heap.objs.size, upd H1 s1.heap.objs.size (.tup xs), I1.laid (t' := s1.toks) (fun b u e => Heap.get?_push_of_some _ e) (Nat.le_refl _) ?_, rfl, q _ hf⟩
  exact ⟨z, us, r, ⟨_, Heap.get?_push_size _ rfl, rfl, _, rfl⟩⟩
theorem pe_lst (h : PA X es t) : PE X (.List es pos) (tLst t) := by
  intro pins s σ H Q I hq
  refine wpAny_List_spliced (thn (h pos pins s σ H _ I hq) fun us s1 ⟨xs, H1, I1, r, z, q⟩ => ⟨by rw [← r.length]; exact z, ?_⟩)
  have hf : H1 s1.heap.objs.size = none := I1.hok.fresh (Nat.le_refl _)
  refine ⟨.ref s1.heap.objs.size, upd H1 s1.heap.objs.size (.lst xs), I1.laid (t' := s1.toks) (fun b u e => Heap.get?_push_of_some _ e) (Nat.le_refl _) ?_, rfl, q _ hf⟩
  exact ⟨z, us, 0, r, Heap.get?_push_size _ rfl⟩
end

/-! ### what a def promises -/
/-- a def's promise: the bound arguments in the parameters' order, the heap, the wanted end, the wanted exception -/
abbrev Sp := List V → Hp → VK → XK → Prop
/-- how an exception lies behind a call (file 08 gives it): the callers' frames, abstract heap and state ahead of the call, the wish, the exception, the state -/
abbrev CXT := List Env → Hp → Shared → XK → Value → Shared → Prop

/-- the state at a call -/
structure Env0 (P : Program) (w : World) (K : PySem.W.Frag) (mg : Str → Option Value) (base : Heap) (A : Around) (outer : List Env) (s : Shared) (H : Hp) : Prop where
  frames : A.frames = some outer
  mod : Mod K mg base
  bs : ∀ b o, base.get? b = some o → s.heap.get? b = some o ∧ H b = none
  bsz : base.objs.size ≤ s.heap.objs.size
  funs : s.heap.FunFrames base outer
  frf : ∀ b ∈ frs outer, H b = none
  hok : HOk P w H s.heap
  bare : AllBare s.gens
  tb : TbOk base H
/-- a call's end -/
def CE (outer : List Env) (P : Program) (w : World) (H : Hp) (s : Shared) (Q : VK) (u : Value) (s' : Shared) : Prop :=
  ∃ v H', s'.os = s.os ∧ (AllBare s'.gens ∧ GG s.gens s'.gens) ∧ Un (frs outer) [] H H' s.heap s'.heap ∧ HOk P w H' s'.heap ∧ RelV v u ∧ Q v H'
def CR (CX : CXT) (outer : List Env) (P : Program) (w : World) (H : Hp) (s : Shared) (Q : VK) (E : XK) (r : Result) (s' : Shared) : Prop :=
  match r with
  | .ok (.ret u) => CE outer P w H s Q u s'
  | .ok _ => False
  | .error e => CX outer H s E e s'
structure FnOk (P : Program) (w : World) (K : PySem.W.Frag) (mg : Str → Option Value) (base : Heap) (CX : CXT) (k : Nat) (f : Addr) (fd : FuncData) (ps : List Str) (sp : Sp) : Prop where
  len : ∀ vs H Q E, sp vs H Q E → vs.length = ps.length
  run : ∀ (A : Around) (outer : List Env) (s : Shared) (H : Hp) (args : Args) (us : List Value) (vs : List V) (Q : VK) (E : XK), Room k A → Env0 P w K mg base A outer s H → BindsTo s fd args (ps.zip us) → Vals vs us → sp vs H Q E →
    codeAny (model P w) A (.call (.ref f) args) (CR CX outer P w H s Q E) s
theorem FnOk.mono {P : Program} {w : World} {K : PySem.W.Frag} {mg : Str → Option Value} {base : Heap} {CX : CXT} {j k : Nat} {f : Addr} {fd : FuncData} {ps : List Str} {sp : Sp} (F : FnOk P w K mg base CX j f fd ps sp) (h : j ≤ k) :
    FnOk P w K mg base CX k f fd ps sp := ⟨F.len, fun A outer s H args us vs Q E hr => F.run A outer s H args us vs Q E (hr.mono h)⟩
theorem Env0.in1 {P : Program} {w : World} {K : PySem.W.Frag} {mg : Str → Option Value} {base : Heap} {A : Around} {outer : List Env} {s : Shared} {H : Hp} (e : Env0 P w K mg base A outer s H) :
    Env0 P w K mg base A.in1 outer s H := ⟨e.frames, e.mod, e.bs, e.bsz, e.funs, e.frf, e.hok, e.bare, e.tb⟩

section
variable {X : Cx} {pins : List (Addr × Obj)} {σ : St} {H : Hp} {s s' : Shared}
/-- from a body: what a callee wants -/
theorem Inv.env0 (I : Inv X pins σ H s) : Env0 X.prog X.w X.K X.mg X.base X.A X.stack s H :=
  ⟨I.ok.frames, I.ok.mod, I.bs, Nat.le_trans I.ok.bsz I.sz, I.stack, I.stkFree, I.hok, I.bare.1, I.ok.tb.un I.base⟩
/-- behind a call -/
theorem Inv.after {Q : VK} {u : Value} (I : Inv X pins σ H s) (h : CE X.stack X.prog X.w H s Q u s') : EP X pins σ Q u s' := by
  obtain ⟨v, H', os, bare, un, hok, r, q⟩ := h
  obtain ⟨hh, g, d, t, os'⟩ := s'
  obtain rfl : os' = s.os := os
  exact ⟨v, H', I.call (h' := hh) (g' := g) (d' := d) (t' := t) (ch := []) un hok bare (fun b z => absurd z (by simp)), r, q⟩
end

/-! ### calls -/
/-- f(..): the written arguments, then the defaults dvs; E: what is wanted of an exception -/
def tCall (sp : Sp) (dvs : List V) (E : XK) (t : TA) : TE := fun σ H Q => t σ H fun vs H1 => sp (vs ++ dvs) H1 Q E
/-- how the parameters are bound: us the positional arguments, kw the keywords' values by name, ds the defaults that fill up -/
def Binds (K : PySem.W.Frag) (fd : FuncData) (ps : List Str) (ds : List Value) : Prop :=
  ∀ (s : Shared) (us : List Value), K.In s.heap → (us ++ ds).length = ps.length → BindsTo s fd ⟨us, []⟩ (ps.zip (us ++ ds))
/-- every parameter is given -/
theorem Binds.all {K : PySem.W.Frag} {fd : FuncData} {ps : List Str} (h : ∀ us : List Value, us.length = ps.length → bindArgs fd ⟨us, []⟩ = pure (ps.zip us)) : Binds K fd ps [] := fun s us _ hl => by
  rw [List.append_nil] at hl ⊢
  exact .of_eq (h us hl)

/-- an exception of a callee reaches what this body wants of exceptions -/
def Passes (CX : CXT) (X : Cx) (E : XK) : Prop := ∀ (pins : List (Addr × Obj)) (σ : St) (H : Hp) (s : Shared) (e : Value) (s' : Shared), Inv X pins σ H s → CX X.stack H s E e s' → X.xe e s'

section
variable {X : Cx} {CX : CXT} {k : Nat} {f C : Addr} {fd : FuncData} {ps : List Str} {sp : Sp} {dvs : List V} {ds : List Value} {E : XK} {x m : Str} {p pos apos : Pos} {e o : Expr} {es : List Expr} {ta : TE} {t : TA}

/-- the callee runs -/
theorem run_fn {pins : List (Addr × Obj)} {σ : St} {H : Hp} {s : Shared} {Q : VK} {us : List Value} {vs : List V} (F : FnOk X.prog X.w X.K X.mg X.base CX k f fd ps sp) (hr : Room k X.A) (hb : Binds X.K fd ps ds) (hd : Vals dvs ds) (hx : Passes CX X E)
    (I : Inv X pins σ H s) (r : Vals vs us) (h : sp (vs ++ dvs) H Q E) : wpAny (model X.prog X.w) X.A (call (.ref f) us) (EP X pins σ Q) X.xe s := by
  have r2 : Vals (vs ++ dvs) (us ++ ds) := r.append hd
  have hl : (us ++ ds).length = ps.length := by rw [← r2.length]; exact F.len _ _ _ _ h
  refine wpAny_call (codeAny_mono (F.run X.A X.stack s H ⟨us, []⟩ (us ++ ds) (vs ++ dvs) Q E hr I.env0 (hb s us I.kIn hl) r2 h) fun r s' hq => ?_)
  cases r with
  | error e => exact hx pins σ H s e s' I hq
  | ok fl =>
    cases fl with
    | ret u => exact I.after hq
    | next => exact False.elim hq
    | brk => exact False.elim hq
    | cont => exact False.elim hq

theorem pe_call (F : FnOk X.prog X.w X.K X.mg X.base CX k f fd ps sp) (hr : Room k X.A) (hg : Gl X x) (hm : X.mg x = some (.ref f)) (hk : PySem.W.keepIn X.K (.ref f) = true) (hb : Binds X.K fd ps ds) (hd : Vals dvs ds) (hx : Passes CX X E)
    (ha : PA X (e :: es) t) (hdb : (x == ("__debug__" : Str)) = false := by decide) (he : starEach (e :: es) X.env = (false, eval e X.env) :: starEach es X.env := by rfl) (hpl : (backTo pos (starEach es X.env)).any (·.1) = false := by rfl) :
    PE X (.Call (.Name x p) (e :: es) [] pos) (tCall sp dvs E t) := by
  intro pins s σ H Q I h
  refine wpAny_Call_Name_kw (ld_glob I hg hm ?_ hdb)
  refine PySem.W.callWith_K (h₀ := X.base) I.ok.mod.kin hk (thn (ha pos pins s σ H _ I h) fun us s1 ⟨vs, H1, I1, r, q⟩ => ⟨I1.kIn, ?_⟩) he hpl
  exact run_fn F hr hb hd hx I1 r q
/-- what a class must have to be made -/
structure Mk (K : PySem.W.Frag) (C f : Addr) : Prop where
  makes : PySem.W.makesIn K C = true
  init : PySem.W.findIn K (.ref C) "__init__" = some (some (.ref f))
  fn : PySem.W.isFn K (.ref f) = true
  kp : PySem.W.keepIn K (.ref C) = true

end

/-! ### keywords -/
section
variable {X : Cx} {CX : CXT} {k : Nat} {f C : Addr} {fd : FuncData} {ps ks : List Str} {sp : Sp} {E : XK} {x m : Str} {p pos apos kpos : Pos} {e o : Expr} {es : List Expr} {kws : List Keyword} {te ta : TE} {t tk : TA} {nm : Option Str}
/-- how a call with keywords binds: g puts the positional values us and the keywords' values ws (names ks) in the parameters' order, defaults among them -/
structure KBinds (K : PySem.W.Frag) (fd : FuncData) (ps ks : List Str) (g : List Value → List Value → List Value) (gV : List V → List V → List V) : Prop where
  to : ∀ (s : Shared) (us ws : List Value), K.In s.heap → (g us ws).length = ps.length → BindsTo s fd ⟨us, ks.zip ws⟩ (ps.zip (g us ws))
  rel : ∀ {vs : List V} {us : List Value} {zs : List V} {ws : List Value}, Vals vs us → Vals zs ws → Vals (gV vs zs) (g us ws)
variable {g : List Value → List Value → List Value} {gV : List V → List V → List V}
end

/-! ### a def's body keeps its promise -/
/-- names: the parameters first -/
structure FnScope (N P : List Str) (sc : Scope) : Prop where
  kind : sc.kind = .function
  co : sc.isCoroutine = false
  gen : sc.isGenerator = false
  nd : N.Nodup
  pre : N.take P.length = P
  par : ∀ x ∈ P, sc.names.lookup x = some .local ∨ sc.names.lookup x = some .cell
  nofree : ∀ y ∈ sc.names, y.2 ≠ .free

theorem bindL_out {kindOf : Str → Option NameKind} {x : Str} : ∀ {binds : List (Str × Value)} {m : Str → Option Value}, (∀ v, (x, v) ∉ binds) → bindL kindOf binds m x = m x
  | [], _, _ => rfl
  | (n, v) :: r, m, h => by
    unfold bindL
    rw [bindL_out fun w hw => h w (List.mem_cons_of_mem _ hw)]
    split
    · have : x ≠ n := by rintro rfl; exact h v List.mem_cons_self
      simp [this]
    · rfl
theorem bindC_out {kindOf : Str → Option NameKind} {x : Str} : ∀ {binds : List (Str × Value)} {m : Str → Option Value}, (∀ v, (x, v) ∉ binds) → bindC kindOf binds m x = m x
  | [], _, _ => rfl
  | (n, v) :: r, m, h => by
    unfold bindC
    rw [bindC_out fun w hw => h w (List.mem_cons_of_mem _ hw)]
    split
    · rfl
    · have : x ≠ n := by rintro rfl; exact h v List.mem_cons_self
      simp [this]
theorem bindL_get {kindOf : Str → Option NameKind} {x : Str} {v : Value} : ∀ {P : List Str} {vs : List Value} {i : Nat} {m : Str → Option Value}, P.Nodup → P[i]? = some x → vs[i]? = some v → kindOf x = some .local →
    bindL kindOf (P.zip vs) m x = some v
  | [], _, _, _, _, h, _, _ => by simp at h
  | _ :: _, [], _, _, _, _, h, _ => by simp at h
  | p :: P, w :: vs, 0, m, nd, h1, h2, hk => by
    simp at h1 h2; subst h1; subst h2
    show bindL kindOf ((p, w) :: P.zip vs) m p = _
    unfold bindL
    rw [bindL_out fun v hv => (List.nodup_cons.mp nd).1 (List.of_mem_zip hv).1, if_pos hk]
    simp
  | p :: P, w :: vs, i + 1, m, nd, h1, h2, hk => by
    show bindL kindOf ((p, w) :: P.zip vs) m x = _
    unfold bindL
    exact bindL_get (i := i) (List.nodup_cons.mp nd).2 (by simpa using h1) (by simpa using h2) hk
theorem bindC_get {kindOf : Str → Option NameKind} {x : Str} {v : Value} : ∀ {P : List Str} {vs : List Value} {i : Nat} {m : Str → Option Value}, P.Nodup → P[i]? = some x → vs[i]? = some v → kindOf x ≠ some .local →
    bindC kindOf (P.zip vs) m x = some v
  | [], _, _, _, _, h, _, _ => by simp at h
  | _ :: _, [], _, _, _, _, h, _ => by simp at h
  | p :: P, w :: vs, 0, m, nd, h1, h2, hk => by
    simp at h1 h2; subst h1; subst h2
    show bindC kindOf ((p, w) :: P.zip vs) m p = _
    unfold bindC
    rw [bindC_out fun v hv => (List.nodup_cons.mp nd).1 (List.of_mem_zip hv).1, if_neg hk]
    simp
  | p :: P, w :: vs, i + 1, m, nd, h1, h2, hk => by
    show bindC kindOf ((p, w) :: P.zip vs) m x = _
    unfold bindC
    exact bindC_get (i := i) (List.nodup_cons.mp nd).2 (by simpa using h1) (by simpa using h2) hk

/-- the names' values at the entry -/
def start (N : List Str) (vs : List V) : St := vs.map some ++ List.replicate (N.length - vs.length) none

/-- the context of a def's body, at its entry; an exception leaves the frame, then lies as CX says -/
def cxOf (CX : CXT) (P : Program) (w : World) (K : PySem.W.Frag) (mg : Str → Option Value) (base : Heap) (N : List Str) (qual : Str) (scope : Scope) (f : Addr) (cd : Value) (A : Around) (outer : List Env) (s : Shared) (H : Hp) (E : XK) : Cx where
  prog := P
  w := w
  K := K
  mg := mg
  base := base
  A := A.deeper (envOfC qual scope s.heap.objs.size f cd)
  N := N
  s_0 := s
  H_0 := H
  env := envOfC qual scope s.heap.objs.size f cd
  outer := outer
  stack := envOfC qual scope s.heap.objs.size f cd :: outer
  ex := []
  calm := true
  fn := fun _ => true
  pn := []
  xe := fun e s' => wpAny (model P w) (A.deeper (envOfC qual scope s.heap.objs.size f cd)) (leaving (envOfC qual scope s.heap.objs.size f cd) e) (fun _ s'' => CX outer H s E e s'') (fun e' s'' => CX outer H s E e' s'') s'

theorem cell_has {sc : Scope} {n : Nat} {x : Str} (h : sc.names.lookup x = some .cell) : ∃ c, (cellsFrom n sc.names []).lookup x = some c := by
  have q := PySem.W.cellsFrom_some sc.names n [] (.inl h)
  exact Option.isSome_iff_exists.mp q

theorem inv_start {CX : CXT} {P : Program} {w : World} {K : PySem.W.Frag} {mg : Str → Option Value} {base : Heap} {N ps : List Str} {qual : Str} {scope : Scope} {f : Addr} {cd : Value} {A : Around} {outer : List Env} {s s1 : Shared} {H : Hp} {E : XK} {us : List Value} {vs : List V}
    (S : FnScope N ps scope) (hd : A.handled = none) (e0 : Env0 P w K mg base A outer s H) (hl : vs.length = ps.length) (r : Vals vs us)
    (x : InCallC s s.heap.objs.size (bindL (envOfC qual scope s.heap.objs.size f cd).kindOf (ps.zip us) fun _ => none) (cellsFrom (s.heap.objs.size + 1) scope.names []) (bindC (envOfC qual scope s.heap.objs.size f cd).kindOf (ps.zip us) fun _ => none) s1) :
    Inv (cxOf CX P w K mg base N qual scope f cd A outer s H E) [] (start N vs) H s1 := by
  have hpl : ps.length ≤ N.length := by have := congrArg List.length S.pre; rw [List.length_take] at this; omega
  obtain ⟨h1, tk, rfl, hk⟩ := x.done
  have noA : ∀ b : Addr, b ∉ (cxOf CX P w K mg base N qual scope f cd A outer s H E).ex := fun b z => absurd (show b ∈ ([] : List Addr) from z) (by simp)
  refine ⟨⟨e0.mod, S.kind, rfl, rfl, Nat.le_refl _, fun y z c h1 h2 => ?_, fun y hy => ?_, fun y c _ h => ?_, fun _ => hd, Around.frames_deeper e0.frames, .inr ⟨rfl, rfl⟩, fun b z => absurd z (noA b), e0.bs, e0.bsz, fun b _ _ => noA b, fun b z => absurd z (noA b), e0.funs, e0.frf, e0.tb⟩,
    rfl, ⟨e0.bare, by first | exact GG.refl _ | simpa using GG.refl _⟩, Un.kept hk, ⟨_, x.toInCall.ns, fun i y v h1 h2 h3 => ?_⟩, fun y c h => ⟨_, x.cell y c h⟩, e0.hok.fresh (Nat.le_refl _), fun y c h => ?_, fun p hp => absurd (show p ∈ ([] : List (Addr × Obj)) from hp) (by simp), e0.hok.kept hk, ?_⟩
  · exact name_of_addr x.apart (PySem.mem_of_lookup h1) (PySem.mem_of_lookup h2)
  · have hy : scope.names.lookup y = some .cell ∨ scope.names.lookup y = some .free := hy
    rcases hy with hy | hy
    · exact cell_has hy
    · exact absurd rfl (S.nofree _ (PySem.mem_of_lookup hy))
  · exact Nat.le_of_lt (x.above y c (PySem.mem_of_lookup h))
  · have hi : i < vs.length := by
      unfold start at h2
      by_cases hi : i < vs.length
      · exact hi
      · rw [List.getElem?_append_right (by simpa using hi)] at h2
        rw [List.getElem?_replicate] at h2
        split at h2 <;> cases h2
    have ha : vs[i]? = some v := by
      unfold start at h2
      rw [List.getElem?_append_left (by simpa using hi), List.getElem?_map] at h2
      cases e : vs[i]? with
      | none => rw [e] at h2; cases h2
      | some a => rw [e] at h2; cases h2; rfl
    obtain ⟨u, hu, rv⟩ := r.get ha
    have hp : ps[i]? = some y := by
      rw [← S.pre, List.getElem?_take_of_lt (by omega)]; exact h1
    have ndP : ps.Nodup := by rw [← S.pre]; exact S.nd.sublist (List.take_sublist _ _)
    refine ⟨u, rv, ?_⟩
    rcases S.par y (List.mem_of_getElem? hp) with k | k
    · exact .inl ⟨k, bindL_get ndP hp hu k⟩
    · obtain ⟨c, e⟩ := cell_has (n := s.heap.objs.size + 1) k
      refine .inr ⟨.inl k, c, e, ?_⟩
      have q := x.cell y c e
      rw [bindC_get ndP hp hu (by show scope.names.lookup y ≠ _; rw [k]; decide)] at q
      exact q
  · exact e0.hok.fresh (Nat.le_of_lt (x.above y c (PySem.mem_of_lookup h)))
  · unfold start
    show _ = N.length
    rw [List.length_append, List.length_map, List.length_replicate]
    omega

/-- THE RULE: a def (or a method) of the text, by its body. The body's reading t is chosen for each entry; it is run at the parameters' values -/
theorem fn_of {CX : CXT} {P : Program} {w : World} {K : PySem.W.Frag} {mg : Str → Option Value} {base : Heap} {k : Nat} {f : Addr} {name qual : Str} {params : Arguments} {body : List Stmt} {scope : Scope} {dV kV doc pm cdv ct oc : Value} {an od : Option Addr}
    {osl : Array (Option Value)} {N ps : List Str} {sp : Sp} (lk : K.lookup f = some ⟨oc, od, .func (PySem.W.fnOf name qual params body scope dV kV doc pm an cdv ct), osl⟩) (hcd : PySem.W.codeIn K cdv qual = true) (S : FnScope N ps scope)
    (len : ∀ vs H Q E, sp vs H Q E → vs.length = ps.length)
    (hbody : ∀ (A : Around) (outer : List Env) (s : Shared) (H : Hp) (vs : List V) (Q : VK) (E : XK), Room k (A.deeper (envOfC qual scope s.heap.objs.size f cdv)) → sp vs H Q E →
      ∃ t, PSs (cxOf CX P w K mg base N qual scope f cdv A outer s H E) body t ∧ t { nx := fun _ H' => Q .non H', rt := Q } (start N vs) H) :
    FnOk P w K mg base CX (k + 1) f (PySem.W.fnOf name qual params body scope dV kV doc pm an cdv ct) ps sp := by
  refine ⟨len, fun A outer s H args us vs Q E hr e0 hb r hsp => ?_⟩
  have hl := len _ _ _ _ hsp
  have KX : K.In s.heap := e0.mod.kin.keeps fun b o e => (e0.bs b o e).1
  have lim : s.heap.NoLimit := e0.mod.nolimit.keeps fun b o e => (e0.bs b o e).1
  have hkind : ∀ y ∈ ps.zip us, scope.names.lookup y.1 = some .local ∨ (scope.names.lookup y.1 = some .cell ∧ ((cellsFrom (s.heap.objs.size + 1) scope.names []).lookup y.1).isSome = true) := fun ⟨n, v⟩ hy => by
    rcases S.par n (List.of_mem_zip hy).1 with q | q
    · exact .inl q
    · exact .inr ⟨q, PySem.W.cellsFrom_some _ _ _ (.inl q)⟩
  refine codeAny_call_function hr.depth (KX _ _ lk) rfl S.co S.gen rfl (PySem.W.codeRec_of KX hcd) (hb _ _ _ _ ?_)
  refine wpAny_newFunctionEnv_cells S.kind hkind fun env he s1 x => ?_
  subst he
  refine ⟨lim.keeps x.toInCall.keep, codeAny_func ?_⟩
  obtain ⟨t, ht, hq⟩ := hbody A outer s H vs Q E (hr.deeper _) hsp
  have I : Inv (cxOf CX P w K mg base N qual scope f cdv A outer s H E) [] (start N vs) H s1 := inv_start S hr.hd e0 hl r x
  refine wpAny_mono (ht [] s1 (start N vs) H _ I hq) (fun fl s' hs => ?_) fun e s' hs => hs
  have fin : ∀ {σ' : St} {H' : Hp} {v : V} {u : Value}, Inv (cxOf CX P w K mg base N qual scope f cdv A outer s H E) [] σ' H' s' → RelV v u → Q v H' → CE outer P w H s Q u s' :=
    fun {σ' H' v u} J rv q => ⟨v, H', J.os, J.bare, J.base, J.hok, rv, q⟩
  cases fl with
  | ret u =>
    obtain ⟨v, σ', H', J, rv, q⟩ := hs
    exact fin J rv q
  | next =>
    obtain ⟨σ', H', J, q⟩ := hs
    exact fin (v := V.non) (u := Value.none) J rfl q
  | brk =>
    obtain ⟨_, _, _, q⟩ := hs
    exact False.elim q
  | cont =>
    obtain ⟨_, _, _, q⟩ := hs
    exact False.elim q
end L2

namespace L2
open PySem PySem.Spec PyProof.Rows
section
variable {X : Cx} {x : Str} {p pos : Pos} {e : Expr} {es : List Expr} {t : TA} {id T : String} {r : List V → Hp → VK → Prop}

def tCB (r : List V → Hp → VK → Prop) (t : TA) : TE := fun σ H Q => t σ H fun vs H1 => r vs H1 Q
/-- f(e, ..), f a built-in function -/
theorem pe_callB (hc : CallR X (.builtin id) r) (hg : Gl X x) (hm : X.mg x = none) (hv : bootBuiltins x = some (.builtin id)) (ha : PA X (e :: es) t) (hn : x ≠ "__name__" := by decide) (hdb : (x == ("__debug__" : Str)) = false := by decide)
    (he : starEach (e :: es) X.env = (false, eval e X.env) :: starEach es X.env := by rfl) (hpl : (backTo pos (starEach es X.env)).any (·.1) = false := by rfl) : PE X (.Call (.Name x p) (e :: es) [] pos) (tCB r t) := by
  intro pins s σ H Q I h
  refine wpAny_Call_Name_kw (ld_blt I hg hm hv ?_ hn hdb)
  exact PyProof.Rows.callWith_builtin1 (thn (ha pos pins s σ H _ I h) fun us s1 ⟨vs, H1, I1, r1, q1⟩ => hc pins s1 σ H1 vs us Q I1 r1 q1) he hpl
/-- T(e, ..), T a built-in type -/
theorem pe_callTy (hc : CallR X (.type T) r) (hg : Gl X x) (hm : X.mg x = none) (hv : bootBuiltins x = some (.type T)) (ha : PA X (e :: es) t) (hn : x ≠ "__name__" := by decide) (hdb : (x == ("__debug__" : Str)) = false := by decide)
    (he : starEach (e :: es) X.env = (false, eval e X.env) :: starEach es X.env := by rfl) (hpl : (backTo pos (starEach es X.env)).any (·.1) = false := by rfl) : PE X (.Call (.Name x p) (e :: es) [] pos) (tCB r t) := by
  intro pins s σ H Q I h
  refine wpAny_Call_Name_kw (ld_blt I hg hm hv ?_ hn hdb)
  exact PyProof.Rows.callWith_type1 (thn (ha pos pins s σ H _ I h) fun us s1 ⟨vs, H1, I1, r1, q1⟩ => hc pins s1 σ H1 vs us Q I1 r1 q1) he hpl
end
end L2

namespace HT
open PySem PyProof.Rows

section
open PySem.SeqAt
open PySem.AutoSeq1 (wpAny_loadPart')
open PySem.MeetsSeq PySem.MeetsSeq2 PySem.MeetsSeq3

end

section
variable {prog : Program} {w : World} {A : Around} {E : Value → Shared → Prop} {s : Shared}

/-- t + u, t not empty -/
theorem cat_tup {t b : Addr} {vs ws : List Value} {Q : Value → Shared → Prop} (ht : IsTup s.heap t vs.toArray) (hb : IsTup s.heap b ws.toArray) (hv : vs ≠ [])
    (h1 : ws = [] → Q (.ref t) s) (h2 : ws ≠ [] → Q (.ref s.heap.objs.size) { s with heap := s.heap.push { cls := .type "tuple", data := .seq (vs ++ ws).toArray } })
    (hsz : vs.length + ws.length ≤ sizeLine) : wpAny (model prog w) A (binaryOp .Add (.ref t) (.ref b)) Q E s := by
  obtain ⟨⟨cls, dd, data, sl⟩, ho, hc, n, hd⟩ := id ht
  obtain ⟨⟨cls2, dd2, data2, sl2⟩, ho2, hc2, n2, hd2⟩ := id hb
  simp only at hc hd hc2 hd2
  subst hc hd hc2 hd2
  have e : vs.toArray ++ ws.toArray = (vs ++ ws).toArray := by simp
  by_cases hw : ws = []
  · exact concat_meets ⟨_, ho, rfl⟩ ⟨_, ho2, rfl⟩ noFill_tuple_add seq_tuple_add PySem.F.slot_tuple_add PySem.F.entry_tuple_add (PySem.F.args_tuple_add_2 _ _)
      (tuple_addW1 t b vs.toArray ws.toArray n n2 dd dd2 sl sl2 (by simpa using hv) (by simp [hw])) ⟨ho, ho2, h1 hw⟩
  · refine concat_meets ⟨_, ho, rfl⟩ ⟨_, ho2, rfl⟩ noFill_tuple_add seq_tuple_add PySem.F.slot_tuple_add PySem.F.entry_tuple_add (PySem.F.args_tuple_add_2 _ _)
      (tuple_addW2 t b vs.toArray ws.toArray n n2 dd dd2 sl sl2 (by simpa using hv) (by simpa using hw) (by rw [List.size_toArray, List.size_toArray]; exact hsz)) ⟨ho, ho2, ?_⟩
    rw [e]
    exact h2 hw

/-! ### t[a:b], not the whole -/
/-- a slice's bound as a place among n (d where it is left out) -/
def sIx (n d : Nat) : Option Int → Nat
  | none => d
  | some v => if v < 0 then (v + (n : Int)).toNat else min v.toNat n
theorem sIx_le (n d : Nat) (hd : d ≤ n) (o : Option Int) : sIx n d o ≤ n := by
  cases o with
  | none => exact hd
  | some v =>
    show (if v < 0 then (v + (n : Int)).toNat else min v.toNat n) ≤ n
    by_cases hv : v < 0
    · rw [if_pos hv]; omega
    · rw [if_neg hv]; exact Nat.min_le_right _ _
theorem clip_eq (v : Int) (n d : Nat) : (if v < 0 then max (v + (n : Int)) 0 else min v (n : Int)) = ((sIx n d (some v) : Nat) : Int) := by
  show (if v < 0 then max (v + (n : Int)) 0 else min v (n : Int)) = (((if v < 0 then (v + (n : Int)).toNat else min v.toNat n) : Nat) : Int)
  by_cases hv : v < 0
  · simp only [if_pos hv]; omega
  · simp only [if_neg hv]; omega
theorem adjust_gen (lo hi : Option Int) (n : Nat) : Builtin.Slice.sliceAdjust lo hi 1 (n : Int) = (((sIx n 0 lo : Nat) : Int), ((sIx n n hi : Nat) : Int)) := by
  have h1 : ¬ ((1 : Int) < 0) := by omega
  unfold Builtin.Slice.sliceAdjust
  simp only [h1, if_false]
  refine Prod.ext ?_ ?_
  · cases lo with
    | none => rfl
    | some v => exact clip_eq v n 0
  · cases hi with
    | none => rfl
    | some v => exact clip_eq v n n
theorem places_gen (i j : Nat) : Builtin.Slice.slicePlaces (i : Int) (j : Int) 1 = j - i := by
  unfold Builtin.Slice.slicePlaces
  have h1 : (1 : Int) > 0 := by omega
  simp only [h1, if_true, Int.ediv_one]
  split <;> omega
theorem slicePart_ {v : Value} {o : Option Int} {Q : Option Int → Shared → Prop} (p : IsPart v o) (h : Q o s) : wpAny (model prog w) A (Builtin.Slice.slicePartIndex v) Q E s := by
  cases p with
  | none => exact slicePart_none h
  | int i t => exact slicePart_int h
theorem sliceApplied_gen {sl : Addr} {vl vu : Value} {lo hi : Option Int} {n : Nat} {Q : Int × Int × Nat → Shared → Prop} (hs : s.heap.IsSliceOf sl vl vu .none) (pl : IsPart vl lo) (pu : IsPart vu hi)
    (h : Q (((sIx n 0 lo : Nat) : Int), 1, sIx n n hi - sIx n 0 lo) s) : wpAny (model prog w) A (Builtin.Slice.sliceApplied (.ref sl) (pure (n : Int))) Q E s := by
  obtain ⟨os, hos, hcs, hds⟩ := id hs
  unfold Builtin.Slice.sliceApplied Builtin.Slice.sliceFields
  refine wpAny_bind (wpAny_bind (wpAny_field hos hds (x := vl) rfl (wpAny_bind (wpAny_field hos hds (x := vu) rfl (wpAny_bind (wpAny_field hos hds (x := .none) rfl (wpAny_pure ?_)))))))
  refine wpAny_bind (slicePart_none ?_)
  show wpAny _ _ (if ((1 : Int) == 0) = true then _ else _) _ _ s
  rw [if_neg (by decide)]
  refine wpAny_bind (slicePart_ pl (wpAny_bind (slicePart_ pu (wpAny_bind (wpAny_pure ?_)))))
  show wpAny _ _ (match Builtin.Slice.sliceAdjust lo hi 1 (n : Int) with | (lo, hi) => pure (lo, (1 : Int), Builtin.Slice.slicePlaces lo hi 1)) _ _ s
  rw [adjust_gen lo hi n]
  show wpAny _ _ (pure (((sIx n 0 lo : Nat) : Int), (1 : Int), Builtin.Slice.slicePlaces ((sIx n 0 lo : Nat) : Int) ((sIx n n hi : Nat) : Int) 1)) _ _ s
  rw [places_gen]
  exact wpAny_pure h
theorem pick_gen (xs : Array Value) (i k : Nat) : ((List.range k).filterMap fun (m : Nat) => xs[((i : Int) + (m : Int) * 1).toNat]?).toArray = ((xs.toList.drop i).take k).toArray := by
  have e : (fun (m : Nat) => xs[((i : Int) + (m : Int) * 1).toNat]?) = fun m => xs[i + m]? := by
    funext m
    have : ((i : Int) + (m : Int) * 1).toNat = i + m := by omega
    rw [this]
  rw [e]
  have := pick_run xs i k
  rw [List.filterMap_map] at this
  have e2 : ((fun x => xs[x]?) ∘ fun x => i + x) = fun m => xs[i + m]? := rfl
  rw [e2] at this
  rw [this]

theorem getItem_tuple_cut {t sl : Addr} {items : Array Value} {vl vu : Value} {lo hi : Option Int} {Q : Value → Shared → Prop} (ht : IsTup s.heap t items) (hs : s.heap.IsSliceOf sl vl vu .none) (pl : IsPart vl lo) (pu : IsPart vu hi)
    (hw : ¬ (sIx items.size 0 lo = 0 ∧ sIx items.size items.size hi = items.size))
    (h : Q (.ref s.heap.objs.size) { s with heap := s.heap.push { cls := .type "tuple", data := .seq ((items.toList.drop (sIx items.size 0 lo)).take (sIx items.size items.size hi - sIx items.size 0 lo)).toArray } })
    (hsz : items.size ≤ sizeLine) : wpAny (model prog w) A (getItem (.ref t) (.ref sl)) Q E s := by
  have htake : sizeOk (.seq ((items.toList.drop (sIx items.size 0 lo)).take (sIx items.size items.size hi - sIx items.size 0 lo)).toArray) := by
    show ((items.toList.drop (sIx items.size 0 lo)).take (sIx items.size items.size hi - sIx items.size 0 lo)).toArray.size ≤ sizeLine
    rw [List.size_toArray, List.length_take, List.length_drop, Array.length_toList]
    omega
  have hj : sIx items.size items.size hi ≤ items.size := sIx_le _ _ (Nat.le_refl _) hi
  obtain ⟨os, hos, hcs, hds⟩ := id hs
  have hTs : s.TypeIs (.ref sl) "slice" := ⟨os, hos, hcs⟩
  unfold getItem
  try with_reducible refine wpAny_holding ?_
  first | refine wpAny_bind (wpAny_pure ?_) | skip
  refine wpAny_bind (wpAny_sequenceKey ht.typeIs (by decide) ?_)
  refine wpAny_bind (wpAny_callSpecial?_slot (name := Str.ofString "__getitem__") ht.typeIs PyProof.Rows.slot_tuple_getitem
    (wpAny_call_entry PyProof.Rows.slot_tuple_getitem ht.typeIs entry_tuple_getitem ?_ (args_tuple_getitem _ _)))
  show wpAny _ _ (Builtin.Tuple.tupleItemsOf (.ref t) >>= _) _ _ s
  refine wpAny_bind (tupleItemsOf_ ht ?_)
  refine wpAny_bind (wpAny_typeOf hTs ?_)
  rw [if_pos (by decide)]
  refine wpAny_bind (sliceApplied_gen hs pl pu ?_)
  have hno : ¬ ((((sIx items.size 0 lo : Nat) : Int) == 0 && (1 : Int) == 1 && (sIx items.size items.size hi - sIx items.size 0 lo) == items.size) = true) := by
    intro q
    rw [Bool.and_eq_true, Bool.and_eq_true] at q
    have q1 : ((sIx items.size 0 lo : Nat) : Int) = 0 := eq_of_beq q.1.1
    have q2 : sIx items.size items.size hi - sIx items.size 0 lo = items.size := eq_of_beq q.2
    exact hw ⟨by omega, by omega⟩
  show wpAny _ _ (if (((sIx items.size 0 lo : Nat) : Int) == 0 && (1 : Int) == 1 && (sIx items.size items.size hi - sIx items.size 0 lo) == items.size) = true then _ else _) _ _ s
  rw [if_neg hno, pick_gen]
  first
    | exact wpAny_bind (m := Builtin.Tuple.tupleExact _) (wpAny_newObj_type (wpAny_pure ⟨_, rfl, wpAny_pure h⟩) htake)
    | exact wpAny_bind (m := Builtin.Tuple.tupleExact _) (wpAny_newObj_type (wpAny_bind (wpAny_pure (wpAny_pure ⟨_, rfl, wpAny_pure h⟩))) htake)
    | exact wpAny_bind (wpAny_bind (m := Builtin.Tuple.tupleExact _) (wpAny_newObj_type (wpAny_pure (wpAny_pure ⟨_, rfl, wpAny_pure h⟩)) htake))
    | exact wpAny_bind (wpAny_bind (m := Builtin.Tuple.tupleExact _) (wpAny_newObj_type (wpAny_pure ⟨_, rfl, wpAny_pure h⟩) htake))
end
end HT

namespace L2
open PySem PySem.Spec PyProof.Rows

/-! ### the parts of a slice -/
abbrev TO := St → Hp → (Option Int → Hp → Prop) → Prop
/-- a slice's part (left out, or an int) -/
def PO (X : Cx) (e : Option Expr) (t : TO) : Prop :=
  ∀ (pins : List (Addr × Obj)) (s : Shared) (σ : St) (H : Hp) (Q : Option Int → Hp → Prop), Inv X pins σ H s → t σ H Q →
    wpAny (model X.prog X.w) X.A (evalPart e X.env) (fun u s' => ∃ o H', Inv X pins σ H' s' ∧ IsPart u o ∧ Q o H') X.xe s
def tNoPart : TO := fun _ H Q => Q none H
def tPart (t : TE) : TO := fun σ H Q => t σ H fun x H1 => ∃ i, x = .int i ∧ Q (some i) H1

section
variable {X : Cx} {e : Expr} {te : TE} {lo hi : Option Expr} {tl th : TO} {pos p2 : Pos}

theorem po_none : PO X none tNoPart := by
  intro pins s σ H Q I h
  rw [evalPart_none]
  exact wpAny_pure ⟨none, H, I, .none, h⟩
theorem po_some (h : PE X e te) : PO X (some e) (tPart te) := by
  intro pins s σ H Q I hw
  rw [evalPart_some]
  refine thn (h pins s σ H _ I hw) fun u s1 ⟨x, H1, I1, r1, q1⟩ => ?_
  obtain ⟨i, rfl, q⟩ := q1
  obtain ⟨t, rfl⟩ := r1
  exact ⟨some i, H1, I1, .int i t, q⟩

/-- what a slice of a value is, by values: the slice object stands at sl -/
def SlR (X : Cx) (r : V → Option Int → Option Int → Hp → VK → Prop) : Prop :=
  ∀ (pins : List (Addr × Obj)) (s : Shared) (σ : St) (H : Hp) (x : V) (v vl vu : Value) (lo hi : Option Int) (sl : Addr) (Q : VK), Inv X pins σ H s → RelV x v → s.heap.IsSliceOf sl vl vu .none → IsPart vl lo → IsPart vu hi → r x lo hi H Q →
    ∃ T id, typeLookup (.type T) "__getitem__" = pure (some (.builtin id)) ∧ s.TypeIs v T ∧ wpAny (model X.prog X.w) X.A (getItem v (.ref sl)) (EP X pins σ Q) X.xe s
theorem SlR.or {r r' : V → Option Int → Option Int → Hp → VK → Prop} (h : SlR X r) (h' : SlR X r') : SlR X (fun x lo hi H Q => r x lo hi H Q ∨ r' x lo hi H Q) := by
  intro pins s σ H x v vl vu lo hi sl Q I rx hs pl pu q
  rcases q with q | q
  · exact h pins s σ H x v vl vu lo hi sl Q I rx hs pl pu q
  · exact h' pins s σ H x v vl vu lo hi sl Q I rx hs pl pu q
def tSl (r : V → Option Int → Option Int → Hp → VK → Prop) (te : TE) (tl th : TO) : TE := fun σ H Q => te σ H fun x H1 => tl σ H1 fun l H2 => th σ H2 fun u H3 => r x l u H3 Q
/-- a[lo:hi], any a -/
theorem pe_slice {r : V → Option Int → Option Int → Hp → VK → Prop} (hr : SlR X r) (he : PE X e te) (hl : PO X lo tl) (hu : PO X hi th) : PE X (.Subscript e (.Slice lo hi none p2) pos) (tSl r te tl th) := by
  intro pins s σ H Q I h
  refine Subscript_ (thn (he pins s σ H _ I h) fun v s1 ⟨x, H1, I1, r1, q1⟩ => ?_)
  refine wpAny_Slice (thn (hl pins s1 σ H1 _ I1 q1) fun vl s2 ⟨l, H2, I2, pl, q2⟩ => thn (hu pins s2 σ H2 _ I2 q2) fun vu s3 ⟨u, H3, I3, pu, q3⟩ => ?_)
  rw [evalPart_none]
  refine wpAny_pure ?_
  have I4 : Inv X pins σ H3 { s3 with heap := s3.heap.push { cls := .type "slice", data := .fields #[vl, vu, .none] } } := I3.kept (t' := s3.toks) fun b ob q => Heap.get?_push_of_some _ q
  obtain ⟨T, id, hT, ht, hg⟩ := hr pins { s3 with heap := s3.heap.push { cls := .type "slice", data := .fields #[vl, vu, .none] } } σ H3 x v vl vu l u s3.heap.objs.size Q I4 r1 (Heap.IsSliceOf.new ..) pl pu q3
  show wpAny (model X.prog X.w) X.A (subscriptTail e (.Slice lo hi none p2) v (.ref s3.heap.objs.size)) (EP X pins σ Q) X.xe { s3 with heap := s3.heap.push { cls := .type "slice", data := .fields #[vl, vu, .none] } }
  exact tail_any (ops := [.ref s3.heap.objs.size, v]) ht hT hg (by with_unfolding_all rfl)

/-- the items of xs[lo:hi] -/
def cutV (xs : List V) (lo hi : Option Int) : List V := (xs.drop (HT.sIx xs.length 0 lo)).take (HT.sIx xs.length xs.length hi - HT.sIx xs.length 0 lo)
theorem cutV_length (xs : List V) (lo hi : Option Int) : (cutV xs lo hi).length ≤ xs.length := by
  unfold cutV
  rw [List.length_take, List.length_drop]
  omega
/-- t[lo:hi], not the whole of it (the whole would be t itself) -/
def rSlT (K : PySem.W.Frag) : V → Option Int → Option Int → Hp → VK → Prop := fun x lo hi H Q => ∃ a xs, x = .ref a ∧ SqT K H a xs ∧
  ¬ (HT.sIx xs.length 0 lo = 0 ∧ HT.sIx xs.length xs.length hi = xs.length) ∧ ∀ p, H p = none → Q (.ref p) (upd H p (.tup (cutV xs lo hi)))
theorem sl_tup : SlR X (rSlT X.K) := by
  intro pins s σ H x v vl vu lo hi sl Q I rx hs pl pu h
  obtain ⟨a, xs, rfl, hx, hw, q⟩ := h
  cases rx
  obtain ⟨its, r, ht, hz⟩ := I.tuple hx
  have hlen : its.toArray.size = xs.length := by rw [List.size_toArray]; exact r.length.symm
  refine ⟨"tuple", _, PyProof.Rows.slot_tuple_getitem.lookup, ht.typeIs, ?_⟩
  refine HT.getItem_tuple_cut ht hs pl pu (by rw [hlen]; exact hw) ?_ (by rw [hlen]; exact hz)
  rw [hlen]
  refine ⟨.ref s.heap.objs.size, _, I.laid (t' := s.toks) (o := .tup (cutV xs lo hi)) (fun b ob q => Heap.get?_push_of_some _ q) (Nat.le_refl _) ?_, rfl, q _ (I.hok.fresh (Nat.le_refl _))⟩
  exact ⟨Nat.le_trans (cutV_length xs lo hi) hz, _, (r.drop (HT.sIx xs.length 0 lo)).take (HT.sIx xs.length xs.length hi - HT.sIx xs.length 0 lo), IsTup.new _ _⟩

/-! ### t < u, t + u -/
/-- t + u, t not empty: u empty gives t itself -/
def rCatT (K : PySem.W.Frag) : R2 := fun x y H Q => ∃ a b xs ys, x = .ref a ∧ y = .ref b ∧ SqT K H a xs ∧ SqT K H b ys ∧ xs ≠ [] ∧ xs.length + ys.length ≤ sizeLine ∧
  (ys = [] → Q (.ref a) H) ∧ (ys ≠ [] → ∀ p, H p = none → Q (.ref p) (upd H p (.tup (xs ++ ys))))
theorem Vals.nil_iff {xs : List V} {us : List Value} (r : Vals xs us) : us = [] ↔ xs = [] := by
  cases r with
  | nil => simp
  | cons _ _ => simp
theorem op_catT : OpR X (binaryOp .Add) (rCatT X.K) := by
  intro pins s σ H x y v u Q I rx ry h
  obtain ⟨a, b, xs, ys, rfl, rfl, ha, hb, hx, hz, q1, q2⟩ := h
  cases rx
  cases ry
  obtain ⟨its, r1, p1, _⟩ := I.tuple ha
  obtain ⟨its2, r2, p2, _⟩ := I.tuple hb
  refine HT.cat_tup p1 p2 (fun z => hx (r1.nil_iff.mp z)) (fun z => ⟨.ref a, H, I, rfl, q1 (r2.nil_iff.mp z)⟩) (fun z => ?_) (by rw [← r1.length, ← r2.length]; exact hz)
  refine ⟨.ref s.heap.objs.size, _, I.laid (t' := s.toks) (o := .tup (xs ++ ys)) (fun b ob q => Heap.get?_push_of_some _ q) (Nat.le_refl _) ?_, rfl, q2 (fun w => z (r2.nil_iff.mpr w)) _ (I.hok.fresh (Nat.le_refl _))⟩
  exact ⟨by rw [List.length_append]; exact hz, _, r1.append r2, IsTup.new _ _⟩
end
end L2

namespace L2
open PySem PySem.Spec PyProof.Rows

/-! ### places -/
/-- the place that an index of any sign means -/
def ixN (n : Nat) (i : Int) : Option Nat := if 0 ≤ i then (if i < n then some i.toNat else none) else if -(n : Int) ≤ i then some (i + n).toNat else none
def atI {α : Type} (xs : List α) (i : Int) : Option α := (ixN xs.length i).bind fun j => xs[j]?
theorem ixN_seq {n : Nat} {i : Int} {j : Nat} (h : ixN n i = some j) : seqIndex? i n = some j ∧ j < n ∧ -(n : Int) ≤ i ∧ i < n := by
  unfold ixN at h
  by_cases h0 : 0 ≤ i
  · rw [if_pos h0] at h
    by_cases h1 : i < n
    · rw [if_pos h1] at h
      have e : i.toNat = j := Option.some.inj h
      exact ⟨by rw [seqIndex_of h0 h1, e], by omega, by omega, h1⟩
    · rw [if_neg h1] at h; cases h
  · rw [if_neg h0] at h
    by_cases h1 : -(n : Int) ≤ i
    · rw [if_pos h1] at h
      have e : (i + n).toNat = j := Option.some.inj h
      exact ⟨by rw [seqIndex_neg (by omega) h1, e], by omega, h1, by omega⟩
    · rw [if_neg h1] at h; cases h
theorem atI_get {α : Type} {xs : List α} {i : Int} {v : α} (h : atI xs i = some v) : ∃ j, seqIndex? i xs.length = some j ∧ xs[j]? = some v ∧ j < xs.length ∧ -(xs.length : Int) ≤ i ∧ i < xs.length := by
  unfold atI at h
  cases e : ixN xs.length i with
  | none => rw [e] at h; cases h
  | some j =>
    rw [e] at h
    obtain ⟨h1, h2, h3, h4⟩ := ixN_seq e
    exact ⟨j, h1, h, h2, h3, h4⟩
theorem atI_nat {α : Type} {xs : List α} {j : Nat} {v : α} (h : xs[j]? = some v) : atI xs (j : Int) = some v := by
  have hj : j < xs.length := (List.getElem?_eq_some_iff.mp h).1
  have e : ixN xs.length (j : Int) = some j := by
    unfold ixN
    rw [if_pos (by omega), if_pos (by omega)]; simp
  unfold atI; rw [e]; exact h
/-! ### what may be subscripted -/
/-- what stands as an index of a plain subscript -/
def PlainIx (b : Expr) : Prop := ∀ o i, subscripted b false o i = operate [o, i] (getItem o i)
/-- a subscript by values -/
def IxR (X : Cx) (r : R2) : Prop :=
  ∀ (value slice : Expr) (pins : List (Addr × Obj)) (s : Shared) (σ : St) (H : Hp) (x y : V) (v u : Value) (Q : VK), Inv X pins σ H s → RelV x v → RelV y u → r x y H Q →
    subscripted slice false v u = operate [v, u] (getItem v u) → wpAny (model X.prog X.w) X.A (subscriptTail value slice v u) (EP X pins σ Q) X.xe s
/-- a call of a builtin's method by values: the receiver, the arguments -/
def MtR (X : Cx) (id : String) (r : V → List V → Hp → VK → Prop) : Prop :=
  ∀ (pins : List (Addr × Obj)) (s : Shared) (σ : St) (H : Hp) (x : V) (xs : List V) (v : Value) (us : List Value) (Q : VK), Inv X pins σ H s → RelV x v → Vals xs us → r x xs H Q →
    wpAny (model X.prog X.w) X.A (call (.builtin id) (v :: us)) (EP X pins σ Q) X.xe s
section
variable {X : Cx} {a b : Expr} {ta tb : TE} {pos : Pos}
theorem IxR.or {r r' : R2} (h : IxR X r) (h' : IxR X r') : IxR X (fun x y H Q => r x y H Q ∨ r' x y H Q) := by
  intro value slice pins s σ H x y v u Q I rx ry q hs
  rcases q with q | q
  · exact h value slice pins s σ H x y v u Q I rx ry q hs
  · exact h' value slice pins s σ H x y v u Q I rx ry q hs
theorem MtR.or {id : String} {r r' : V → List V → Hp → VK → Prop} (h : MtR X id r) (h' : MtR X id r') : MtR X id (fun x xs H Q => r x xs H Q ∨ r' x xs H Q) := by
  intro pins s σ H x xs v us Q I rx rs q
  rcases q with q | q
  · exact h pins s σ H x xs v us Q I rx rs q
  · exact h' pins s σ H x xs v us Q I rx rs q
/-- a[b] -/
theorem pe_ix {r : R2} (hr : IxR X r) (ha : PE X a ta) (hb : PE X b tb) (hs : PlainIx b) : PE X (.Subscript a b pos) (tOp r ta tb) := by
  intro pins s σ H Q I h
  exact Subscript_ (binT ha hb I h fun v u s2 x y H2 I2 rx ry q => hr a b pins s2 σ H2 x y v u Q I2 rx ry q (hs _ _))

def rIxL (K : PySem.W.Frag) : R2 := fun x y H Q => ∃ p xs i v, x = .ref p ∧ y = .int i ∧ SqL K H p xs ∧ atI xs i = some v ∧ Q v H
def rIxT (K : PySem.W.Frag) : R2 := fun x y H Q => ∃ p xs i v, x = .ref p ∧ y = .int i ∧ SqT K H p xs ∧ atI xs i = some v ∧ Q v H
def rIxS : R2 := fun x y H Q => ∃ z i c, x = .str z ∧ y = .int i ∧ z.length ≤ sizeLine ∧ atI z.cps.toList i = some c ∧ Q (.str ⟨#[c]⟩) H
theorem ix_list : IxR X (rIxL X.K) := by
  intro value slice pins s σ H x y v u Q I rx ry h hs
  obtain ⟨p, xs, i, z, rfl, rfl, hq, he, q⟩ := h
  cases rx
  obtain ⟨t, rfl⟩ := ry
  obtain ⟨its, r, pl, hz⟩ := I.list hq
  obtain ⟨j, h1, h2, h3, h4, h5⟩ := atI_get he
  obtain ⟨w, ew, rw'⟩ := r.get h2
  have hl := r.length
  have hn := line63
  have fin : EP X pins σ Q w s := ⟨z, H, I, rw', q⟩
  by_cases h0 : 0 ≤ i
  · have hj : i.toNat = j := by
      rw [seqIndex_of h0 h5] at h1
      exact Option.some.inj h1
    exact item_listR pl.isList h0 (by omega) (by rw [hj]; simpa using ew) fin hs
  · have hj : (i + (its.toArray.size : Int)).toNat = j := by
      rw [seqIndex_neg (by omega) h4] at h1
      rw [List.size_toArray, ← hl]
      exact Option.some.inj h1
    exact subscriptTail_builtinR (x := w) pl.isList.typeIs slot_list_getitem.lookup
      (wpAny_getItem_list_neg (Q := fun r s' => r = w ∧ EP X pins σ Q r s') pl.isList (by omega) (by rw [List.size_toArray] <;> omega) (by omega) (by rw [hj]; simpa using ew) ⟨rfl, fin⟩) hs
theorem ix_tup : IxR X (rIxT X.K) := by
  intro value slice pins s σ H x y v u Q I rx ry h hs
  obtain ⟨p, xs, i, z, rfl, rfl, hq, he, q⟩ := h
  cases rx
  obtain ⟨t, rfl⟩ := ry
  obtain ⟨its, r, pl, hz⟩ := I.tuple hq
  obtain ⟨j, h1, h2, h3, h4, h5⟩ := atI_get he
  obtain ⟨w, ew, rw'⟩ := r.get h2
  have hl := r.length
  have hn := line63
  have fin : EP X pins σ Q w s := ⟨z, H, I, rw', q⟩
  exact subscriptTail_builtinR (x := w) pl.typeIs slot_tuple_getitem.lookup
    (getItem_tuple (j := j) (Q := fun r s' => r = w ∧ EP X pins σ Q r s') pl (by omega) (by omega) (by rw [List.size_toArray, ← hl]; exact h1) (by simpa using ew) ⟨rfl, fin⟩) hs
theorem ix_str : IxR X rIxS := by
  intro value slice pins s σ H x y v u Q I rx ry h hs
  obtain ⟨z, i, c, rfl, rfl, hz, he, q⟩ := h
  obtain ⟨t, rfl⟩ := rx
  obtain ⟨t', rfl⟩ := ry
  obtain ⟨j, h1, h2, h3, h4, h5⟩ := atI_get he
  have hl : z.cps.toList.length = z.length := by simp [Str.length]
  rw [hl] at h1 h4 h5
  have hn := line63
  exact tail_any (typeIs_str s z t) slot_str_getitem.lookup (getItem_str (c := c) (by
    have e1 : decide (i < -(2 ^ 63 : Int)) = false := decide_eq_false (by omega)
    have e2 : decide (i ≥ 2 ^ 63) = false := decide_eq_false (by omega)
    rw [e1, e2, Bool.or_false]) (by rw [h1]; simpa using h2) ⟨.str ⟨#[c]⟩, H, I.tok _, ⟨_, rfl⟩, q⟩) hs
/-- list, tuple or str -/
def rIx (K : PySem.W.Frag) : R2 := fun x y H Q => rIxL K x y H Q ∨ rIxT K x y H Q ∨ rIxS x y H Q
theorem ix_seq : IxR X (rIx X.K) := ix_list.or (ix_tup.or ix_str)

/-! ### xs[i] = v, any sign -/
/-- the list's object behind a store -/
theorem mapSeq_set (its : List Value) (n j : Nat) (u : Value) : Obj.mapSeq (·.setIfInBounds j u) { cls := .type "list", data := .seq its.toArray n } = { cls := .type "list", data := .seq (its.set j u).toArray n } := by
  simp [Obj.mapSeq]
theorem Inv.lst {pins : List (Addr × Obj)} {σ : St} {H : Hp} {s : Shared} {p : Addr} {xs : List V} (I : Inv X pins σ H s) (h : H p = some (.lst xs)) :
    ∃ (its : List Value) (n : Nat), Vals xs its ∧ s.heap.get? p = some { cls := .type "list", data := .seq its.toArray n } ∧ xs.length ≤ sizeLine := by
  obtain ⟨z, its, n, r, e⟩ := I.hok p _ h
  exact ⟨its, n, r, e, z⟩
/-- the list at p is written by an update of its object -/
theorem Inv.lstUpd {pins : List (Addr × Obj)} {σ : St} {H : Hp} {s : Shared} {p : Addr} {xs ys : List V} {its its' : List Value} {n n' : Nat} {f : Obj → Obj} (I : Inv X pins σ H s) (h : H p = some (.lst xs))
    (ho : s.heap.get? p = some { cls := .type "list", data := .seq its.toArray n }) (hf : f { cls := .type "list", data := .seq its.toArray n } = { cls := .type "list", data := .seq its'.toArray n' }) (r : Vals ys its') (hz : ys.length ≤ sizeLine) (t : Nat) :
    Inv X pins σ (upd H p (.lst ys)) { s with heap := s.heap.update p f, toks := t } := by
  have e : (s.heap.update p f).get? p = some { cls := .type "list", data := .seq its'.toArray n' } := by
    rw [Heap.get?_update_self f ho (by rw [hf] <;> rfl), hf]
  refine I.write (x := p) (e := p) (by rw [h]; trivial) (.inl rfl) (fun b u hb q => (Heap.get?_update_other _ _ (Ne.symm hb)).trans q) ⟨_, e⟩ ?_
  exact ⟨hz, its', n', r, e⟩
def rSetL : V → V → V → Hp → (Hp → Prop) → Prop := fun o i v H Q => ∃ p xs k j, o = .ref p ∧ i = .int k ∧ H p = some (.lst xs) ∧ ixN xs.length k = some j ∧ Q (upd H p (.lst (xs.set j v)))
theorem set_list : PSet X rSetL := by
  intro pins s σ H o i v ov iv u Q I ro ri rv h
  obtain ⟨p, xs, k, j, rfl, rfl, hp, hj, q⟩ := h
  cases ro
  obtain ⟨t, rfl⟩ := ri
  obtain ⟨its, n, r, ho, hz⟩ := I.lst hp
  obtain ⟨h1, h2, h3, h4⟩ := ixN_seq hj
  have hl := r.length
  have hn := line63
  have I' : Inv X pins σ (upd H p (.lst (xs.set j v))) { s with heap := s.heap.update p (Obj.mapSeq (·.setIfInBounds j u)) } :=
    I.lstUpd hp ho (mapSeq_set its n j u) (r.set rv j) (by rw [List.length_set]; exact hz) s.toks
  by_cases h0 : 0 ≤ k
  · have hk : k.toNat = j := by
      rw [seqIndex_of h0 h4] at h1
      exact Option.some.inj h1
    exact PySem.W.ki_setAt ho h0 (by omega) (by rw [List.size_toArray, ← hl]; exact h4) (by rw [hk]; exact ⟨_, I', q⟩)
  · have hk : (k + (its.toArray.size : Int)).toNat = j := by
      rw [seqIndex_neg (by omega) h3] at h1
      rw [List.size_toArray, ← hl]
      exact Option.some.inj h1
    exact PySem.W.ki_setBack ho (by omega) (by rw [List.size_toArray, ← hl]; exact h3) (by omega) (by rw [hk]; exact ⟨_, I', q⟩)

/-! ### slices -/
theorem slice_bounds (lo hi : Option Int) (n : Nat) : (sliceBounds lo hi none n).1 = ((HT.sIx n 0 lo : Nat) : Int) ∧ (sliceBounds lo hi none n).2.1 = ((HT.sIx n n hi : Nat) : Int) ∧ (sliceBounds lo hi none n).2.2 = 1 := by
  refine ⟨?_, ?_, rfl⟩
  · cases lo with
    | none => simp [sliceBounds, HT.sIx]
    | some i =>
      simp only [sliceBounds, HT.sIx, Option.getD_none, show (1 : Int) > 0 by decide, if_true]
      by_cases h : i < 0
      · simp only [h, if_true] <;> omega
      · simp only [h, if_false] <;> omega
  · cases hi with
    | none => simp [sliceBounds, HT.sIx]
    | some i =>
      simp only [sliceBounds, HT.sIx, Option.getD_none, show (1 : Int) > 0 by decide, if_true]
      by_cases h : i < 0
      · simp only [h, if_true] <;> omega
      · simp only [h, if_false] <;> omega
theorem slicePick_cut (its : List Value) (lo hi : Option Int) : slicePick its.toArray lo hi none = ((its.drop (HT.sIx its.length 0 lo)).take (HT.sIx its.length its.length hi - HT.sIx its.length 0 lo)).toArray := by
  obtain ⟨h1, h2, h3⟩ := slice_bounds lo hi its.toArray.size
  unfold slicePick
  rw [h1, h2, h3]
  simp only [sliceRange_one, pick_run, List.size_toArray] <;> rfl
/-- xs[lo:hi] of a list: a new list -/
def rSlL (K : PySem.W.Frag) : V → Option Int → Option Int → Hp → VK → Prop := fun x lo hi H Q => ∃ a xs, x = .ref a ∧ SqL K H a xs ∧ ∀ p, H p = none → Q (.ref p) (upd H p (.lst (cutV xs lo hi)))
theorem sl_list : SlR X (rSlL X.K) := by
  intro pins s σ H x v vl vu lo hi sl Q I rx hs pl pu h
  obtain ⟨a, xs, rfl, hx, q⟩ := h
  cases rx
  obtain ⟨its, r, ht, hz⟩ := I.list hx
  have hlen := r.length
  refine ⟨"list", _, slot_list_getitem.lookup, ht.isList.typeIs, ?_⟩
  refine wpAny_getItem_list_slice ht.isList hs pl pu .none (by simp) ?_ (by rw [List.size_toArray] <;> omega)
  rw [slicePick_cut, ← hlen]
  refine ⟨.ref s.heap.objs.size, _, I.laid (t' := s.toks) (o := .lst (cutV xs lo hi)) (fun b ob q => Heap.get?_push_of_some _ q) (Nat.le_refl _) ?_, rfl, q _ (I.hok.fresh (Nat.le_refl _))⟩
  exact ⟨Nat.le_trans (cutV_length xs lo hi) hz, _, 0, (r.drop (HT.sIx xs.length 0 lo)).take (HT.sIx xs.length xs.length hi - HT.sIx xs.length 0 lo), Heap.get?_push_size _ rfl⟩

/-! ### in, not in: flat items -/
/-! ### len, list(x), tuple(x) of any list or tuple that is read -/
theorem call_len_seq : CallR X (.builtin "len") (fun xs H Q => ∃ p ys, xs = [.ref p] ∧ (SqL X.K H p ys ∨ SqT X.K H p ys) ∧ Q (.int ys.length) H) := by
  intro pins s σ H xs us Q I r h
  obtain ⟨p, ys, rfl, hq, q⟩ := h
  obtain ⟨u, rfl, rx⟩ := vals1 r
  cases rx
  have hn := line63
  rcases hq with hq | hq
  · obtain ⟨its, r', pl, hz⟩ := I.list hq
    have hlen := r'.length
    exact Calls.call_len_list pl.isList (by simp only [List.size_toArray] <;> omega) ⟨.int ys.length, H, I.tok _, ⟨s.toks + 1, by rw [List.size_toArray, hlen]⟩, q⟩
  · obtain ⟨its, r', pl, hz⟩ := I.tuple hq
    have hlen := r'.length
    exact len_tuple pl (by simp only [List.size_toArray] <;> omega) ⟨.int ys.length, H, I.tok _, ⟨s.toks + 1, by rw [List.size_toArray, hlen]⟩, q⟩
theorem call_len_str : CallR X (.builtin "len") (fun xs H Q => ∃ z, xs = [.str z] ∧ z.length ≤ sizeLine ∧ Q (.int z.length) H) := by
  intro pins s σ H xs us Q I r h
  obtain ⟨z, rfl, hz, q⟩ := h
  obtain ⟨u, rfl, t, rfl⟩ := vals1 r
  have hn := line63
  exact len_str (by omega) ⟨.int z.length, H, I.tok _, ⟨_, rfl⟩, q⟩
theorem CallR.or {f : Value} {r r' : List V → Hp → VK → Prop} (h : CallR X f r) (h' : CallR X f r') : CallR X f (fun xs H Q => r xs H Q ∨ r' xs H Q) := by
  intro pins s σ H xs us Q I rs q
  rcases q with q | q
  · exact h pins s σ H xs us Q I rs q
  · exact h' pins s σ H xs us Q I rs q
theorem call_tuple_of : CallR X (.type "tuple") (fun xs H Q => ∃ p ys, xs = [.ref p] ∧ ((SqL X.K H p ys ∧ ∀ l, H l = none → Q (.ref l) (upd H l (.tup ys))) ∨ (SqT X.K H p ys ∧ Q (.ref p) H))) := by
  intro pins s σ H xs us Q I r h
  obtain ⟨p, ys, rfl, h⟩ := h
  obtain ⟨u, rfl, rx⟩ := vals1 r
  cases rx
  rcases h with ⟨hq, q⟩ | ⟨hq, q⟩
  · obtain ⟨its, r', pl, hz⟩ := I.list hq
    have hlen := r'.length
    refine call_tuple_list pl.isList (fun h' kp => ?_) (by simp only [List.size_toArray] <;> omega)
    have I1 : Inv X pins σ H { s with heap := h' } := I.kept (t' := s.toks) kp
    have I2 : Inv X pins σ (upd H h'.objs.size (.tup ys)) { s with heap := h'.push { cls := .type "tuple", data := .seq its.toArray } } :=
      I1.laid (t' := s.toks) (fun b o e => Heap.get?_push_of_some _ e) (Nat.le_refl _) (show ObjOk X.prog X.w _ _ _ (.tup ys) from ⟨hz, its, r', IsTup.new _ _⟩)
    exact ⟨.ref h'.objs.size, _, I2, rfl, q _ (I1.hok.fresh (Nat.le_refl _))⟩
  · obtain ⟨its, r', pl, hz⟩ := I.tuple hq
    exact call_tuple_same pl ⟨.ref p, H, I, rfl, q⟩

/-! ### the call of a builtin's method: o.m(..) -/
/-- the value is of that builtin type -/
def tyV (K : PySem.W.Frag) (T : String) (x : V) (H : Hp) : Prop := match x with
  | .str _ => T = "str"
  | .int _ => T = "int"
  | .ref p => (T = "list" ∧ ∃ xs, SqL K H p xs) ∨ (T = "tuple" ∧ ∃ o, K.lookup p = some o ∧ o.cls = .type "tuple" ∧ o.dict = none) ∨
      (T = "dict" ∧ ((∃ kvs, H p = some (.dK kvs)) ∨ ∃ kvs, H p = some (.dT kvs))) ∨ (T = "set" ∧ ∃ S n, H p = some (.set S n))
  | _ => False
theorem tyV_is {pins : List (Addr × Obj)} {σ : St} {H : Hp} {s : Shared} {T : String} {x : V} {v : Value} (I : Inv X pins σ H s) (r : RelV x v) (ty : tyV X.K T x H) :
    s.TypeIs v T ∧ ∀ a, v = .ref a → ∃ ob, s.heap.get? a = some ob ∧ ob.dict = none := by
  cases x with
  | str z =>
    obtain ⟨t, rfl⟩ := r
    cases (show T = "str" from ty)
    exact ⟨typeIs_str s z t, fun _ e => nomatch e⟩
  | int i =>
    obtain ⟨t, rfl⟩ := r
    cases (show T = "int" from ty)
    exact ⟨typeIs_int s i t, fun _ e => nomatch e⟩
  | ref p =>
    cases r
    rcases ty with ⟨rfl, xs, hq⟩ | ⟨rfl, o, hk, hc, hd⟩ | ⟨rfl, hk⟩ | ⟨rfl, S, n, hk⟩
    · obtain ⟨its, _, pl, _⟩ := I.list hq
      refine ⟨pl.isList.typeIs, fun a e => ?_⟩
      cases e
      obtain ⟨o, n, e, c, hd, _⟩ := pl
      exact ⟨o, e, hd⟩
    · refine ⟨⟨o, I.kIn p o hk, hc⟩, fun a e => ?_⟩
      cases e
      exact ⟨o, I.kIn _ o hk, hd⟩
    · have z : ∃ o, s.heap.get? p = some o ∧ o.ExactDict := by
        rcases hk with ⟨kvs, hk⟩ | ⟨kvs, hk⟩
        · obtain ⟨_, _, _, _, o, _, _, e, ex, _⟩ := I.hok p _ hk
          exact ⟨o, e, ex⟩
        · obtain ⟨_, _, _, _, o, _, _, e, ex, _⟩ := I.hok p _ hk
          exact ⟨o, e, ex⟩
      obtain ⟨o, e, ex⟩ := z
      refine ⟨⟨o, e, ex.1⟩, fun a e2 => ?_⟩
      cases e2
      exact ⟨o, e, ex.2.1⟩
    · obtain ⟨o, _, _, _, e, ex, _⟩ := I.hok p _ hk
      refine ⟨⟨o, e, ex.1⟩, fun a e2 => ?_⟩
      cases e2
      exact ⟨o, e, ex.2.1⟩
  | _ => exact False.elim ty
def tBM (K : PySem.W.Frag) (T : String) (r : V → List V → Hp → VK → Prop) (to : TE) (t : TA) : TE := fun σ H Q => to σ H fun x H1 => tyV K T x H1 ∧ t σ H1 fun xs H2 => r x xs H2 Q
variable {o e : Expr} {es : List Expr} {to : TE} {t : TA} {name : Str} {apos cpos : Pos} {T id : String} {r : V → List V → Hp → VK → Prop}
theorem pe_bm (pa : PlainAttrs T) (slot : Slot T name id) (hty : typeOf (.builtin id) = pure (.type "method_descriptor")) (hm : MtR X id r) (ho : PE X o to) (ha : PA X (e :: es) t)
    (hbase : attributeBase o name X.env (eval o X.env) = eval o X.env := by rfl)
    (hfew : ((backTo cpos (starEach (e :: es) X.env)).all (fun x => !x.1) && (backToKw cpos (keywordEach [] X.env)).all (fun x => x.1.isSome)
      && decide ((e :: es).length + ([] : List Keyword).length + (if ([] : List Keyword).isEmpty then 0 else 1) < 30)) = true := by rfl)
    (hline : (apos.endLine == cpos.line) = true := by rfl) (hs : starEach (e :: es) X.env = (false, eval e X.env) :: starEach es X.env := by rfl) (hplain : (backTo cpos (starEach es X.env)).any (·.1) = false := by rfl) :
    PE X (.Call (.Attribute o name apos) (e :: es) [] cpos) (tBM X.K T r to t) := by
  intro pins s σ H Q I h
  refine wpAny_Call_method_late hbase hfew hline rfl (thn (ho pins s σ H _ I h) fun v s1 ⟨x, H1, I1, r1, ty, q1⟩ => ?_)
  obtain ⟨h1, h2⟩ := tyV_is I1 r1 ty
  refine ⟨T, id, pa, slot, hty, h1, h2, ?_⟩
  have hA := ha cpos pins s1 σ H1 _ I1 q1
  rw [hs] at hA ⊢
  refine Calls.callWith_builtin (by show (false || (backTo cpos (starEach es X.env)).any (·.1)) = false; rw [hplain] <;> rfl) (Calls.evalArgs_plain ?_)
  exact thn hA fun us s2 ⟨vs, H2, I2, r2, q2⟩ => hm pins s2 σ H2 x vs v us Q I2 r1 r2 q2
/- xs.append(e), list.index on a module's tuple .. are MtR facts of 06m -/
end
end L2

namespace L2
open PySem PySem.Spec PyProof.Rows

def MtM (X : Cx) (id : String) (r : V → List V → Hp → VK → Prop) : Prop :=
  ∀ (pins : List (Addr × Obj)) (s : Shared) (σ : St) (H : Hp) (x : V) (xs : List V) (v : Value) (us : List Value) (Q : VK), Inv X pins σ H s → RelV x v → Vals xs us → r x xs H Q →
    wpAny (model X.prog X.w) X.A (call (.builtin id) (v :: us)) (EP X pins σ Q) X.xe s

/-! ### lists of values -/
theorem Vals.one : ∀ {x : V} {us : List Value}, Vals [x] us → ∃ u, us = [u] ∧ RelV x u
  | _, _, .cons r .nil => ⟨_, rfl, r⟩
theorem Vals.two : ∀ {x y : V} {us : List Value}, Vals [x, y] us → ∃ u v, us = [u, v] ∧ RelV x u ∧ RelV y v
  | _, _, _, .cons r (.cons q .nil) => ⟨_, _, rfl, r, q⟩
theorem Vals.zero : ∀ {us : List Value}, Vals [] us → us = []
  | _, .nil => rfl
theorem Vals.reverse {xs : List V} {us : List Value} (h : Vals xs us) : Vals xs.reverse us.reverse := by
  induction h with
  | nil => exact .nil
  | cons r t ih => rw [List.reverse_cons, List.reverse_cons]; exact Vals.append ih (.cons r .nil)
section
variable {X : Cx} {pins : List (Addr × Obj)} {σ : St} {H : Hp} {s : Shared} {l b : Addr} {xs ys zs : List V}

/-! ### the two steps: a tracked list is rewritten, a new list is laid -/
theorem Inv.lset {its its' : List Value} {n : Nat} {f : Array Value → Array Value} {t' : Nat} (I : Inv X pins σ H s) (hH : H l = some (.lst xs))
    (e : s.heap.get? l = some { cls := .type "list", data := .seq its.toArray n }) (hf : f its.toArray = its'.toArray) (hv : Vals ys its') (hz : ys.length ≤ sizeLine) :
    Inv X pins σ (upd H l (.lst ys)) { s with heap := s.heap.update l (Obj.mapSeq f), toks := t' } := by
  have q := PySem.IsL.update e f
  rw [hf] at q
  refine I.write (x := l) (e := l) (by rw [hH]; exact trivial) (.inl rfl) (fun b' u hb hu => (Heap.get?_update_other s.heap (Obj.mapSeq f) (Ne.symm hb)).trans hu) ⟨_, q⟩ ?_
  exact ⟨hz, its', _, hv, q⟩
theorem Inv.lnew {its : List Value} {t' : Nat} (I : Inv X pins σ H s) (hv : Vals ys its) (hz : ys.length ≤ sizeLine) :
    Inv X pins σ (upd H s.heap.objs.size (.lst ys)) { s with heap := s.heap.push { cls := .type "list", data := .seq its.toArray }, toks := t' } :=
  I.laid (fun _ _ q => Heap.get?_push_of_some _ q) (Nat.le_refl _) ⟨hz, its, 0, hv, Heap.get?_push_size _ rfl⟩
theorem Inv.fresh (I : Inv X pins σ H s) : H s.heap.objs.size = none := I.hok.fresh (Nat.le_refl _)
theorem Inv.lstM (I : Inv X pins σ H s) (hH : H l = some (.lst xs)) : xs.length ≤ sizeLine ∧ ∃ (its : List Value) (n : Nat), Vals xs its ∧ xs.length = its.length ∧ s.heap.get? l = some { cls := .type "list", data := .seq its.toArray n } := by
  obtain ⟨z, its, n, r, e⟩ := I.hok l _ hH
  exact ⟨z, its, n, r, r.length, e⟩

end

section
variable {X : Cx}

/-! ### methods -/
def rAppend : V → List V → Hp → VK → Prop := fun x vs H Q => ∃ l xs y, x = .ref l ∧ vs = [y] ∧ H l = some (.lst xs) ∧ xs.length < sizeLine ∧ Q .non (upd H l (.lst (xs ++ [y])))
theorem mt_append : MtM X "list.append" rAppend := by
  intro pins s σ H x vs v us Q I rx rv h
  obtain ⟨l, xs, y, rfl, rfl, hH, hz, q⟩ := h
  cases rx
  obtain ⟨u, rfl, ru⟩ := rv.one
  obtain ⟨z, its, n, r, hl, e⟩ := I.lstM hH
  refine call_meets F.slot_list_append ⟨_, e, rfl⟩ F.entry_list_append (F.args_list_append_2 _ _) (PySem.list_append l its.toArray n u (by rw [List.size_toArray]; omega)) ⟨e, ?_⟩
  refine ⟨.non, _, I.lset (its' := its ++ [u]) hH e (by simp) (r.append (.cons ru .nil)) ?_, rfl, q⟩
  rw [List.length_append, List.length_singleton]
  omega

/-! ### list + list, list += list, list * int -/
def rCat : R2 := fun x y H Q => ∃ l b xs zs, x = .ref l ∧ y = .ref b ∧ H l = some (.lst xs) ∧ H b = some (.lst zs) ∧ xs.length + zs.length ≤ sizeLine ∧ ∀ p, H p = none → Q (.ref p) (upd H p (.lst (xs ++ zs)))
theorem op_cat : OpR X (binaryOp .Add) rCat := by
  intro pins s σ H x y v u Q I rx ry h
  obtain ⟨l, b, xs, zs, rfl, rfl, hH, hB, hz, q⟩ := h
  cases rx
  cases ry
  obtain ⟨z, its, n, r, hl, e⟩ := I.lstM hH
  obtain ⟨z2, its2, n2, r2, hl2, e2⟩ := I.lstM hB
  refine PySem.P.add_list e e2 ?_ (by rw [List.size_toArray, List.size_toArray]; omega)
  have ea : its.toArray ++ its2.toArray = (its ++ its2).toArray := by simp
  rw [ea]
  exact ⟨.ref _, _, I.lnew (t' := s.toks) (r.append r2) (by rw [List.length_append]; omega), rfl, q _ I.fresh⟩
/-! ### del xs[i] -/
end

/-! ### xs[a:b] = ys -/
section
variable {prog : Program} {w : World} {A : Around} {E : Value → Shared → Prop} {s : Shared}
set_option maxRecDepth 100000 in
end

section
variable {X : Cx}
end
end L2

namespace L2
open PySem PySem.Spec PyProof.Rows

theorem Vals.ints : ∀ {ns : List Int} {us : List Value}, Vals (ns.map V.int) us → IntsAre us ns
  | [], us, h => by
    rw [List.map_nil] at h
    cases h
    exact IntsAre.nil
  | n :: ns, us, h => by
    rw [List.map_cons] at h
    cases h with
    | cons r t =>
      obtain ⟨k, rfl⟩ := r
      exact IntsAre.cons n k (Vals.ints t)
theorem Vals.strs : ∀ {xs : List Str} {us : List Value}, Vals (xs.map V.str) us → StrsAre us xs
  | [], us, h => by
    rw [List.map_nil] at h
    cases h
    exact StrsAre.nil
  | x :: xs, us, h => by
    rw [List.map_cons] at h
    cases h with
    | cons r t =>
      obtain ⟨k, rfl⟩ := r
      exact StrsAre.cons x k (Vals.strs t)
theorem Vals.bls : ∀ {bs : List Bool} {us : List Value}, Vals (bs.map V.bl) us → us = bs.map Value.bool
  | [], us, h => by
    rw [List.map_nil] at h
    cases h
    rfl
  | b :: bs, us, h => by
    rw [List.map_cons] at h
    cases h with
    | cons r t =>
      cases r
      rw [Vals.bls t, List.map_cons]
theorem Vals.ref1 {a : Addr} {us : List Value} (r : Vals [V.ref a] us) : us = [Value.ref a] := by
  cases r with
  | cons r t =>
    cases t
    cases r
    rfl
/-! ### the library's walks over a list of ints, kept objects alone -/
section
variable {prog : Program} {w : World} {A : Around} {E : Value → Shared → Prop} {s : Shared} {l : Addr} {its : List Value} {ns : List Int} {Q : Value → Shared → Prop}
theorem sum_raw (hh : A.handled = none) (hl : s.heap.IsList l its.toArray) (hi : IntsAre its ns)
    (h : ∀ h' tk t', (∀ b o, s.heap.get? b = some o → h'.get? b = some o) → Q (.int ns.sum t') { s with heap := h', toks := tk }) : wpAny (model prog w) A (call (.builtin "sum") [.ref l]) Q E s := by
  obtain ⟨xs, e⟩ := hi.allInts.items
  have hn : numsOf (intItems xs).toList = ns := by rw [← e]; exact hi.numsOf
  rw [nums_intItems] at hn
  rw [e] at hl
  refine PySem.sum_intListG hh hl fun h' tk t' hk => ?_
  have := h h' tk t' hk
  rw [preSum_eq, List.take_of_length_le (by simp), hn]; exact this
theorem max_raw (hh : A.handled = none) (hl : s.heap.IsList l its.toArray) (hi : IntsAre its ns) (hne : 0 < ns.length)
    (h : ∀ h' tk M t', (∀ b o, s.heap.get? b = some o → h'.get? b = some o) → M ∈ ns → (∀ a, a ∈ ns → a ≤ M) → Q (.int M t') { s with heap := h', toks := tk }) : wpAny (model prog w) A (call (.builtin "max") [.ref l]) Q E s := by
  obtain ⟨xs, e⟩ := hi.allInts.items
  have hn : numsOf (intItems xs).toList = ns := by rw [← e]; exact hi.numsOf
  rw [nums_intItems] at hn
  subst hn
  rw [e] at hl
  have hsz : 0 < xs.size := by simpa using hne
  refine PySem.max_intList hh hl hsz fun v h' tk hv hk => ?_
  obtain ⟨t, rfl⟩ := intItems_at hv
  obtain ⟨h1, h2⟩ := argBest_gt (numAt xs) (xs.size - 1)
  refine h h' tk _ t hk ?_ fun a ha => ?_
  · rw [numAt_eq]; exact PySem.getD_mem (by rw [List.length_map, Array.length_toList]; omega)
  · obtain ⟨j, hj, rfl⟩ := mem_getD ha
    rw [List.length_map, Array.length_toList] at hj
    rw [← numAt_eq]; exact h2 j (by omega)
theorem min_raw (hh : A.handled = none) (hl : s.heap.IsList l its.toArray) (hi : IntsAre its ns) (hne : 0 < ns.length)
    (h : ∀ h' tk M t', (∀ b o, s.heap.get? b = some o → h'.get? b = some o) → M ∈ ns → (∀ a, a ∈ ns → M ≤ a) → Q (.int M t') { s with heap := h', toks := tk }) : wpAny (model prog w) A (call (.builtin "min") [.ref l]) Q E s := by
  obtain ⟨xs, e⟩ := hi.allInts.items
  have hn : numsOf (intItems xs).toList = ns := by rw [← e]; exact hi.numsOf
  rw [nums_intItems] at hn
  subst hn
  rw [e] at hl
  have hsz : 0 < xs.size := by simpa using hne
  refine PySem.min_intList hh hl hsz fun v h' tk hv hk => ?_
  obtain ⟨t, rfl⟩ := intItems_at hv
  obtain ⟨h1, h2⟩ := argBest_lt (numAt xs) (xs.size - 1)
  refine h h' tk _ t hk ?_ fun a ha => ?_
  · rw [numAt_eq]; exact PySem.getD_mem (by rw [List.length_map, Array.length_toList]; omega)
  · obtain ⟨j, hj, rfl⟩ := mem_getD ha
    rw [List.length_map, Array.length_toList] at hj
    rw [← numAt_eq]; exact h2 j (by omega)
end

/-! ### the calls, by values (CallR of 03t; MtR of 06l) -/
section
variable {X : Cx}
/-- sum(xs) of a list of ints -/
def rSum (K : PySem.W.Frag) : List V → Hp → VK → Prop := fun vs H Q => ∃ (a : Addr) (ns : List Int), vs = [V.ref a] ∧ SqL K H a (ns.map V.int) ∧ Q (.int ns.sum) H
/-- max(xs), min(xs) of a list of ints -/
def rMax (K : PySem.W.Frag) : List V → Hp → VK → Prop := fun vs H Q => ∃ (a : Addr) (ns : List Int), vs = [V.ref a] ∧ SqL K H a (ns.map V.int) ∧ 0 < ns.length ∧ ∀ m, m ∈ ns → (∀ y, y ∈ ns → y ≤ m) → Q (.int m) H
def rMin (K : PySem.W.Frag) : List V → Hp → VK → Prop := fun vs H Q => ∃ (a : Addr) (ns : List Int), vs = [V.ref a] ∧ SqL K H a (ns.map V.int) ∧ 0 < ns.length ∧ ∀ m, m ∈ ns → (∀ y, y ∈ ns → m ≤ y) → Q (.int m) H
theorem cr_sum (hc : X.calm = true) : CallR X (.builtin "sum") (rSum X.K) := by
  intro pins s σ H vs us Q I r h
  obtain ⟨a, ns, rfl, hs, q⟩ := h
  obtain ⟨its, rv, hl, _⟩ := I.list hs
  rw [Vals.ref1 r]
  exact sum_raw (I.ok.hd hc) hl.isList rv.ints fun h' tk t' hk => ⟨.int _, H, I.kept hk, ⟨_, rfl⟩, q⟩
theorem cr_max (hc : X.calm = true) : CallR X (.builtin "max") (rMax X.K) := by
  intro pins s σ H vs us Q I r h
  obtain ⟨a, ns, rfl, hs, hne, q⟩ := h
  obtain ⟨its, rv, hl, _⟩ := I.list hs
  rw [Vals.ref1 r]
  exact max_raw (I.ok.hd hc) hl.isList rv.ints hne fun h' tk m t' hk h1 h2 => ⟨.int _, H, I.kept hk, ⟨_, rfl⟩, q m h1 h2⟩
theorem cr_min (hc : X.calm = true) : CallR X (.builtin "min") (rMin X.K) := by
  intro pins s σ H vs us Q I r h
  obtain ⟨a, ns, rfl, hs, hne, q⟩ := h
  obtain ⟨its, rv, hl, _⟩ := I.list hs
  rw [Vals.ref1 r]
  exact min_raw (I.ok.hd hc) hl.isList rv.ints hne fun h' tk m t' hk h1 h2 => ⟨.int _, H, I.kept hk, ⟨_, rfl⟩, q m h1 h2⟩

/-! sorted, sort (fewer than 64 items: the library's own bound) -/
end

/-! ### list.index, flat items -/
section
variable {X : Cx}
end

/-! ### type(x) of an own instance; is, is not of a module's class -/
section
variable {X : Cx}
end

/-! ### any(xs), all(xs) of a list of bools -/
theorem iter_any {prog : Program} {w : World} {A : Around} {E : Value → Shared → Prop} {s : Shared} {l : Addr} {items : Array Value} {Q : Value → Shared → Prop} (hl : s.heap.IsList l items)
    (h : ∀ s₂ : Shared, s₂ = { s with heap := s.heap.push { cls := .type "list_iterator", data := .fields #[.ref l, .int 0 0] } } →
      (s₂.heap.IsListIter s.heap.objs.size l 0 ∧ s₂.heap.IsList l items) → l ≠ s.heap.objs.size → Q (.ref s.heap.objs.size) s₂) : wpAny (model prog w) A (pyIter (.ref l)) Q E s := by
  have hlt : l < s.heap.objs.size := by obtain ⟨_, e, _⟩ := hl; exact Heap.lt_size e
  exact wpAny_pyIter_list hl (h _ rfl ⟨⟨_, Heap.get?_push_size _ rfl, rfl, rfl⟩, hl.push _⟩ (Nat.ne_of_lt hlt))
theorem truth_bools {prog : Program} {w : World} {A : Around} {bs : List Bool} {its : List Value} (e : its = bs.map Value.bool) :
    TruthOf prog w A (fun i v => its.toArray[i]? = some v) (fun i => bs.getD i false) := fun i v s Q E hv hq => by
  have hv' : its[i]? = some v := by simpa using hv
  rw [e, List.getElem?_map] at hv'
  obtain ⟨b, hb, rfl⟩ := Option.map_eq_some_iff.mp hv'
  have hg : bs.getD i false = b := by rw [List.getD_eq_getElem?_getD, hb] <;> rfl
  have hq' : Q (bs.getD i false) s := hq
  rw [hg] at hq'
  exact wpAny_truthy_bool hq'
theorem all_range : ∀ bs : List Bool, (List.range bs.length).all (fun i => bs.getD i false) = bs.all id
  | [] => rfl
  | b :: bs => by
    rw [List.length_cons, List.range_succ_eq_map, List.all_cons, List.all_map, List.all_cons, ← all_range bs]
    all_goals rfl
section
variable {X : Cx}
def rAll (K : PySem.W.Frag) : List V → Hp → VK → Prop := fun vs H Q => ∃ (a : Addr) (bs : List Bool), vs = [V.ref a] ∧ SqL K H a (bs.map V.bl) ∧ Q (.bl (bs.all id)) H
theorem cr_all (hc : X.calm = true) : CallR X (.builtin "all") (rAll X.K) := by
  intro pins s σ H vs us Q I r h
  obtain ⟨a, bs, rfl, hs, q⟩ := h
  obtain ⟨its, rv, hl, _⟩ := I.list hs
  rw [Vals.ref1 r]
  have hb := rv.bls
  refine call_all_walk (iter_any hl.isList fun s₂ e2 st hne => ?_)
  subst e2
  refine ⟨_, _, _, _, _, _, _, rfl, Walks.list (A := X.A.in1) (I.ok.hd hc) _ a hne its.toArray, st, truth_bools hb, fun h' tk hk => ?_⟩
  refine ⟨.bl _, H, I.kept fun b o eo => hk b o (fun hmem => ?_) (Heap.get?_push_of_some _ eo), ?_, q⟩
  · rcases List.mem_cons.mp hmem with e1 | hmem
    · exact absurd (e1 ▸ Heap.lt_size eo) (Nat.lt_irrefl _)
    · cases hmem
  · show Value.bool _ = Value.bool _
    rw [← all_range, hb, List.size_toArray, List.length_map]
end

/-! ### == and != of data at any depth: none, bools, ints, texts, lists, tuples -/
mutual
inductive Dp (K : PySem.W.Frag) (H : Hp) : V → PyData → Prop
  | non : Dp K H .non .none
  | bl (b : Bool) : Dp K H (.bl b) (.bool b)
  | int (i : Int) : Dp K H (.int i) (.int i)
  | str (x : Str) : Dp K H (.str x) (.str x)
  | lst {a : Addr} {xs : List V} {ds : List PyData} : SqL K H a xs → DpAll K H xs ds → Dp K H (.ref a) (.list ds)
  | tup {a : Addr} {xs : List V} {ds : List PyData} : SqT K H a xs → DpAll K H xs ds → Dp K H (.ref a) (.tuple ds)
inductive DpAll (K : PySem.W.Frag) (H : Hp) : List V → List PyData → Prop
  | nil : DpAll K H [] []
  | cons {v : V} {vs : List V} {d : PyData} {ds : List PyData} : Dp K H v d → DpAll K H vs ds → DpAll K H (v :: vs) (d :: ds)
end
section
variable {X : Cx} {pins : List (Addr × Obj)} {σ : St} {H : Hp} {s : Shared}
mutual
theorem Dp.reads (I : Inv X pins σ H s) : ∀ (d : PyData) (v : V) (u : Value), Dp X.K H v d → RelV v u → ∃ as, Reads s.heap u d as
  | .none, _, _, h, r => by
    cases h
    cases r
    exact ⟨_, Reads.none⟩
  | .bool b, _, _, h, r => by
    cases h
    cases r
    exact ⟨_, Reads.bool b⟩
  | .int i, _, _, h, r => by
    cases h
    obtain ⟨t, rfl⟩ := r
    exact ⟨_, Reads.int i t⟩
  | .str x, _, _, h, r => by
    cases h
    obtain ⟨t, rfl⟩ := r
    exact ⟨_, Reads.str x t⟩
  | .list ds, _, _, h, r => by
    cases h with
    | lst hs ha =>
      cases r
      obtain ⟨its, rv, ⟨o, n, ho, hc, _, hd⟩, _⟩ := I.list hs
      obtain ⟨as, hr⟩ := Dp.readsAll I ds _ its ha rv
      exact ⟨_, Reads.list ho hc hd hr⟩
  | .tuple ds, _, _, h, r => by
    cases h with
    | tup hs ha =>
      cases r
      obtain ⟨its, rv, ⟨o, ho, hc, n, hd⟩, _⟩ := I.tuple hs
      obtain ⟨as, hr⟩ := Dp.readsAll I ds _ its ha rv
      exact ⟨_, Reads.tuple ho hc hd hr⟩
  | .dict _, _, _, h, _ => by cases h
theorem Dp.readsAll (I : Inv X pins σ H s) : ∀ (ds : List PyData) (vs : List V) (us : List Value), DpAll X.K H vs ds → Vals vs us → ∃ as, ReadsAll s.heap us ds as
  | [], _, _, h, r => by
    cases h
    cases r
    exact ⟨_, ReadsAll.nil⟩
  | d :: ds, _, _, h, r => by
    cases h with
    | cons h1 h2 =>
      cases r with
      | cons r1 r2 =>
        obtain ⟨as, q1⟩ := Dp.reads I d _ _ h1 r1
        obtain ⟨bs, q2⟩ := Dp.readsAll I ds _ _ h2 r2
        exact ⟨_, ReadsAll.cons q1 q2⟩
end
end
section
variable {X : Cx}
def rEqD (K : PySem.W.Frag) : R2 := fun x y H Q => ∃ d e, Dp K H x d ∧ Dp K H y e ∧ SeqAt.shaped d = true ∧ SeqAt.shaped e = true ∧ Q (.bl (PyData.eqv d e)) H
def rNeD (K : PySem.W.Frag) : R2 := fun x y H Q => ∃ d e, Dp K H x d ∧ Dp K H y e ∧ SeqAt.shaped d = true ∧ SeqAt.shaped e = true ∧ Q (.bl (!PyData.eqv d e)) H
theorem op_eqD (hu : X.A.units + 64 < cLine) : OpR X (compareOp .Eq) (rEqD X.K) := by
  intro pins s σ H x y v u Q I rx ry h
  obtain ⟨d, e, hd, he, sd, se, q⟩ := h
  obtain ⟨as, r1⟩ := Dp.reads I d x v hd rx
  obtain ⟨bs, r2⟩ := Dp.reads I e y u he ry
  exact SeqAt.compareEq_shaped r1 r2 sd se hu ⟨.bl _, H, I, rfl, q⟩
theorem op_neD (hu : X.A.units + 64 < cLine) : OpR X (compareOp .NotEq) (rNeD X.K) := by
  intro pins s σ H x y v u Q I rx ry h
  obtain ⟨d, e, hd, he, sd, se, q⟩ := h
  obtain ⟨as, r1⟩ := Dp.reads I d x v hd rx
  obtain ⟨bs, r2⟩ := Dp.reads I e y u he ry
  exact SeqAt.compareNe_shaped r1 r2 sd se hu ⟨.bl _, H, I, rfl, q⟩
end
end L2

namespace L2
open PySem PySem.Spec PyProof.Rows
abbrev CellAt (h : Heap) (c : Addr) (v : Option Value) : Prop := h.IsCell c v
def relS (scope sc : Scope) : Scope :=
  { scope with names := scope.names.map fun (n, k) => if (k == .free && sc.kind == .function && sc.names.lookup n == some .cell) then (n, .cell) else (n, k) }

def cloFrom (cells : List (Str × Addr)) : List (Str × NameKind) → List (Str × Addr) → List (Str × Addr)
  | [], acc => acc
  | (n, k) :: r, acc => if k == .free then cloFrom cells r ((n, (cells.lookup n).getD 0) :: acc) else cloFrom cells r acc

theorem closure_loop (env : Env) (f : Str × NameKind → List (Str × Addr) → Sem (ForInStep (List (Str × Addr))))
    (hf : ∀ n k c, f (n, k) c = if k == .free then (do let a ← cellOf env n; pure (.yield ((n, a) :: c))) else pure (.yield c)) :
    ∀ (names : List (Str × NameKind)) (acc : List (Str × Addr)), (∀ y ∈ names, y.2 = .free → ∃ c, env.cells.lookup y.1 = some c) → forIn names acc f = pure (cloFrom env.cells names acc)
  | [], acc, _ => by rw [List.forIn_nil]; rfl
  | (n, k) :: r, acc, h => by
    rw [List.forIn_cons, hf]
    have ih := fun acc => closure_loop env f hf r acc fun y hy => h y (List.mem_cons_of_mem _ hy)
    unfold cloFrom
    by_cases hk : (k == NameKind.free) = true
    · rw [if_pos hk, if_pos hk]
      obtain ⟨c, hc⟩ := h (n, k) List.mem_cons_self (by simpa using hk)
      have e : cellOf env n = pure c := by unfold cellOf; rw [hc]
      rw [e]
      have e2 : (env.cells.lookup n).getD 0 = c := by rw [hc]; rfl
      rw [e2]
      exact ih _
    · rw [if_neg hk, if_neg hk]
      exact ih _
theorem closure_ok {scope : Scope} {env : Env} (h : ∀ y ∈ scope.names, y.2 = .free → ∃ c, env.cells.lookup y.1 = some c) : closureFor scope env = pure (cloFrom env.cells scope.names []) := by
  simp only [closureFor]
  rw [closure_loop env _ (fun n k c => rfl) scope.names [] h]
  rfl

theorem mem_lookup {α : Type} : ∀ {l : List (Str × α)} {n : Str} {c : α}, (n, c) ∈ l → ∃ c', l.lookup n = some c'
  | (k, v) :: r, n, c, h => by
    rw [List.lookup_cons]
    cases hb : n == k with
    | true => exact ⟨_, rfl⟩
    | false =>
      rcases List.mem_cons.mp h with e | h
      · cases e; simp at hb
      · exact mem_lookup h

theorem cloFrom_mem {cells : List (Str × Addr)} : ∀ {names : List (Str × NameKind)} {acc : List (Str × Addr)} {n : Str} {c : Addr}, (n, c) ∈ cloFrom cells names acc → (n, c) ∈ acc ∨ ((n, .free) ∈ names ∧ c = (cells.lookup n).getD 0)
  | [], _, _, _, h => .inl h
  | (m, k) :: r, acc, n, c, h => by
    unfold cloFrom at h
    split at h
    · rename_i hk
      have hk : k = .free := by simpa using hk
      rcases cloFrom_mem h with h | ⟨h1, h2⟩
      · rcases List.mem_cons.mp h with e | h
        · cases e; exact .inr ⟨hk ▸ List.mem_cons_self, rfl⟩
        · exact .inl h
      · exact .inr ⟨List.mem_cons_of_mem _ h1, h2⟩
    · rcases cloFrom_mem h with h | ⟨h1, h2⟩
      · exact .inl h
      · exact .inr ⟨List.mem_cons_of_mem _ h1, h2⟩
theorem cloFrom_acc {cells : List (Str × Addr)} : ∀ {names : List (Str × NameKind)} {acc : List (Str × Addr)} {p : Str × Addr}, p ∈ acc → p ∈ cloFrom cells names acc
  | [], _, _, h => h
  | (m, k) :: r, acc, p, h => by
    unfold cloFrom
    split
    · exact cloFrom_acc (List.mem_cons_of_mem _ h)
    · exact cloFrom_acc h
theorem cloFrom_has {cells : List (Str × Addr)} : ∀ {names : List (Str × NameKind)} {acc : List (Str × Addr)} {n : Str}, (n, .free) ∈ names → (n, (cells.lookup n).getD 0) ∈ cloFrom cells names acc
  | (m, k) :: r, acc, n, h => by
    unfold cloFrom
    rcases List.mem_cons.mp h with e | h
    · cases e
      exact cloFrom_acc List.mem_cons_self
    · split
      · exact cloFrom_has h
      · exact cloFrom_has h

theorem cells_mem : ∀ {names : List (Str × NameKind)} {h : Heap} {acc : List (Str × Addr)} {x : Str} {c : Addr}, (x, c) ∈ cellsFrom h.objs.size names acc →
    (x, c) ∈ acc ∨ ((x, .cell) ∈ names ∧ h.objs.size ≤ c ∧ CellAt (pushCells h names) c none)
  | [], _, _, _, _, h => .inl h
  | (n, k) :: r, h, acc, x, c, hm => by
    unfold cellsFrom at hm
    unfold pushCells
    split at hm
    · rename_i hk
      rw [if_pos hk]
      have hk : k = .cell := by simpa using hk
      rw [← Heap.size_push h { cls := .type "cell", data := .cell none }] at hm
      rcases cells_mem hm with hm | ⟨h1, h2, h3⟩
      · rcases List.mem_cons.mp hm with e | hm
        · cases e
          exact .inr ⟨hk ▸ List.mem_cons_self, Nat.le_refl _, _, pushCells_keeps r _ _ _ (Heap.get?_push_size _ rfl), rfl⟩
        · exact .inl hm
      · rw [Heap.size_push] at h2
        exact .inr ⟨List.mem_cons_of_mem _ h1, Nat.le_of_succ_le h2, h3⟩
    · rename_i hk
      rw [if_neg hk]
      rcases cells_mem hm with hm | ⟨h1, h2, h3⟩
      · exact .inl hm
      · exact .inr ⟨List.mem_cons_of_mem _ h1, h2, h3⟩
theorem cells_acc : ∀ {names : List (Str × NameKind)} {n : Nat} {acc : List (Str × Addr)} {p : Str × Addr}, p ∈ acc → p ∈ cellsFrom n names acc
  | [], _, _, _, h => h
  | (m, k) :: r, n, acc, p, h => by
    unfold cellsFrom
    split
    · exact cells_acc (List.mem_cons_of_mem _ h)
    · exact cells_acc h
theorem cells_has : ∀ {names : List (Str × NameKind)} {n : Nat} {acc : List (Str × Addr)} {x : Str}, (x, .cell) ∈ names → ∃ c, (x, c) ∈ cellsFrom n names acc
  | (m, k) :: r, n, acc, x, h => by
    unfold cellsFrom
    rcases List.mem_cons.mp h with e | h
    · cases e
      exact ⟨n, cells_acc List.mem_cons_self⟩
    · split
      · exact cells_has h
      · exact cells_has h
theorem cells_inj : ∀ {names : List (Str × NameKind)} {h : Heap} {acc : List (Str × Addr)} {x y : Str} {c : Addr}, (∀ p ∈ acc, p.2 < h.objs.size) → (∀ x y c, (x, c) ∈ acc → (y, c) ∈ acc → x = y) →
    (x, c) ∈ cellsFrom h.objs.size names acc → (y, c) ∈ cellsFrom h.objs.size names acc → x = y
  | [], _, _, _, _, _, _, hi, h1, h2 => hi _ _ _ h1 h2
  | (n, k) :: r, h, acc, x, y, c, hl, hi, h1, h2 => by
    unfold cellsFrom at h1 h2
    split at h1
    · rename_i hk
      rw [if_pos hk] at h2
      rw [← Heap.size_push h { cls := .type "cell", data := .cell none }] at h1 h2
      refine cells_inj (h := h.push _) (fun p hp => ?_) (fun x y c a b => ?_) h1 h2
      · rw [Heap.size_push]
        rcases List.mem_cons.mp hp with rfl | hp
        · exact Nat.lt_succ_self _
        · exact Nat.lt_succ_of_lt (hl p hp)
      · rcases List.mem_cons.mp a with e | a <;> rcases List.mem_cons.mp b with e' | b
        · cases e; cases e'; rfl
        · cases e; exact absurd (hl _ b) (Nat.lt_irrefl _)
        · cases e'; exact absurd (hl _ a) (Nat.lt_irrefl _)
        · exact hi _ _ _ a b
    · rename_i hk
      rw [if_neg hk] at h2
      exact cells_inj hl hi h1 h2

theorem newEnv_comp {M : Model} {A : Around} {E : Value → Shared → Prop} {s : Shared} {scope : Scope} {globals : Addr} {closure : List (Str × Addr)} {qual : Str} {func : Option Addr} {code : Value} {around : Env} {builtins : Addr} {Q : Env → Shared → Prop}
    (h : Q (newEnv scope s.heap.objs.size globals (cellsFrom (s.heap.objs.size + 1) scope.names closure) qual func code (some around) builtins)
      { s with heap := pushCells (s.heap.push { cls := .type "dict", data := .dict #[] }) scope.names }) :
    wpAny M A (newFunctionEnv scope globals closure [] qual func code (some around) builtins) Q E s := by
  simp only [newFunctionEnv, Option.isSome_some, if_true]
  refine wpAny_bind (wpAny_alloc ?_)
  refine wpAny_bind (wpAny_layCells _ (fun n k c => rfl) scope.names closure _ _ ?_)
  rw [show ({ s with heap := s.heap.push { cls := .type "dict", data := .dict #[] } } : Shared).heap.objs.size = s.heap.objs.size + 1 from Heap.size_push ..]
  rw [List.forIn_nil]
  exact wpAny_bind (wpAny_pure (wpAny_pure h))

/-- every name of the written scope, in the scope that runs -/
theorem lookup_relS {sc : Scope} : ∀ {names : List (Str × NameKind)} {x : Str} {k : NameKind},
    (names.map fun (n, k) => if (k == NameKind.free && sc.kind == .function && sc.names.lookup n == some .cell) then (n, NameKind.cell) else (n, k)).lookup x = some k →
    ∃ k', names.lookup x = some k' ∧ (k = k' ∨ (k' = .free ∧ k = .cell))
  | [], _, _, h => by simp at h
  | (n, k₀) :: r, x, k, h => by
    have ih := @lookup_relS sc r x k
    have h' : List.lookup x ((if (k₀ == NameKind.free && sc.kind == .function && sc.names.lookup n == some .cell) = true then (n, NameKind.cell) else (n, k₀)) :: (r.map _)) = some k := h
    cases hx : x == n with
    | true =>
      simp only [List.lookup_cons, hx]
      by_cases hc : (k₀ == NameKind.free && sc.kind == .function && sc.names.lookup n == some .cell) = true
      · rw [if_pos hc] at h'
        simp only [List.lookup_cons, hx] at h'
        cases h'
        simp only [Bool.and_eq_true, beq_iff_eq] at hc
        exact ⟨k₀, rfl, .inr ⟨hc.1.1, rfl⟩⟩
      · rw [if_neg hc] at h'
        simp only [List.lookup_cons, hx] at h'
        cases h'
        exact ⟨_, rfl, .inl rfl⟩
    | false =>
      simp only [List.lookup_cons, hx]
      by_cases hc : (k₀ == NameKind.free && sc.kind == .function && sc.names.lookup n == some .cell) = true
      · rw [if_pos hc] at h'
        simp only [List.lookup_cons, hx] at h'
        exact ih h'
      · rw [if_neg hc] at h'
        simp only [List.lookup_cons, hx] at h'
        exact ih h'
/-- the names of a comprehension's block: its own (with their places in N), or captured -/
structure BlkOk (N : List Str) (sc scope : Scope) (own : List (Str × Nat)) : Prop where
  kind : scope.kind = .function
  uniq : ∀ y ∈ scope.names, scope.names.lookup y.1 = some y.2
  ix : ∀ p ∈ own, N[p.2]? = some p.1
  free : ∀ y ∈ scope.names, y.2 = .free → sc.names.lookup y.1 = some .cell ∨ sc.names.lookup y.1 = some .free
  own : ∀ y ∈ scope.names, y.2 = .local ∨ y.2 = .cell → y.1 ∈ own.map (·.1) ∨ y.1 ∉ N
/-- the slots of the block's own names forgotten -/
def wipe (σ : St) : List Nat → St
  | [] => σ
  | v :: vs => (wipe σ vs).set v none
theorem wipe_length (σ : St) : ∀ vs : List Nat, (wipe σ vs).length = σ.length
  | [] => rfl
  | v :: vs => by unfold wipe; rw [List.length_set, wipe_length σ vs]
theorem wipe_some {σ : St} {i : Nat} {x : V} : ∀ {vs : List Nat}, (wipe σ vs)[i]? = some (some x) → σ[i]? = some (some x) ∧ i ∉ vs
  | [], h => ⟨h, by simp⟩
  | v :: vs, h => by
    unfold wipe at h
    by_cases hi : v = i
    · subst hi
      by_cases hv : v < (wipe σ vs).length
      · rw [List.getElem?_set_self hv] at h; cases h
      · rw [List.getElem?_eq_none (by simpa using hv)] at h; cases h
    · rw [List.getElem?_set_ne hi] at h
      obtain ⟨h1, h2⟩ := wipe_some h
      exact ⟨h1, by simp only [List.mem_cons, not_or]; exact ⟨fun e => hi e.symm, h2⟩⟩

/-- the context of a block that starts at s, its iterator's objects at fp -/
abbrev Cx.blk (X : Cx) (s : Shared) (H : Hp) (scope : Scope) (cenv : Env) (fp : List Addr) : Cx := { X with s_0 := s, H_0 := H, env := cenv, outer := X.stack, ex := fp, fn := fun x => scope.names.lookup x == some .cell, pn := [], xe := fun _ _ => False }
section
variable {X : Cx} {pins : List (Addr × Obj)} {σ : St} {H : Hp} {s : Shared}
theorem block_start {scope : Scope} {own : List (Str × Nat)} {fp : List Addr} (I : Inv X pins σ H s) (ok : BlkOk X.N X.env.scope scope own) (hN : X.N.Nodup) (hfp : ∀ b ∈ fp, FpOk X pins H b ∧ b < s.heap.objs.size) :
    Inv (X.blk s H scope (compEnvC scope (cellsFrom (s.heap.objs.size + 1) scope.names (cloFrom X.env.cells scope.names [])) s.heap.objs.size X.env) fp) [] (wipe σ (own.map (·.2))) H { s with heap := pushCells (s.heap.push { cls := .type "dict", data := .dict #[] }) scope.names } := by
  have hfree : ∀ y ∈ scope.names, y.2 = .free → ∃ c, X.env.cells.lookup y.1 = some c := fun y hy e => by
    rcases ok.free y hy e with k | k
    · exact I.ok.has _ (.inl k)
    · exact I.ok.has _ (.inr k)
  generalize hcenv : compEnvC scope (cellsFrom (s.heap.objs.size + 1) scope.names (cloFrom X.env.cells scope.names [])) s.heap.objs.size X.env = cenv
  have kp : ∀ b o, s.heap.get? b = some o → (pushCells (s.heap.push { cls := .type "dict", data := .dict #[] }) scope.names).get? b = some o := fun b o e => pushCells_keeps _ _ _ _ (Heap.get?_push_of_some _ e)
  have hL : cenv.locals = s.heap.objs.size := by rw [← hcenv]; rfl
  have hcl : cenv.cells = cellsFrom (s.heap.objs.size + 1) scope.names (cloFrom X.env.cells scope.names []) := by rw [← hcenv]; rfl
  have hsc : cenv.scope = relS scope X.env.scope := by rw [← hcenv]; rfl
  rw [← Heap.size_push s.heap { cls := .type "dict", data := .dict #[] }] at hcl
  have cm : ∀ {y c}, (y, c) ∈ cloFrom X.env.cells scope.names [] → X.env.cells.lookup y = some c ∧ c < s.heap.objs.size := fun {y c} hm => by
    rcases cloFrom_mem hm with hm | ⟨h1, rfl⟩
    · cases hm
    · obtain ⟨c, hc⟩ := hfree _ h1 rfl
      rw [hc]
      obtain ⟨w, z⟩ := I.cell _ _ hc
      exact ⟨rfl, z.lt⟩
  have mem : ∀ {y c}, cenv.cells.lookup y = some c → (X.env.cells.lookup y = some c ∧ c < s.heap.objs.size) ∨ (s.heap.objs.size + 1 ≤ c ∧ CellAt (pushCells (s.heap.push { cls := .type "dict", data := .dict #[] }) scope.names) c none) := fun {y c} e => by
    rw [hcl] at e
    rcases cells_mem (PySem.mem_of_lookup e) with hm | ⟨_, h2, h3⟩
    · exact .inl (cm hm)
    · rw [Heap.size_push] at h2; exact .inr ⟨h2, h3⟩
  have look : ∀ {y}, scope.names.lookup y = some .free → ∃ c, cenv.cells.lookup y = some c ∧ X.env.cells.lookup y = some c := fun {y} hl => by
    have hy : (y, NameKind.free) ∈ scope.names := PySem.mem_of_lookup hl
    obtain ⟨c', e'⟩ := mem_lookup (cells_acc (names := scope.names) (n := (s.heap.push { cls := .type "dict", data := .dict #[] }).objs.size) (cloFrom_has (cells := X.env.cells) (acc := []) hy))
    rw [← hcl] at e'
    refine ⟨c', e', ?_⟩
    rw [hcl] at e'
    rcases cells_mem (PySem.mem_of_lookup e') with hm | ⟨h1, _, _⟩
    · exact (cm hm).1
    · have := ok.uniq _ h1
      rw [hl] at this; cases this
  have okB : (X.blk s H scope cenv fp).Ok := by
    refine ⟨I.ok.mod, by show cenv.scope.kind = _; rw [hsc]; exact ok.kind, by show cenv.globals = _; rw [← hcenv]; exact I.ok.glob, by show cenv.builtins = _; rw [← hcenv]; exact I.ok.blt, by show s.heap.objs.size ≤ cenv.locals; rw [hL]; exact Nat.le_refl _,
      fun y z c e1 e2 => ?_, fun y hy => ?_, fun y c z e => ?_, I.ok.hd, I.ok.frames, .inl rfl, fun b hb => ⟨?_, fun y c e z => ?_⟩, I.bs, Nat.le_trans I.ok.bsz I.sz, fun b o e hb => ?_, fun b hb z => ?_, I.stack, I.stkFree, I.ok.tb.un I.base⟩
    · have e1 : cenv.cells.lookup y = some c := e1
      have e2 : cenv.cells.lookup z = some c := e2
      rw [hcl] at e1 e2
      refine cells_inj (fun p hp => ?_) (fun y z c a b => I.ok.inj y z c (cm a).1 (cm b).1) (PySem.mem_of_lookup e1) (PySem.mem_of_lookup e2)
      rw [Heap.size_push]
      exact Nat.lt_succ_of_lt (cm (y := p.1) (c := p.2) hp).2
    · show ∃ c, cenv.cells.lookup y = some c
      have key : ∀ k, cenv.kindOf y = some k → (k = .cell ∨ k = .free) → ∃ c, cenv.cells.lookup y = some c := fun k hk hk' => by
        unfold Env.kindOf at hk
        rw [hsc] at hk
        obtain ⟨k', e, r⟩ := lookup_relS hk
        have : k' = .cell ∨ k' = .free := by
          rcases r with rfl | ⟨rfl, _⟩
          · exact hk'
          · exact .inr rfl
        rcases this with rfl | rfl
        · obtain ⟨c, hm⟩ := cells_has (n := (s.heap.push { cls := .type "dict", data := .dict #[] }).objs.size) (acc := cloFrom X.env.cells scope.names []) (PySem.mem_of_lookup e)
          obtain ⟨c', e'⟩ := mem_lookup hm
          exact ⟨c', by rw [hcl]; exact e'⟩
        · obtain ⟨c, h1, _⟩ := look e
          exact ⟨c, h1⟩
      rcases hy with hy | hy
      · exact key _ hy (.inl rfl)
      · exact key _ hy (.inr rfl)
    · have z : (scope.names.lookup y == some NameKind.cell) = true := z
      have z : scope.names.lookup y = some .cell := by simpa using z
      have e : cenv.cells.lookup y = some c := e
      rw [hcl] at e
      rcases cells_mem (PySem.mem_of_lookup e) with hm | ⟨_, h2, _⟩
      · rcases cloFrom_mem hm with hm | ⟨h1, _⟩
        · cases hm
        · have q := ok.uniq _ h1
          rw [z] at q; cases q
      · rw [Heap.size_push] at h2
        exact Nat.le_of_succ_le h2
    · show b ≠ cenv.locals
      rw [hL]; exact Nat.ne_of_lt (hfp b hb).2
    · have e : cenv.cells.lookup y = some c := e
      rcases mem e with ⟨h1, _⟩ | ⟨h1, _⟩
      · exact (hfp b hb).1.2.2.2.2.1 y c h1 z
      · have h2 : s.heap.objs.size + 1 ≤ b := by rw [← z]; exact h1
        exact absurd (Nat.lt_of_lt_of_le (hfp b hb).2 (Nat.le_of_succ_le h2)) (Nat.lt_irrefl _)
    · rcases (hfp b hb).1.2.2.2.1 with z | z
      · exact I.ok.noex b o e z
      · exact absurd (Nat.lt_of_lt_of_le (Heap.lt_size e) (Nat.le_trans I.ok.bsz z)) (Nat.lt_irrefl _)
    · rcases List.mem_cons.mp (I.stkSub b z) with z | z
      · exact (hfp b hb).1.2.1 z
      · exact (hfp b hb).1.2.2.1 z
  refine ⟨okB, rfl, ⟨I.bare.1, GG.refl _⟩, Un.kept kp, ⟨fun _ => none, ?_, fun i y av e1 e2 e3 => ?_⟩, fun y c e => ?_, ?_, fun y c e => ?_, fun p hp => ?_, I.hok.kept kp, by rw [wipe_length]; exact I.len⟩
  · show Heap.Ns _ cenv.locals _
    rw [hL]
    exact Heap.Ns.keeps (Heap.Ns.new ..) fun b o e => pushCells_keeps _ _ _ _ e
  · obtain ⟨e2, hne⟩ := wipe_some e2
    have hfr : scope.names.lookup y = some .free ∧ (cenv.kindOf y = some .cell ∨ cenv.kindOf y = some .free) := by
      have key : ∀ k, cenv.scope.names.lookup y = some k → k = .local ∨ k = .cell ∨ k = .free → scope.names.lookup y = some .free ∧ (cenv.kindOf y = some .cell ∨ cenv.kindOf y = some .free) := fun k hk hk' => by
        have hk0 := hk
        rw [hsc] at hk
        obtain ⟨k', e, r⟩ := lookup_relS hk
        have no : ¬ (k' = .local ∨ k' = .cell) := fun hh => by
          rcases ok.own _ (PySem.mem_of_lookup e) hh with e' | e'
          · obtain ⟨p, hp, hpy⟩ := List.mem_map.mp e'
            have e3 := ok.ix p hp
            have : p.1 = y := hpy
            rw [this] at e3
            exact hne (List.mem_map.mpr ⟨p, hp, nodup_ix hN e3 e1⟩)
          · exact e' (List.mem_of_getElem? e1)
        rcases r with rfl | ⟨rfl, rfl⟩
        · rcases hk' with rfl | rfl | rfl
          · exact absurd (.inl rfl) no
          · exact absurd (.inr rfl) no
          · exact ⟨e, .inr hk0⟩
        · exact ⟨e, .inl hk0⟩
      have e3 : Vis cenv.scope y := e3
      rcases e3 with e3 | e3 | e3
      · exact key _ e3 (.inl rfl)
      · exact key _ e3 (.inr (.inl rfl))
      · exact key _ e3 (.inr (.inr rfl))
    obtain ⟨m, hn, hl⟩ := I.loc
    have hvis : Vis X.env.scope y := (ok.free _ (PySem.mem_of_lookup hfr.1) rfl).elim (fun k => .inr (.inl k)) (fun k => .inr (.inr k))
    obtain ⟨w, r, q⟩ := hl i y av e1 e2 hvis
    refine ⟨w, r, .inr ⟨hfr.2, ?_⟩⟩
    obtain ⟨c, h1, h2⟩ := look hfr.1
    rcases q with ⟨k, _⟩ | ⟨_, c', e', z⟩
    · have k : X.env.scope.names.lookup y = some .local := k
      rcases ok.free _ (PySem.mem_of_lookup hfr.1) rfl with k' | k' <;> rw [show X.env.scope.names.lookup y = _ from k'] at k <;> cases k
    · rw [h2] at e'; cases e'
      exact ⟨c, h1, z.keeps kp⟩
  · have e : cenv.cells.lookup y = some c := e
    rcases mem e with ⟨h1, _⟩ | ⟨_, z⟩
    · obtain ⟨w, z⟩ := I.cell y c h1
      exact ⟨w, z.keeps kp⟩
    · exact ⟨_, z⟩
  · show H cenv.locals = none
    rw [hL]; exact I.hok.fresh (Nat.le_refl _)
  · have e : cenv.cells.lookup y = some c := e
    rcases mem e with ⟨h1, _⟩ | ⟨h1, _⟩
    · exact I.freeC y c h1
    · exact I.hok.fresh (Nat.le_of_succ_le h1)
  · exact absurd (show p ∈ ([] : List (Addr × Obj)) ++ [] from hp) (by simp)

/-- an item appended to a tracked list -/
theorem app_ok {E : Value → Shared → Prop} {D : Addr} {xs : List V} {y : V} {v : Value} {Q : Value → Shared → Prop} (I : Inv X pins σ H s) (hD : H D = some (.lst xs)) (hz : xs.length < sizeLine) (r : RelV y v)
    (h : ∀ s', Inv X pins σ (upd H D (.lst (xs ++ [y]))) s' → Q .none s') : wpAny (model X.prog X.w) X.A (call (.builtin "list.append") [.ref D, v]) Q E s := by
  obtain ⟨hz', its, n, ri, e⟩ := I.hok D _ hD
  have hl := ri.length
  refine append_at (hsz := by rw [List.size_toArray]; omega) e fun h' sb ho' => ?_
  refine h { s with heap := h' } (I.write (t' := s.toks) (by rw [hD]; trivial) (.inl rfl) (fun b u hb q => (sb.2 b hb).trans q) ⟨_, ho'⟩ ⟨by rw [List.length_append]; exact hz, its ++ [v], n + 1, ri.append (.cons r .nil), ?_⟩)
  rw [ho']
  simp

/-- a clause's tests -/
def PTs (X : Cx) (ifs : List Expr) (t : TT) : Prop :=
  ∀ (pins : List (Addr × Obj)) (s : Shared) (σ : St) (H : Hp) (Q : Bool → Hp → Prop), Inv X pins σ H s → t σ H Q →
    wpAny (model X.prog X.w) X.A (forIn ifs true fun c r => if r = true then do let ok ← isTrue c X.env (eval c X.env); pure (ForInStep.yield ok) else pure (ForInStep.yield r)) (TP X pins σ Q) X.xe s
def tYes : TT := fun _ H Q => Q true H
theorem pts_nil : PTs X [] tYes := fun _ _ _ H _ I h => wpAny_tests_nil ⟨H, I, h⟩
theorem pts_one {c : Expr} {t : TT} (h : PT X c t) : PTs X [c] t := fun pins s σ H Q I hw => wpAny_tests_one (h pins s σ H Q I hw)
end

theorem thnF {α : Type} {t : Sem α} {Q Q' : α → Shared → Prop} {M : Model} {A : Around} {E : Value → Shared → Prop} {s : Shared} (h : wpAny M A t Q (fun _ _ => False) s) (hQ : ∀ a s, Q a s → Q' a s) : wpAny M A t Q' E s := wpAny_mono h hQ fun _ _ z => False.elim z

/-- the loop of a list comprehension's block, the target of any form (codeAny_compLoop_tests asks a target that no tuple goes to; statement and proof follow it, PyProof/CompMap.lean:41-61, with the step letOwnedTupleGo kept) -/
theorem compLoop_any {prog : Program} {w : World} {A : Around} {R : Result → Shared → Prop} {s : Shared} {elt target iter : Expr} {ifs : List Expr} {scope : Scope} {pos : Pos} {it acc : Value} {env : Env} (I : Nat → Shared → Prop)
    (turn : ∀ n s, I n s → wpAny (model prog w) A (pyNext it) (fun r s₁ => match r with
      | none => R (.ok .next) s₁
      | some v => wpAny (model prog w) A (letOwnedTupleGo target it v) (fun _ s₁' => wpAny (model prog w) A (assign target env v) (fun _ s₂ =>
          wpAny (model prog w) A (forIn ifs true fun c r => if r = true then do let ok ← isTrue c env (eval c env); pure (ForInStep.yield ok) else pure (ForInStep.yield r)) (fun ok s₃ =>
            if ok = true then wpAny (model prog w) A (eval elt env) (fun x s₄ =>
              wpAny (model prog w) A (call (.builtin "list.append") [acc, x]) (fun _ s₅ => ∃ m, m < n ∧ I m s₅) (notedBy (model prog w) A env fun e s' => R (.error e) s') s₄) (notedBy (model prog w) A env fun e s' => R (.error e) s') s₃
            else ∃ m, m < n ∧ I m s₃) (notedBy (model prog w) A env fun e s' => R (.error e) s') s₂) (notedBy (model prog w) A env fun e s' => R (.error e) s') s₁') (notedBy (model prog w) A env fun e s' => R (.error e) s') s₁) (notedBy (model prog w) A env fun e s' => R (.error e) s') s)
    (n : Nat) (h : I n s) :
    codeAny (model prog w) A (.compLoop (.ListComp elt [⟨target, iter, ifs, 0⟩] scope pos) 0 it acc env) R s := by
  refine codeAny_loop rfl I (fun n s hI => ?_) n h
  show wpAny _ A ((compTurn (.ListComp elt [⟨target, iter, ifs, 0⟩] scope pos) 0 it acc env).onRaise (fun x => do noteFrame x env; theTreesLotGoes x)) _ _ s
  refine wpAny_noted ?_
  rw [compTurn_list]
  refine wpAny_bind (wpAny_standAt (wpAny_bind (wpAny_mono (turn n s hI) (fun r s₁ h₁ => ?_) fun _ _ h' => h')))
  cases r with
  | none => exact wpAny_pure h₁
  | some v =>
    refine wpAny_bind (wpAny_mono h₁ (fun _ s₁' h₁' => ?_) fun _ _ h' => h')
    refine wpAny_bind (wpAny_mono h₁' (fun _ s₂ h₂ => wpAny_bind (wpAny_mono h₂ (fun ok s₃ h₃ => ?_) fun _ _ h' => h')) fun _ _ h' => h')
    cases ok with
    | false => exact wpAny_pure ⟨rfl, h₃⟩
    | true =>
      exact wpAny_bind (wpAny_bind (wpAny_mono h₃ (fun x s₄ h₄ => wpAny_bind (wpAny_mono h₄ (fun _ s₅ h₅ => wpAny_pure (wpAny_pure ⟨rfl, h₅⟩)) fun _ _ h' => h')) fun _ _ h' => h'))

section
variable {X : Cx}
/-- [elt for target in iter if ..]: D the new list; W by the turn and a measure, Nx what a turn is to reach -/
def tLc (wi : TI) (g : TG) (tt : TT) (te : TE) (vs : List Nat) : TE := fun σ H Q => wi σ H fun J H1 => ∀ D, H1 D = none → ∃ W : Nat → Nat → Hp → Prop, (∃ m, W 0 m (upd H1 D (.lst []))) ∧ ∀ i m H, W i m H →
  (J.stop i H ∧ Q (.ref D) H) ∨ (J.go i H ∧ ∃ Nx : Hp → Prop, (∀ H', Nx H' → ∃ m', m' < m ∧ W (i + 1) m' H') ∧ ∀ x H', J.yld i H x H' → g x (wipe σ vs) H' fun σ2 H2 => wipe σ2 vs = wipe σ vs ∧ tt σ2 H2 fun b H3 =>
    if b = true then te σ2 H3 fun y H4 => ∃ acc, H4 D = some (.lst acc) ∧ acc.length < sizeLine ∧ Nx (upd H4 D (.lst (acc ++ [y]))) else Nx H3)
theorem lc_core {pins : List (Addr × Obj)} {s : Shared} {σ : St} {H : Hp} {Q : VK} {elt tg iter : Expr} {ifs : List Expr} {scope : Scope} {own : List (Str × Nat)} {pos pos' : Pos} {wi : TI} {g : TG} {tt : TT} {te : TE} {use : Option (Value → Sem Unit)} {Qf : Value → Shared → Prop}
    (hc : X.calm = true) (hN : X.N.Nodup) (I : Inv X pins σ H s) (hi : PI X tg iter wi) (ok : BlkOk X.N X.env.scope scope own)
    (hg : ∀ (s : Shared) (H : Hp) (C : Addr) (cl : List (Str × Addr)) (fp : List Addr), PG (X.blk s H scope (compEnvC scope cl C X.env) fp) tg g) (ht : ∀ (s : Shared) (H : Hp) (C : Addr) (cl : List (Str × Addr)) (fp : List Addr), PTs (X.blk s H scope (compEnvC scope cl C X.env) fp) ifs tt)
    (he : ∀ (s : Shared) (H : Hp) (C : Addr) (cl : List (Str × Addr)) (fp : List Addr), PE (X.blk s H scope (compEnvC scope cl C X.env) fp) elt te) (hs : ∀ x, foldedSetIterable iter X.env x = pure x)
    (h : tLc wi g tt te (own.map (·.2)) σ H Q)
    (hRR : ∀ D C s' m H', Inv X pins σ H' s' → Q (.ref D) H' → s'.heap.Ns C m → FpOk X pins H' C → compPost (model X.prog X.w) X.A X.xe use Qf (.ref D) C (.ok .next) s') :
    wpAny (model X.prog X.w) X.A (comprehension (.ListComp elt [⟨tg, iter, ifs, 0⟩] scope pos) scope X.env pos' (newList []) false (eval iter X.env) use) Qf X.xe s := by
  have hfree : ∀ y ∈ scope.names, y.2 = .free → ∃ c, X.env.cells.lookup y.1 = some c := fun y hy e => by
    rcases ok.free y hy e with k | k
    · exact I.ok.has _ (.inl k)
    · exact I.ok.has _ (.inr k)
  refine wpAny_comprehension_free (use := use) rfl hs (closure_ok hfree) ok.kind (fun y hy e => by rw [ok.uniq y hy, e])
    (thn (hi pins s σ H _ I h) fun xv s1 hx => thn hx fun itv s2 h2 => ?_)
  obtain ⟨it, fp, tn, J, H2, e, I2, T, st2, f2, q⟩ := h2
  subst e
  refine wpAny_newObj_type (newEnv_comp ?_) (by show 0 ≤ sizeLine; decide)
  generalize hD : s2.heap.objs.size = D
  have hDn : H2 D = none := I2.hok.fresh (Nat.le_of_eq hD)
  obtain ⟨W, ⟨m0, w0⟩, turn⟩ := q D hDn
  -- the new list
  generalize hs3 : ({ s2 with heap := s2.heap.push { cls := .type "list", data := .seq ([] : List Value).toArray } } : Shared) = s3
  have I3 : Inv X pins σ (upd H2 D (.lst [])) s3 := by
    rw [← hs3]
    refine I2.laid (t' := s2.toks) (fun b o e => Heap.get?_push_of_some _ e) (Nat.le_of_eq hD) ⟨Nat.zero_le _, [], 0, .nil, ?_⟩
    rw [← hD]
    exact Heap.get?_push_size _ rfl
  have h3 : s3.heap = s2.heap.push { cls := .type "list", data := .seq ([] : List Value).toArray } := by rw [← hs3]
  have sz : ∀ b ∈ fp, b < s2.heap.objs.size := fun b hb => by
    obtain ⟨o, e, _⟩ := T.obj _ _ st2 b hb
    exact Heap.lt_size e
  have f3 : ∀ b ∈ fp, FpOk X pins (upd H2 D (.lst [])) b ∧ b < s3.heap.objs.size := fun b hb => by
    have hlt := sz b hb
    refine ⟨⟨?_, (f2 b hb).2⟩, by rw [h3, Heap.size_push]; exact Nat.lt_succ_of_lt hlt⟩
    rw [upd_ne (by rw [← hD]; exact Nat.ne_of_lt hlt)]
    exact (f2 b hb).1
  have st3 : tn 0 s3.heap := T.keep _ _ _ st2 fun b _ o e => by rw [h3]; exact Heap.get?_push_of_some _ e
  have I4 := block_start I3 ok hN f3
  have pg := hg s3 (upd H2 D (.lst [])) s3.heap.objs.size (cellsFrom (s3.heap.objs.size + 1) scope.names (cloFrom X.env.cells scope.names [])) fp
  have pt := ht s3 (upd H2 D (.lst [])) s3.heap.objs.size (cellsFrom (s3.heap.objs.size + 1) scope.names (cloFrom X.env.cells scope.names [])) fp
  have pe := he s3 (upd H2 D (.lst [])) s3.heap.objs.size (cellsFrom (s3.heap.objs.size + 1) scope.names (cloFrom X.env.cells scope.names [])) fp
  show codeAny _ _ (.compStart (.ListComp elt [⟨tg, iter, ifs, 0⟩] scope pos) 0 (.ref it) (.ref D) (compEnvC scope (cellsFrom (s3.heap.objs.size + 1) scope.names (cloFrom X.env.cells scope.names [])) s3.heap.objs.size X.env)) (compPost (model X.prog X.w) X.A X.xe use Qf (.ref D) s3.heap.objs.size) { s3 with heap := pushCells (s3.heap.push { cls := .type "dict", data := .dict #[] }) scope.names }
  have nfp : ∀ b ∈ fp, (upd H2 D (.lst [])) b = none := fun b hb => (f3 b hb).1.1
  generalize hce : compEnvC scope (cellsFrom (s3.heap.objs.size + 1) scope.names (cloFrom X.env.cells scope.names [])) s3.heap.objs.size X.env = ce at I4 pg pt pe ⊢
  have cL : ce.locals = s3.heap.objs.size := by subst hce; rfl
  generalize hH3 : upd H2 D (.lst []) = H3 at I3 I4 pg pt pe w0 nfp f3
  generalize hs4 : ({ s3 with heap := pushCells (s3.heap.push { cls := .type "dict", data := .dict #[] }) scope.names } : Shared) = s4 at I4 ⊢
  have st4 : tn 0 s4.heap := T.keep _ _ _ st3 fun b _ o e => by rw [← hs4]; exact pushCells_keeps _ _ _ _ (Heap.get?_push_of_some _ e)
  have stat : ∀ {σ' : St} {H' : Hp} {s' : Shared}, Inv (X.blk s3 H3 scope ce fp) [] σ' H' s' → (∀ b ∈ fp, H' b = none) → ∀ b ∈ fp, FpOk (X.blk s3 H3 scope ce fp) [] H' b := fun {σ' H' s'} I' hn b hb =>
    ⟨hn b hb, (I'.ok.exf b hb).1, I'.ok.exfs b hb, .inl hb, fun x c e => (I'.ok.exf b hb).2 x c e, fun p hp => absurd (show p ∈ ([] : List (Addr × Obj)) ++ [] from hp) (by simp)⟩
  have loop : codeAny (model X.prog X.w) X.A (.compLoop (.ListComp elt [⟨tg, iter, ifs, 0⟩] scope pos) 0 (.ref it) (.ref D) ce) (compPost (model X.prog X.w) X.A X.xe use Qf (.ref D) s3.heap.objs.size) s4 := by
    refine compLoop_any (fun n s' => ∃ i H', Inv (X.blk s3 H3 scope ce fp) [] (wipe σ (own.map (·.2))) H' s' ∧ tn i s'.heap ∧ (∀ b ∈ fp, H' b = none) ∧ W i n H') ?_ m0 ⟨0, H3, I4, st4, nfp, w0⟩
    rintro n s5 ⟨i, H5, I5, st5, n5, w5⟩
    rcases turn i n H5 w5 with ⟨stop, qq⟩ | ⟨go, Nx, hNx, step⟩
    · have td := T.done (X.blk s3 H3 scope ce fp) rfl rfl rfl hc i [] s5 _ H5 (fun _ _ => False) I5 (stat I5 n5) st5 stop
      refine thnF td fun r s6 ⟨hr, I6⟩ => ?_
      subst hr
      -- back in the def's context
      have I7 : Inv X pins σ H5 s6 := I3.call' (ch := fp) I6.os I6.base I6.hok I6.bare fun b hb => ⟨(f3 b hb).1.2.2.2.1, (f3 b hb).1.2.1, (f3 b hb).1.2.2.2.2.1, (f3 b hb).1.2.2.2.2.2⟩
      have nC : H5 s3.heap.objs.size = none := by
        have z : H5 ce.locals = none := I6.free
        rw [cL] at z
        exact z
      obtain ⟨m, hn, _⟩ := I6.loc
      have hn : s6.heap.Ns ce.locals m := hn
      rw [cL] at hn
      exact hRR D s3.heap.objs.size s6 m H5 I7 qq hn (I3.fpOk (Nat.le_refl _) nC)
    · have ti := T.item (X.blk s3 H3 scope ce fp) rfl rfl rfl hc i [] s5 _ H5 (fun _ _ => False) I5 (stat I5 n5) st5 go
      refine thnF ti fun r s6 ⟨u, hr, h6⟩ => ?_
      subst hr
      refine thnF h6 fun _ s7 ⟨x, H7, I7, r7, y7, st7, n7⟩ => ?_
      have I7' := I7.pinned (stat I7 n7) (T.obj _ _ st7)
      refine thnF (pg _ s7 _ H7 x u _ I7' r7 (step x H7 y7)) fun _ s8 ⟨σ8, H8, I8, hw8, q8⟩ => ?_
      refine thnF (pt _ s8 σ8 H8 _ I8 q8) fun b s9 ⟨H9, I9, q9⟩ => ?_
      -- the turn's end
      have fin : ∀ {s' : Shared} {H' : Hp}, Inv (X.blk s3 H3 scope ce fp) ([] ++ pinsAt fp s7.heap) σ8 H' s' → Nx H' → ∃ m, m < n ∧ ∃ i H', Inv (X.blk s3 H3 scope ce fp) [] (wipe σ (own.map (·.2))) H' s' ∧ tn i s'.heap ∧ (∀ b ∈ fp, H' b = none) ∧ W i m H' := fun {s' H'} I' nx => by
        obtain ⟨m', hm, w'⟩ := hNx H' nx
        have pin' : ∀ b ∈ fp, ∀ o, s7.heap.get? b = some o → s'.heap.get? b = some o ∧ H' b = none := fun b hb o e =>
          let z := I'.pin (b, o) (List.mem_append_right _ (List.mem_append_right _ (mem_pinsAt hb e)))
          ⟨z.1, z.2.1⟩
        have hl : (wipe σ (own.map (·.2))).length = σ8.length := by rw [← hw8, wipe_length]
        refine ⟨m', hm, i + 1, H', (I'.unpinned (pins := [])).weak hl (fun j v e => ?_), T.keep _ _ _ st7 fun b hb o e => (pin' b hb o e).1, fun b hb => ?_, w'⟩
        · rw [← hw8] at e
          exact (wipe_some e).1
        · obtain ⟨o, e, _⟩ := T.obj _ _ st7 b hb
          exact (pin' b hb o e).2
      cases b with
      | false =>
        simp only [Bool.false_eq_true, if_false] at q9 ⊢
        exact fin I9 q9
      | true =>
        simp only [if_true] at q9 ⊢
        refine thnF (pe _ s9 σ8 H9 _ I9 q9) fun z s10 ⟨yv, H10, I10, r10, acc, hD10, hz10, nx⟩ => ?_
        exact app_ok (X := X.blk s3 H3 scope ce fp) I10 hD10 hz10 r10 fun s11 I11 => fin I11 nx
  exact codeAny_compStart_list loop (T.self X.A 0 _ _ _ st4 loop)
/-- as a value -/
theorem pe_lc {elt tg iter : Expr} {ifs : List Expr} {scope : Scope} {own : List (Str × Nat)} {pos : Pos} {wi : TI} {g : TG} {tt : TT} {te : TE} (hc : X.calm = true) (hN : X.N.Nodup) (hi : PI X tg iter wi) (ok : BlkOk X.N X.env.scope scope own)
    (hg : ∀ (s : Shared) (H : Hp) (C : Addr) (cl : List (Str × Addr)) (fp : List Addr), PG (X.blk s H scope (compEnvC scope cl C X.env) fp) tg g) (ht : ∀ (s : Shared) (H : Hp) (C : Addr) (cl : List (Str × Addr)) (fp : List Addr), PTs (X.blk s H scope (compEnvC scope cl C X.env) fp) ifs tt)
    (he : ∀ (s : Shared) (H : Hp) (C : Addr) (cl : List (Str × Addr)) (fp : List Addr), PE (X.blk s H scope (compEnvC scope cl C X.env) fp) elt te) (hs : ∀ x, foldedSetIterable iter X.env x = pure x := by intro _; rfl) :
    PE X (.ListComp elt [⟨tg, iter, ifs, 0⟩] scope pos) (tLc wi g tt te (own.map (·.2))) := by
  intro pins s σ H Q I h
  rw [eval_ListComp]
  refine lc_core hc hN I hi ok hg ht he hs h fun D C s' m H' I' q hn f => ⟨m, hn, fun h'' sb => ?_⟩
  obtain ⟨f0, f1, f2, f3, f4, f5⟩ := f
  exact ⟨.ref D, H', I'.turned (t' := s'.toks) (fun b o hb e => (sb.2 b hb).trans e) f0 f1 f3 f4 f5, rfl, q⟩
/-- name = [..] on one line, the name a local -/
theorem ps_setLc {i : Nat} {y : Str} {py : Pos} {elt tg iter : Expr} {ifs : List Expr} {scope : Scope} {own : List (Str × Nat)} {pos spos : Pos} {wi : TI} {g : TG} {tt : TT} {te : TE} (hc : X.calm = true) (hN : X.N.Nodup) (hy : X.N[i]? = some y) (hyl : X.env.scope.names.lookup y = some .local)
    (hsw : swapsWith (.ListComp elt [⟨tg, iter, ifs, 0⟩] scope pos) (some (.Name y py)) spos.line X.env = pure true) (hi : PI X tg iter wi) (ok : BlkOk X.N X.env.scope scope own)
    (hg : ∀ (s : Shared) (H : Hp) (C : Addr) (cl : List (Str × Addr)) (fp : List Addr), PG (X.blk s H scope (compEnvC scope cl C X.env) fp) tg g) (ht : ∀ (s : Shared) (H : Hp) (C : Addr) (cl : List (Str × Addr)) (fp : List Addr), PTs (X.blk s H scope (compEnvC scope cl C X.env) fp) ifs tt)
    (he : ∀ (s : Shared) (H : Hp) (C : Addr) (cl : List (Str × Addr)) (fp : List Addr), PE (X.blk s H scope (compEnvC scope cl C X.env) fp) elt te) (hs : ∀ x, foldedSetIterable iter X.env x = pure x := by intro _; rfl) :
    PS X (.Assign [.Name y py] (.ListComp elt [⟨tg, iter, ifs, 0⟩] scope pos) spos) (tAsg (tLc wi g tt te (own.map (·.2))) (gName i)) := by
  intro pins s σ H D I h
  rw [exec_Assign_Name_used _ _ _ _ hsw]
  refine wpAny_bind (wpAny_standAt (wpAny_bind ?_))
  show wpAny _ X.A (do let _ ← comprehension (.ListComp elt [⟨tg, iter, ifs, 0⟩] scope pos) scope X.env (firstIterPos [⟨tg, iter, ifs, 0⟩] pos) (newList []) false (eval iter X.env) (some (assign (.Name y py) X.env))) _ _ s
  have h : tLc wi g tt te (own.map (·.2)) σ H (fun x H1 => gName i x σ H1 D.nx) := h
  refine wpAny_bind (thn (lc_core (Qf := fun _ s' => SP X pins D .next s') hc hN I hi ok hg ht he hs h fun L C s' m H' I' q hn f => ?_) fun _ s' hq => wpAny_pure (wpAny_pure hq))
  show wpAny _ _ (assign (.Name y py) X.env (.ref L)) _ _ _
  refine wpAny_assign_Name (store_ok2 (v := V.ref L) I' hN hy (.inl hyl) rfl (fun s2 I2 ⟨a, sb, ha⟩ => ?_) (.inr hyl))
  obtain ⟨f0, f1, f2, f3, f4, f5⟩ := f
  have haC : C ≠ a := by
    rcases ha with z | z
    · rw [z]; exact f1
    · exact fun e => f4 y a z e.symm
  refine ⟨m, hn.sameBut sb haC, fun h3 sb3 => ?_⟩
  exact ⟨_, H', I2.turned (t' := s2.toks) (fun b o hb e => (sb3.2 b hb).trans e) f0 f1 f3 f4 f5, q⟩
theorem sw_true {elt : Expr} {gs : List Comprehension} {scope : Scope} {pos py : Pos} {y : Str} {l : Nat} {env : Env} (hk : env.scope.kind = .function) (hy : env.scope.names.lookup y = some .local) (hl : (py.line == pos.line) = true)
    (ha : (scope.names.any fun (n, k) => n == y && (k == .local || k == .cell)) = false) : swapsWith (.ListComp elt gs scope pos) (some (.Name y py)) l env = pure true := by
  have ky : env.kindOf y = some .local := hy
  have hb : env.blockKind = .function := by unfold Env.blockKind; rw [hk]; rfl
  unfold swapsWith
  simp only [hb, ky, ha, Expr.pos, hl]
  rfl
end

/-! ### the forms one uses -/
/-- over a range: Pv by the turn and the heap (the new list at D within) -/
theorem lc_range {lo : Int} {n : Nat} {g : TG} {tt : TT} {te : TE} {vs : List Nat} {σ : St} {H1 : Hp} {D : Addr} {Qd : Hp → Prop} (Pv : Nat → Hp → Prop) (h0 : Pv 0 (upd H1 D (.lst [])))
    (hs : ∀ i H, i < n → Pv i H → g (.int (lo + i)) (wipe σ vs) H fun σ2 H2 => wipe σ2 vs = wipe σ vs ∧ tt σ2 H2 fun b H3 =>
      if b = true then te σ2 H3 fun y H4 => ∃ acc, H4 D = some (.lst acc) ∧ acc.length < sizeLine ∧ Pv (i + 1) (upd H4 D (.lst (acc ++ [y]))) else Pv (i + 1) H3) (hd : ∀ H, Pv n H → Qd H) :
    ∃ W : Nat → Nat → Hp → Prop, (∃ m, W 0 m (upd H1 D (.lst []))) ∧ ∀ i m H, W i m H →
      ((Itr lo n).stop i H ∧ Qd H) ∨ ((Itr lo n).go i H ∧ ∃ Nx : Hp → Prop, (∀ H', Nx H' → ∃ m', m' < m ∧ W (i + 1) m' H') ∧ ∀ x H', (Itr lo n).yld i H x H' → g x (wipe σ vs) H' fun σ2 H2 => wipe σ2 vs = wipe σ vs ∧ tt σ2 H2 fun b H3 =>
        if b = true then te σ2 H3 fun y H4 => ∃ acc, H4 D = some (.lst acc) ∧ acc.length < sizeLine ∧ Nx (upd H4 D (.lst (acc ++ [y]))) else Nx H3) := by
  refine ⟨fun i m H => m = n - i ∧ i ≤ n ∧ Pv i H, ⟨n, by simp, Nat.zero_le _, h0⟩, ?_⟩
  rintro i m H ⟨rfl, hi, p⟩
  by_cases hlt : i < n
  · refine .inr ⟨hlt, Pv (i + 1), fun H' p' => ⟨n - (i + 1), by omega, rfl, hlt, p'⟩, fun x H' y => ?_⟩
    obtain ⟨e, y⟩ := y
    subst e y
    exact hs i _ hlt p
  · have e : i = n := by omega
    subst e
    exact .inl ⟨Nat.le_refl _, hd H p⟩
/-- over a list that the block leaves as it is -/
theorem lc_list {K : PySem.W.Frag} {a : Addr} {xs : List V} {g : TG} {tt : TT} {te : TE} {vs : List Nat} {σ : St} {H1 : Hp} {D : Addr} {Qd : Hp → Prop} (Pv : Nat → Hp → Prop) (h0 : Pv 0 (upd H1 D (.lst []))) (hl : ∀ i H, i ≤ xs.length → Pv i H → SqL K H a xs)
    (hs : ∀ i x H, xs[i]? = some x → Pv i H → g x (wipe σ vs) H fun σ2 H2 => wipe σ2 vs = wipe σ vs ∧ tt σ2 H2 fun b H3 =>
      if b = true then te σ2 H3 fun y H4 => ∃ acc, H4 D = some (.lst acc) ∧ acc.length < sizeLine ∧ Pv (i + 1) (upd H4 D (.lst (acc ++ [y]))) else Pv (i + 1) H3) (hd : ∀ H, Pv xs.length H → Qd H) :
    ∃ W : Nat → Nat → Hp → Prop, (∃ m, W 0 m (upd H1 D (.lst []))) ∧ ∀ i m H, W i m H →
      ((Itl K a).stop i H ∧ Qd H) ∨ ((Itl K a).go i H ∧ ∃ Nx : Hp → Prop, (∀ H', Nx H' → ∃ m', m' < m ∧ W (i + 1) m' H') ∧ ∀ x H', (Itl K a).yld i H x H' → g x (wipe σ vs) H' fun σ2 H2 => wipe σ2 vs = wipe σ vs ∧ tt σ2 H2 fun b H3 =>
        if b = true then te σ2 H3 fun y H4 => ∃ acc, H4 D = some (.lst acc) ∧ acc.length < sizeLine ∧ Nx (upd H4 D (.lst (acc ++ [y]))) else Nx H3) := by
  refine ⟨fun i m H => m = xs.length - i ∧ i ≤ xs.length ∧ Pv i H, ⟨xs.length, by simp, Nat.zero_le _, h0⟩, ?_⟩
  rintro i m H ⟨rfl, hi, p⟩
  have q := hl i H hi p
  by_cases hlt : i < xs.length
  · refine .inr ⟨⟨xs, xs[i], q, by simp [hlt]⟩, Pv (i + 1), fun H' p' => ⟨xs.length - (i + 1), by omega, rfl, hlt, p'⟩, fun x H' y => ?_⟩
    obtain ⟨e, y⟩ := y
    subst e
    exact hs i x _ (y xs q) p
  · have e : i = xs.length := by omega
    subst e
    exact .inl ⟨⟨xs, q, Nat.le_refl _⟩, hd H p⟩
/-- over a tuple -/
theorem lc_tup {K : PySem.W.Frag} {a : Addr} {xs : List V} {g : TG} {tt : TT} {te : TE} {vs : List Nat} {σ : St} {H1 : Hp} {D : Addr} {Qd : Hp → Prop} (Pv : Nat → Hp → Prop) (h0 : Pv 0 (upd H1 D (.lst []))) (hl : ∀ i H, i ≤ xs.length → Pv i H → SqT K H a xs)
    (hs : ∀ i x H, xs[i]? = some x → Pv i H → g x (wipe σ vs) H fun σ2 H2 => wipe σ2 vs = wipe σ vs ∧ tt σ2 H2 fun b H3 =>
      if b = true then te σ2 H3 fun y H4 => ∃ acc, H4 D = some (.lst acc) ∧ acc.length < sizeLine ∧ Pv (i + 1) (upd H4 D (.lst (acc ++ [y]))) else Pv (i + 1) H3) (hd : ∀ H, Pv xs.length H → Qd H) :
    ∃ W : Nat → Nat → Hp → Prop, (∃ m, W 0 m (upd H1 D (.lst []))) ∧ ∀ i m H, W i m H →
      ((Itt K a).stop i H ∧ Qd H) ∨ ((Itt K a).go i H ∧ ∃ Nx : Hp → Prop, (∀ H', Nx H' → ∃ m', m' < m ∧ W (i + 1) m' H') ∧ ∀ x H', (Itt K a).yld i H x H' → g x (wipe σ vs) H' fun σ2 H2 => wipe σ2 vs = wipe σ vs ∧ tt σ2 H2 fun b H3 =>
        if b = true then te σ2 H3 fun y H4 => ∃ acc, H4 D = some (.lst acc) ∧ acc.length < sizeLine ∧ Nx (upd H4 D (.lst (acc ++ [y]))) else Nx H3) := by
  refine ⟨fun i m H => m = xs.length - i ∧ i ≤ xs.length ∧ Pv i H, ⟨xs.length, by simp, Nat.zero_le _, h0⟩, ?_⟩
  rintro i m H ⟨rfl, hi, p⟩
  have q := hl i H hi p
  by_cases hlt : i < xs.length
  · refine .inr ⟨⟨xs, xs[i], q, by simp [hlt]⟩, Pv (i + 1), fun H' p' => ⟨xs.length - (i + 1), by omega, rfl, hlt, p'⟩, fun x H' y => ?_⟩
    obtain ⟨e, y⟩ := y
    subst e
    exact hs i x _ (y xs q) p
  · have e : i = xs.length := by omega
    subst e
    exact .inl ⟨⟨xs, q, Nat.le_refl _⟩, hd H p⟩
def blkC (N : List Str) (sc scope : Scope) (own : List (Str × Nat)) : Bool :=
  (match scope.kind with | .function => true | _ => false) && (scope.names.all fun y => decide (scope.names.lookup y.1 = some y.2)) && (own.all fun p => decide (N[p.2]? = some p.1)) &&
    (scope.names.all fun y => match y.2 with
      | .free => (match sc.names.lookup y.1 with | some .cell => true | some .free => true | _ => false)
      | .local => decide (y.1 ∈ own.map (·.1)) || decide (y.1 ∉ N)
      | .cell => decide (y.1 ∈ own.map (·.1)) || decide (y.1 ∉ N)
      | _ => true)
theorem blkOk_by {N : List Str} {sc scope : Scope} {own : List (Str × Nat)} (h : blkC N sc scope own = true) : BlkOk N sc scope own := by
  unfold blkC at h
  simp only [Bool.and_eq_true, List.all_eq_true, decide_eq_true_eq] at h
  obtain ⟨⟨⟨h1, h2⟩, h3⟩, h4⟩ := h
  refine ⟨?_, h2, h3, fun y hy e => ?_, fun y hy e => ?_⟩
  · split at h1
    · assumption
    · cases h1
  · have q := h4 y hy
    simp only [e] at q
    split at q <;> first | exact .inl (by assumption) | exact .inr (by assumption) | cases q
  · have q := h4 y hy
    rcases e with e | e <;> (simp only [e, Bool.or_eq_true, decide_eq_true_eq] at q; exact q)
end L2

namespace L2
open PySem PySem.Spec PyProof.Rows

section
variable {prog : Program} {w : World} {A : Around} {R : Result → Shared → Prop} {s : Shared} {elt t0 i0 t1 i1 : Expr} {ifs0 ifs1 : List Expr} {scope : Scope} {pos : Pos} {it acc : Value} {env : Env}
end

section
variable {X : Cx}
end
end L2

namespace L2
open PySem PySem.Spec PyProof.Rows

/-! ### lists of pairs as tables -/
section
variable {κ : Type} [DecidableEq κ]
def valV (kvs : List (κ × V)) (k : κ) : Option V := (kvs.find? fun kv => decide (kv.1 = k)).map (·.2)
/-- in its place, or at the end -/
def putK (kvs : List (κ × V)) (k : κ) (v : V) : List (κ × V) :=
  if (kvs.any fun kv => decide (kv.1 = k)) = true then kvs.map (fun kv => if kv.1 = k then (kv.1, v) else kv) else kvs ++ [(k, v)]
def dropK (kvs : List (κ × V)) (k : κ) : List (κ × V) := kvs.filter fun kv => decide (kv.1 ≠ k)

theorem valV_pos {p : κ × V} {r : List (κ × V)} {k : κ} (e : p.1 = k) : valV (p :: r) k = some p.2 := by simp [valV, List.find?_cons, e]
theorem valV_neg {p : κ × V} {r : List (κ × V)} {k : κ} (e : ¬ p.1 = k) : valV (p :: r) k = valV r k := by simp [valV, List.find?_cons, e]
theorem RelO.getD {o : Option V} {u : Option Value} {d : V} {d' : Value} (r : RelO o u) (rd : RelV d d') : RelV (o.getD d) (u.getD d') := by
  cases o with
  | none => cases u with
    | none => exact rd
    | some _ => exact (show False from r).elim
  | some _ => cases u with
    | none => exact (show False from r).elim
    | some _ => exact r

/-- raw tables of the same keys -/
theorem KV.val {kvs : List (κ × V)} {vs : List (κ × Value)} (r : KV kvs vs) (k : κ) : RelO (valV kvs k) (valueAt vs k) := by
  unfold KV at r
  induction r with
  | nil => exact True.intro
  | @cons p q ps qs h t ih =>
    obtain ⟨h1, h2⟩ := h
    by_cases e : p.1 = k
    · have e' : q.1 = k := h1.symm.trans e
      have b : valueAt (q :: qs) k = some q.2 := by simp [valueAt, List.find?_cons, e']
      rw [valV_pos e, b]; exact h2
    · have e' : ¬ q.1 = k := fun z => e (h1.trans z)
      have b : valueAt (q :: qs) k = valueAt qs k := by simp [valueAt, List.find?_cons, e']
      rw [valV_neg e, b]; exact ih
theorem KV.any {kvs : List (κ × V)} {vs : List (κ × Value)} (r : KV kvs vs) (k : κ) : (kvs.any fun kv => decide (kv.1 = k)) = vs.any fun kv => decide (kv.1 = k) := by
  unfold KV at r
  induction r with
  | nil => rfl
  | cons h t ih => rw [List.any_cons, List.any_cons, ih, h.1]
theorem KV.drop {kvs : List (κ × V)} {vs : List (κ × Value)} (r : KV kvs vs) (k : κ) : KV (dropK kvs k) (without vs k) := by
  unfold KV at r ⊢
  unfold dropK without
  induction r with
  | nil => exact .nil
  | @cons p q ps qs h t ih =>
    obtain ⟨h1, h2⟩ := h
    rw [List.filter_cons, List.filter_cons]
    by_cases e : p.1 = k
    · have a : ¬ decide (p.1 ≠ k) = true := by simp [e]
      have b : ¬ decide (q.1 ≠ k) = true := by simp [h1.symm.trans e]
      rw [if_neg a, if_neg b]; exact ih
    · have e' : ¬ q.1 = k := fun z => e (h1.trans z)
      have a : decide (p.1 ≠ k) = true := by simp [e]
      have b : decide (q.1 ≠ k) = true := by simp [e']
      rw [if_pos a, if_pos b]; exact .cons ⟨h1, h2⟩ ih
theorem KV.keys {kvs : List (κ × V)} {vs : List (κ × Value)} (r : KV kvs vs) : kvs.map (·.1) = vs.map (·.1) := by
  unfold KV at r
  induction r with
  | nil => rfl
  | cons h t ih => rw [List.map_cons, List.map_cons, ih, h.1]
theorem KV.length {kvs : List (κ × V)} {vs : List (κ × Value)} (r : KV kvs vs) : kvs.length = vs.length := Paired.length r
end


/-! ### a tracked dict, its keys ints and texts or tuples of these -/
/-- raw entries of a dict with tuple keys -/
abbrev KT (H : Hp) : List (List Key × V) → List (List Key × Addr × Value) → Prop := Paired fun p q => p.1 = q.1 ∧ H q.2.1 = some (.tup (p.1.map kV)) ∧ RelV p.2 q.2.2
theorem KT.val {H : Hp} {kvs : List (List Key × V)} {xs : List (List Key × Addr × Value)} (r : KT H kvs xs) (k : List Key) : RelO (valV kvs k) ((atKey xs k).map (·.2)) := by
  induction r with
  | nil => exact True.intro
  | @cons p q ps qs h t ih =>
    obtain ⟨h1, _, h2⟩ := h
    by_cases e : p.1 = k
    · have e' : q.1 = k := h1.symm.trans e
      have b : atKey (q :: qs) k = some q.2 := by simp [atKey, List.find?_cons, e']
      rw [valV_pos e, b]; exact h2
    · have e' : ¬ q.1 = k := fun z => e (h1.trans z)
      have b : atKey (q :: qs) k = atKey qs k := by simp [atKey, List.find?_cons, e']
      rw [valV_neg e, b]; exact ih
theorem KT.keeps {H H' : Hp} {kvs : List (List Key × V)} {xs : List (List Key × Addr × Value)} (r : KT H kvs xs) (ht : ∀ b ys, H b = some (.tup ys) → H' b = some (.tup ys)) : KT H' kvs xs :=
  Paired.mapP r fun _ _ z => ⟨z.1, ht _ _ z.2.1, z.2.2⟩

section
variable {P : Program} {w : World} {H : Hp} {h : Heap} {a : Addr}
end

/-- what the dict at a holds at the key y -/
def DGet (H : Hp) (a : Addr) (y : V) (r : Option V) : Prop :=
  (∃ kvs k, Rd H a (.dK kvs) ∧ y = kV k ∧ r = valV kvs k) ∨ ∃ kvs k b, Rd H a (.dT kvs) ∧ y = .ref b ∧ H b = some (.tup (k.map kV)) ∧ r = valV kvs k
/-- the heap behind a[y] = v -/
def DPut (H : Hp) (a : Addr) (y v : V) (H' : Hp) : Prop :=
  (∃ kvs k, H a = some (.dK kvs) ∧ y = kV k ∧ kvs.length < sizeLine ∧ H' = upd H a (.dK (putK kvs k v))) ∨
  ∃ kvs k b, H a = some (.dT kvs) ∧ y = .ref b ∧ H b = some (.tup (k.map kV)) ∧ kvs.length < sizeLine ∧ H' = upd H a (.dT (putK kvs k v))
theorem DGet.k {H : Hp} {a : Addr} {kvs : List (Key × V)} {k : Key} (e : H a = some (.dK kvs)) : DGet H a (kV k) (valV kvs k) := .inl ⟨kvs, k, .inl e, rfl, rfl⟩
theorem DGet.t {H : Hp} {a b : Addr} {kvs : List (List Key × V)} {k : List Key} (e : H a = some (.dT kvs)) (eb : H b = some (.tup (k.map kV))) : DGet H a (.ref b) (valV kvs k) := .inr ⟨kvs, k, b, .inl e, rfl, eb, rfl⟩
theorem DPut.k {H : Hp} {a : Addr} {kvs : List (Key × V)} {k : Key} {v : V} (e : H a = some (.dK kvs)) (hl : kvs.length < sizeLine) : DPut H a (kV k) v (upd H a (.dK (putK kvs k v))) := .inl ⟨kvs, k, e, rfl, hl, rfl⟩
theorem DPut.t {H : Hp} {a b : Addr} {kvs : List (List Key × V)} {k : List Key} {v : V} (e : H a = some (.dT kvs)) (eb : H b = some (.tup (k.map kV))) (hl : kvs.length < sizeLine) :
    DPut H a (.ref b) v (upd H a (.dT (putK kvs k v))) := .inr ⟨kvs, k, b, e, rfl, eb, hl, rfl⟩


section
variable {X : Cx} {pins : List (Addr × Obj)} {σ : St} {H : Hp} {s : Shared} {a : Addr} {y v : V} {u r : Value} {o : Option V} {A : Around} {E : Value → Shared → Prop}

end

section
variable {X : Cx} {pins : List (Addr × Obj)} {σ : St} {H : Hp} {s : Shared} {a : Addr} {kvs : List (Key × V)} {k : Key} {u : Value} {A : Around} {E : Value → Shared → Prop}
end


/-! ### readings and rules -/
section
variable {X : Cx} {o i e value : Expr} {pos pos' tpos : Pos} {td ty tv : TE}
end


/-! ### displays -/
/-- {}, to be a dict of the kind that is wanted -/
def tDNewK : TE := fun _ H Q => ∀ p, H p = none → Q (.ref p) (upd H p (.dK []))
section
variable {X : Cx} {pos : Pos}
end

/-- the pairs of a display, from the left -/
def tPairs : List (TE × TE) → St → Hp → (List (V × V) → Hp → Prop) → Prop
  | [], _, H, Q => Q [] H
  | (tk, tv) :: r, σ, H, Q => tk σ H fun x H1 => tv σ H1 fun y H2 => tPairs r σ H2 fun ps H3 => Q ((x, y) :: ps) H3
def mergeK (kvs more : List (Key × V)) : List (Key × V) := more.foldl (fun acc kv => putK acc kv.1 kv.2) kvs
/-- {k: v, ..} with keys ints and texts; the new dict stands empty while the pairs are made -/
def tDisp (trs : List (TE × TE)) : TE := fun σ H Q => ∀ p, H p = none → tPairs trs σ (upd H p (.dK [])) fun ps H2 => H2 p = some (.dK []) ∧ ∃ kvs : List (Key × V), ps = kvs.map (fun kv => (kV kv.1, kv.2)) ∧ kvs.length ≤ 15 ∧ Q (.ref p) (upd H2 p (.dK (mergeK [] kvs)))
/-! ### methods -/
/-- a method call o.m(e) of a built-in, with one argument: what must be seen of the text -/
structure M1 (X : Cx) (o : Expr) (m : Str) (apos : Pos) (e : Expr) (cpos : Pos) : Prop where
  base : attributeBase o m X.env (eval o X.env) = eval o X.env
  few : ((backTo cpos (starEach [e] X.env)).all (fun x => !x.1) && (backToKw cpos (keywordEach [] X.env)).all (fun x => x.1.isSome)
    && decide (([e] : List Expr).length + ([] : List Keyword).length + (if ([] : List Keyword).isEmpty then 0 else 1) < 30)) = true
  line : (apos.endLine == cpos.line) = true
  trees : backTo cpos (starEach [e] X.env) = [(false, eval e X.env)]
structure M2 (X : Cx) (o : Expr) (m : Str) (apos : Pos) (e f : Expr) (cpos : Pos) : Prop where
  base : attributeBase o m X.env (eval o X.env) = eval o X.env
  few : ((backTo cpos (starEach [e, f] X.env)).all (fun x => !x.1) && (backToKw cpos (keywordEach [] X.env)).all (fun x => x.1.isSome)
    && decide (([e, f] : List Expr).length + ([] : List Keyword).length + (if ([] : List Keyword).isEmpty then 0 else 1) < 30)) = true
  line : (apos.endLine == cpos.line) = true
  trees : backTo cpos (starEach [e, f] X.env) = [(false, eval e X.env), (false, eval f X.env)]

section
variable {X : Cx} {pins : List (Addr × Obj)} {σ : St} {H : Hp} {s : Shared} {a : Addr} {y d : V} {u r : Value} {o : Option V} {A : Around} {E : Value → Shared → Prop}
end

section
variable {X : Cx} {o e f : Expr} {apos cpos : Pos} {td ty tx : TE}
end

/-! ### dict(d): a copy -/
section
variable {X : Cx} {pins : List (Addr × Obj)} {σ : St} {H : Hp} {s : Shared} {a : Addr} {kvs : List (Key × V)} {A : Around} {E : Value → Shared → Prop}
end


section
variable {X : Cx} {pins : List (Addr × Obj)} {σ : St} {H : Hp} {s : Shared} {a : Addr} {y : V} {u : Value} {A : Around} {E : Value → Shared → Prop}
end
end L2

namespace L2
open PySem PySem.Spec PyProof.Rows

section
variable {prog : Program} {w : World} {A : Around} {E : Value → Shared → Prop}
end

section
variable {X : Cx}
end
end L2

namespace L2
open PySem PySem.Spec PyProof.Rows

section
variable {X : Cx} {pins : List (Addr × Obj)} {σ : St} {H : Hp} {s : Shared} {h' : Heap}
/-- several records of ours have turned -/
theorem Inv.turnedL {t' : Nat} {ch : List Addr} (I : Inv X pins σ H s) (k : ∀ b o, b ∉ ch → s.heap.get? b = some o → h'.get? b = some o) (hf : ∀ b ∈ ch, FpOk X pins H b) : Inv X pins σ H { s with heap := h', toks := t' } := by
  have nit : ∀ b u, H b = some u → b ∉ ch := fun b u e z => by
    have q := (hf b z).1
    rw [q] at e; cases e
  refine I.step (g' := s.gens) (d' := s.drawn) (ch := ch) (fun b hb => ⟨(hf b hb).2.2.2.1, (hf b hb).2.1, (hf b hb).2.2.2.2.1, (hf b hb).2.2.2.2.2⟩) (fun b o _ _ hc e _ => k b o hc e) (fun b o _ _ hc e _ => ⟨o.slots, k b o hc e⟩)
    (fun _ _ _ _ n => n) (fun b o hc e => ⟨o, k b o hc e⟩) (fun _ _ e => e) (fun _ _ _ e => e) (fun b ps e => ⟨#[], by rw [e]; simp, CdOk.nil⟩) (fun m hm => ?_) (fun b u e => ?_) I.bare
  · obtain ⟨o, es, ep, ho, r⟩ := hm
    exact ⟨o, es, ep, k _ o (fun z => (hf _ z).2.1 rfl) ho, r⟩
  · refine (I.hok b u e).stay (fun c v hc q => k c v ?_ q) (fun _ q => q) fun _ _ q => q
    rcases hc with z | z
    · rw [z]; exact nit b u e
    · exact nit c _ z
/-- .. and one new object is laid -/
theorem Inv.turnedNew {t' : Nat} {ch : List Addr} {T : Addr} {ob : HO} (I : Inv X pins σ H s) (k : ∀ b o, b ∉ ch → s.heap.get? b = some o → h'.get? b = some o) (hf : ∀ b ∈ ch, FpOk X pins H b) (hT : s.heap.objs.size ≤ T)
    (new : ObjOk X.prog X.w (upd H T ob) h' T ob) : Inv X pins σ (upd H T ob) { s with heap := h', toks := t' } := by
  have hn : H T = none := I.hok.fresh hT
  have nit : ∀ b u, H b = some u → b ∉ ch := fun b u e z => by
    have q := (hf b z).1
    rw [q] at e; cases e
  refine I.step (g' := s.gens) (d' := s.drawn) (ch := ch) (fun b hb => ⟨(hf b hb).2.2.2.1, (hf b hb).2.1, (hf b hb).2.2.2.2.1, (hf b hb).2.2.2.2.2⟩) (fun b o _ _ hc e _ => k b o hc e) (fun b o _ _ hc e _ => ⟨o.slots, k b o hc e⟩)
    (fun b o _ e n => ?_) (fun b o hc e => ⟨o, k b o hc e⟩) (fun b xs e => ?_) (fun b o u e => ?_) (fun b ps e => ⟨#[], ?_, CdOk.nil⟩) (fun m hm => ?_) (fun b u e => ?_) I.bare
  · rw [upd_ne (Nat.ne_of_lt (Nat.lt_of_lt_of_le (Heap.lt_size e) hT))]; exact n
  · rw [upd_ne (ne_of_none e hn)]; exact e
  · rw [upd_ne (ne_of_none e hn)]; exact e
  · rw [upd_ne (ne_of_none e hn), e]; simp
  · obtain ⟨o, es, ep, ho, r⟩ := hm
    exact ⟨o, es, ep, k _ o (fun z => (hf _ z).2.1 rfl) ho, r⟩
  · by_cases hb : b = T
    · subst hb
      rw [upd_same] at e
      cases e
      exact new
    · rw [upd_ne hb] at e
      refine (I.hok b u e).stay (fun c v hc q => k c v ?_ q) (fun c q => by rw [upd_ne (ne_of_none q hn)]; exact q) fun c xs q => by rw [upd_ne (ne_of_none q hn)]; exact q
      rcases hc with z | z
      · rw [z]; exact nit b u e
      · exact nit c _ z

/-! ### locking a thing while a statement runs -/
end
section
variable {X : Cx}
/-! ### one iterator just laid -/
end

/-! ### range with a step -/
/-- range(i, j, c): small bounds, n items -/
def RgC (i j c : Int) (n : Nat) : Prop := c ≠ 0 ∧ c.natAbs < 1073741824 ∧ Builtin.Range.small i j c = true ∧ Builtin.Range.rangeSize i j c = n
theorem RgC.neg {i j : Int} (ha : -(2 ^ 62) ≤ i) (ha' : i < 2 ^ 62) (hb : -(2 ^ 62) ≤ j) (hb' : j < 2 ^ 62) : RgC i j (-1) (i - j).toNat :=
  ⟨by decide, by decide, PySem.W.small_down ha ha' hb hb', PySem.W.rangeSize_downNat i j⟩
section
variable {X : Cx} {tg : Expr}
end
/-! ### reversed(list) -/
section
variable {X : Cx} {tg : Expr}
end

/-! ### a str -/
/-! ### a dict's keys: any dict's entries -/
section
variable {prog : Program} {w : World} {A : Around} {E : Value → Shared → Prop} {s : Shared}
end

/-! ### a locked dict -/
section
variable {X : Cx} {pins : List (Addr × Obj)} {σ : St} {H : Hp} {s : Shared} {d : Addr} {o : Obj}
theorem Inv.frzK {kvs : List (Key × V)} (I : Inv X pins σ H s) (h : H d = some (.frz o (.dK kvs))) :
    (d == sysModules) = false ∧ s.heap.get? d = some o ∧ o.ExactDict ∧ ∃ (es : Array DictEntry) (ep : Nat) (vs : List (Key × Value)), o.data = .dict es ep ∧ es.size = kvs.length ∧ KV kvs vs ∧ s.heap.DictAt (mixKind X.prog X.w) d vs ep := by
  obtain ⟨hd, z, hs, vs, kv, o', es, ep, ho, hx, hdt, r⟩ := I.hok d _ h
  rw [hd] at ho
  cases ho
  refine ⟨hs, hd, hx, es, ep, vs, hdt, ?_, kv, o, es, hd, hx, hdt, r⟩
  have l1 := r.2.1.length
  have l2 : kvs.length = vs.length := Paired.length kv
  rw [Array.length_toList] at l1
  omega
end

section
variable {P : Program} {w : World} {K : PySem.W.Frag} {tg : Expr} {d : Addr} {o : Obj} {es : Array DictEntry} {ep : Nat}
end

/-! ### for k in d, d.keys(), d.values(), d.items() -/
section
variable {X : Cx} {tg e : Expr} {td : TE} {apos cpos : Pos}
end

/-! ### enumerate(list) -/
/-- the list at a as it stands at each turn, each item in a new pair -/
def Ite (K : PySem.W.Frag) (a : Addr) : It :=
  ⟨fun i H => ∃ (xs : List V) (x : V), SqL K H a xs ∧ xs[i]? = some x, fun i H v H' => ∃ T x, v = .ref T ∧ H T = none ∧ H' = upd H T (.tup [.int (i : Nat), x]) ∧ ∀ xs, SqL K H a xs → xs[i]? = some x, fun i H => ∃ xs : List V, SqL K H a xs ∧ xs.length ≤ i⟩
theorem turn_enum {P : Program} {w : World} {K : PySem.W.Frag} {elts : List Expr} {kk : Nat} {tpos : Pos} (a e it : Addr) :
    Turn P w K (.Tuple elts kk tpos) (Ite K a) [e, it] e (fun i h => (∃ old, IsEnum h e it ((i : Nat) : Int) old) ∧ h.IsListIter it a i ∧ e ≠ it) where
  mem := by simp
  obj := fun i h st b hb => by
    obtain ⟨⟨old, he⟩, ⟨o, ho, hc, hd⟩, _⟩ := st
    have e' : b = e ∨ b = it := by simpa using hb
    rcases e' with z | z
    · rw [z]; exact ⟨_, he, fun v q => nomatch q⟩
    · rw [z]; exact ⟨o, ho, fun v q => by rw [hd] at q; cases q⟩
  keep := fun i h h' st k => let ⟨⟨old, he⟩, hi, hne⟩ := st; ⟨⟨old, k e (by simp) _ he⟩, hi.at fun o q => k it (by simp) o q, hne⟩
  item := by
    intro X hP hw hK hc i pins s σ H E I hf st hg
    subst hP hw hK
    obtain ⟨⟨old, he⟩, hit, hne⟩ := st
    obtain ⟨xs, x, hq, hx⟩ := hg
    obtain ⟨its, rv, p, hz⟩ := I.list hq
    obtain ⟨u, hu, ru⟩ := rv.get hx
    have hel : e < s.heap.objs.size := Heap.lt_size he
    have hil : it < s.heap.objs.size := by obtain ⟨_, q, _⟩ := hit; exact Heap.lt_size q
    refine wpAny_pyNext_enum_item he hit p.isList (x := u) (by simpa using hu) hne fun h' ho hit' hT hsz hk => ?_
    refine ⟨_, rfl, wpAny_letOwnedTupleGo_enum (s := { s with heap := h', toks := s.toks + 1 }) ho fun h'' he' sb => ?_⟩
    have hT2 : h''.get? s.heap.objs.size = some { cls := .type "tuple", data := .seq #[.int i s.toks, u] } := (sb.2 _ (Nat.ne_of_gt hel)).trans hT
    have new : ObjOk X.prog X.w (upd H s.heap.objs.size (.tup [.int (i : Nat), x])) h'' s.heap.objs.size (.tup [.int (i : Nat), x]) :=
      ⟨by show 2 ≤ sizeLine; decide, [.int i s.toks, u], .cons ⟨_, rfl⟩ (.cons ru .nil), ⟨_, hT2, rfl, _, rfl⟩⟩
    have I1 : Inv X pins σ (upd H s.heap.objs.size (.tup [.int (i : Nat), x])) { s with heap := h'', toks := s.toks + 1 } :=
      I.turnedNew (ch := [e, it]) (fun b ob hb q => (sb.2 b (fun z => hb (by simp [z]))).trans (hk b ob (fun z => hb (by simp [z])) (fun z => hb (by simp [z])) q)) hf (Nat.le_refl _) new
    refine ⟨.ref s.heap.objs.size, _, I1, rfl, ⟨_, x, rfl, I.hok.fresh (Nat.le_refl _), rfl, fun ys hy => by rw [I.list_inj hy hq]; exact hx⟩, ⟨⟨u, ?_⟩, hit'.at fun o q => (sb.2 it (Ne.symm hne)).trans q, hne⟩, fun b hb => ?_⟩
    · have e1 : ((i + 1 : Nat) : Int) = (i : Int) + 1 := by omega
      rw [e1]; exact he'
    · have hb' : b < s.heap.objs.size := by
        have e' : b = e ∨ b = it := by simpa using hb
        rcases e' with z | z
        · rw [z]; exact hel
        · rw [z]; exact hil
      rw [upd_ne (Nat.ne_of_lt hb')]
      exact (hf b hb).1
  done := by
    intro X hP hw hK hc i pins s σ H E I hf st hg
    subst hP hw hK
    obtain ⟨⟨old, he⟩, hit, hne⟩ := st
    obtain ⟨xs, hq, hx⟩ := hg
    obtain ⟨its, rv, p, hz⟩ := I.list hq
    obtain ⟨f0, f1, f2, f3, f4, f5⟩ := hf it (by simp)
    have hl := rv.length
    exact wpAny_pyNext_enum_end (I.ok.hd hc) he hit p.isList (by simp; omega) fun h' eb => ⟨rfl, I.turned (t' := s.toks) (fun b o hb q => eb b o hb q) f0 f1 f3 f4 f5⟩
  self := fun A i s Q E st h => let ⟨⟨_, he⟩, _⟩ := st; wpAny_pyIter_enum he h
def iEnum (K : PySem.W.Frag) (ta : TA) : TI := fun σ H R => ta σ H fun vs H1 => ∃ a xs, vs = [.ref a] ∧ SqL K H1 a xs ∧ R (Ite K a) H1
theorem pi_enum {X : Cx} {e : Expr} {ta : TA} {p pos tpos : Pos} {elts : List Expr} {kk : Nat} (hg : Gl X "enumerate") (hm : X.mg "enumerate" = none) (ha : PA X [e] ta) (hs : starEach [e] X.env = [(false, eval e X.env)] := by rfl) :
    PI X (.Tuple elts kk tpos) (.Call (.Name "enumerate" p) [e] [] pos) (iEnum X.K ta) := by
  intro pins s σ H R I h
  refine Call_ (ld_blt I hg hm boot_enumerate (PyProof.Rows.callWith_type1 (thn (ha pos pins s σ H _ I h) fun us s1 ⟨vs, H1, I1, r1, q1⟩ => ?_) hs rfl))
  obtain ⟨a, xs, ex, hq, q⟩ := q1
  subst ex
  cases r1 with
  | cons r rr =>
    cases rr
    cases r
    obtain ⟨its, rv, p', hz⟩ := I1.list hq
    refine call_enumerate_list p'.isList fun h' he hit hsz hk => wpAny_pyIter_enum he ?_
    have I2 : Inv X pins σ H1 { s1 with heap := h' } := I1.kept (t' := s1.toks) hk
    refine ⟨s1.heap.objs.size + 1, [s1.heap.objs.size + 1, s1.heap.objs.size], _, _, H1, rfl, I2, turn_enum a (s1.heap.objs.size + 1) s1.heap.objs.size, ⟨⟨.none, he⟩, hit, Nat.succ_ne_self _⟩, fun b hb => ?_, q⟩
    have e' : b = s1.heap.objs.size + 1 ∨ b = s1.heap.objs.size := by simpa using hb
    have hle : s1.heap.objs.size ≤ b := by
      rcases e' with z | z
      · rw [z]; exact Nat.le_add_right _ _
      · rw [z]; exact Nat.le_refl _
    exact I1.fpOk hle (I1.hok.fresh hle)
/-! ### zip(list, list) -/
theorem boot_zip5 : bootBuiltins "zip" = some (.type "zip") := by decide +kernel
end L2

section 
namespace Bits
open PySem PyProof.Rows

end Bits
end 

section 
namespace TL
open PySem PySem.Builtin PySem.Builtin.Str PySem.StrLaws

abbrev tl (x : Str) : List Nat := x.cps.toList
/-! ### the list functions -/
/-- S stands at the head of l -/
def pre (S l : List Nat) : Bool := l.take S.length == S
/-- l cut at each S from the left; k signs are still to be passed over -/
def spl (S : List Nat) : Nat → List Nat → List Nat → List (List Nat)
  | _, acc, [] => [acc]
  | 0, acc, c :: r => if pre S (c :: r) = true then acc :: spl S (S.length - 1) [] r else spl S 0 (acc ++ [c]) r
  | k + 1, acc, _ :: r => spl S k acc r
/-- what stands before the first S, and behind it -/
def par (S : List Nat) : List Nat → List Nat → Option (List Nat × List Nat)
  | _, [] => none
  | acc, c :: r => if pre S (c :: r) = true then some (acc, (c :: r).drop S.length) else par S (acc ++ [c]) r

/-! ### the model's split and partition are these -/
/-! ### computing spl and par -/
/-! ### digits -/
/-! ### words: x.split() -/
end TL
end 

namespace L2
open PySem PySem.Spec PyProof.Rows

section
variable {X : Cx} {pins : List (Addr × Obj)} {σ : St} {H : Hp} {s : Shared} {Q : VK}
end

section
variable {X : Cx}

/-! ### of a text alone -/
/-! ### of a text and a text -/
end

section
variable {X : Cx} {o e : Expr} {to te : TE}
end
end L2

namespace L2
open PySem PySem.Spec PyProof.Rows

section
variable {X : Cx}
end

/-! ### slices of a text -/
theorem IsPart.raw {v : Value} {o : Option Int} (p : IsPart v o) : ∃ l : Option (Int × Tok), v = partValue l ∧ l.map (·.1) = o := by
  cases p with
  | none => exact ⟨none, rfl, rfl⟩
  | int i t => exact ⟨some (i, t), rfl, rfl⟩

end L2

namespace Att
open PySem PySem.W PySem.Calls PyProof.Rows

/-! ### the script -/
theorem ints_of_wellAll {P : Params} {h : Heap} : ∀ (ns : List Int) (vs : List Value), WellAll P h vs (ns.map WData.int) → IntsAre vs ns := by
  intro ns
  induction ns with
  | nil =>
    intro vs w
    rw [List.map_nil] at w
    cases w
    exact .nil
  | cons n ns ih =>
    intro vs w
    rw [List.map_cons] at w
    cases w with
    | cons a b =>
      cases a
      exact .cons _ _ (ih _ b)

theorem script_of {l : OpenLaw} {n : Nat} (hn : l.most = some n) {P : Params} {h : Heap} {args : List WData} {vals : List Value}
    (hpre : l.row.toRowW.claim.pre args = true) (hwl : WellAll P h vals args) :
    ∃ a vs ns, vals = [Value.ref a] ∧ args = [WData.list (ns.map WData.int)] ∧ h.get? a = some { cls := .type "list", data := .seq vs.toArray } ∧ IntsAre vs ns ∧ ns.length ≤ n := by
  have hsh : WShape.hasAll [] args [.list .int] = true := (pre_splitW hpre).1
  have hc : l.pre.holds [] { args := args } = true := (pre_splitW hpre).2
  obtain ⟨d, r, rfl, h1, h2⟩ := hasAllW_cons hsh
  obtain rfl := hasAllW_nil h2
  obtain ⟨xs, rfl, h3⟩ := hasW_list h1
  obtain ⟨ns, rfl⟩ := items_int h3
  have hlen : ns.length ≤ n := by
    unfold OpenLaw.pre at hc
    have h4 : (WTm.not (.lt (.lit (.int (n : Int))) (.len (.arg 0)))).holds [] { args := [.list (ns.map .int)] } = true := by
      have h4 := (holds_andW hc).1
      rw [hn] at h4
      exact h4
    have h5 := condW_of h4 (w_not (w_lt w_lit (w_len_list (w_arg rfl))))
    rw [List.length_map] at h5
    refine Nat.le_of_not_lt fun q => ?_
    have q' : (n : Int) < ((ns.length : Nat) : Int) := by omega
    first
      | (rw [decide_eq_true q'] at h5; exact absurd h5 (by decide))
      | (simp at h5; omega)
  cases hwl with
  | cons w1 w2 =>
    cases w2
    cases w1 with
    | list ho hall => exact ⟨_, _, ns, rfl, rfl, ho, ints_of_wellAll ns _ hall, hlen⟩

theorem post_true (l : OpenLaw) (args : List WData) : l.row.toRowW.claim.post args (.bool true) args = true :=
  postW_of (r := l.row.toRowW) (X := (true == true))
    (show WShape.has [] (.bool true) .bool = true by first | rfl | decide | simp [WShape.has, WShape.arms, WShape.armsAll])
    (show (WTm.eq .res (.lit (.bool true))).value [] { args := args, res := some (.bool true), after := args } = some (.bool (true == true)) from w_eq_bool (w_res rfl) w_lit) rfl

/-! ### the attachment: holds_open's last premise (the goal 'hc' behind k_head) from a wpAny of the law's body -/
/-- the same from a codeAny of the CALL (for a layer whose function contracts speak of calls) -/
theorem attach_call {l : OpenLaw} {n : Nat} {q : Program} {loose : List Str} {XP : (Str → Option Value) → Heap → Prop} {YP : World → Heap → Prop} {d : DefRec}
    (hn : l.most = some n) (hdf : d.params.defaults = [])
    (call : ∀ (w : World) (s₀ s₁ : Shared) (mg mb : Str → Option Value) (fa : Addr) (o : Obj) (pm cd doc : Value) (a : Addr) (vs : List Value) (ns : List Int),
      Ground q loose [] XP w s₀ mg mb s₁.heap → YP w s₁.heap →
      s₁.heap.get? fa = some o → o.data = .func (docDef d.name d.params d.body d.scope pm cd doc) → s₁.heap.CodeRec cd d.name → mg d.name = some (.ref fa) →
      s₁.heap.get? a = some { cls := .type "list", data := .seq vs.toArray } → IntsAre vs ns → ns.length ≤ n → s₁.gens = #[] →
      codeAny (model l.prog w) callerA (.call (.ref fa) ⟨[.ref a], []⟩) (fun r s' => r = .ok (.ret (.bool true)) ∧ OldK s₁.heap s'.heap ∧ s'.os = s₁.os ∧ AllBare s'.gens) s₁) :
    WalkO q loose XP YP l.row.toRowW d [] (fun f vs => PySem.call f vs) := by
  intro w s₀ s₁ mg mb G Y fa o pm cd doc dV kV ho hd hcd hD hmg hg args vals as hpre hlay hrd hwl hlo
  obtain rfl : dV = .none := Dflts.none hD hdf
  obtain rfl : kV = .none := Dflts.noKw hD
  obtain ⟨a, vs, ns, rfl, rfl, hobj, hints, hlen⟩ := script_of hn hpre hwl
  refine enter_call (codeAny_mono (call w s₀ s₁ mg mb fa o pm cd doc a vs ns G Y ho (fd_plain hd) hcd hmg hobj hints hlen hg) fun r s' hq => ?_)
  obtain ⟨rfl, h2, h3, h4⟩ := hq
  exact ⟨.inl ⟨.bool true, .bool true, [], rfl, fun _ => rfl, .bool true, post_true l _, fun _ => ⟨List.Pairwise.nil, fun _ hm => (nomatch hm)⟩⟩, h2, h3, h4⟩

/-! ### rules over ANY heap (no ledger) from facts about the written part K: the library's own take a ledger (News) for what they write -/
section
variable {prog : Program} {w : World} {A : Around} {E : Value → Shared → Prop} {s : Shared} {K : Frag}

/-! the whole heap as the ledger: makes every rule that writes through a ledger a rule over any heap -/
def ledger (h : Heap) (L d : Addr) : List (Addr × Obj) := (List.range h.objs.size).filterMap fun a => if a = L ∨ a = d then none else (h.get? a).map fun o => (a, o)
end
end Att

namespace L2
open PySem PySem.Spec PyProof.Rows

theorem vals_ints : ∀ {vs : List Value} {ns : List Int}, IntsAre vs ns → Vals (ns.map V.int) vs
  | _, _, .nil => .nil
  | _, _, .cons n t h => .cons ⟨t, rfl⟩ (vals_ints h)

/- HEAD -/
end L2

/- THE LAST THEOREM (shape; LID, My.* are yours):
   My.Adr: a structure of the addresses that your layer names (classes, functions); My.Txt K t: a structure (Prop) of the equations over K;
   My.txt_mk : {K} {implicit addresses ..} (e1 : nsIn K mainGlobals "law" = some (some (.ref f))) (e2 : K.lookup f = some ⟨oc, od, .func (fnOf "law" "law" params body scope dV kV doc pm an cdv ct), sl⟩) (e3 : codeIn K cdv "law" = true) .. : ∃ t, My.Txt K t

set_option maxRecDepth 100000 in
set_option maxHeartbeats 0 in
theorem PySem.Challenge.cw_LID_holds : PySem.Challenge.rw_LID.Holds := by
  w_on; o_law; k_head; (case hw => w_witness2)
  k_fill
  refine L2.walk_of (l := PySem.Challenge.rw_LID) (n := 63) (k := 40) (x := "script") (CX := fun w => ..) (sp := fun _ => My.sp_law) rfl (by decide) rfl ⟨rfl, by decide, by decide⟩ (fun w h Y => PySem.W.kIn_of Y) ?F ?S ?C
  case F =>
    intro w mg fa h KX G hmg
    have T : ∃ t, My.Txt (L2.KOf KX) t := by
      dsimp only [L2.KOf]                          -- K must stand as «<heap const> w.params» for k_is
      refine' My.txt_mk ?e1 ?e2 ?e3 ..
      (case e1 => PySem.W.k_is)                    -- in the order: a name -> its address -> its object -> its parts
      (case e2 => PySem.W.k_is)
      ..
    obtain ⟨t, T⟩ := T
    have e0 := hmg.symm.trans (PySem.W.mg_of KX G T.law)
    cases e0                                       -- fa is the law's own address
    exact ⟨_, fun s u => .of_eq rfl, fun base kb nb => My.law_fn T kb nb⟩     -- if «.of_eq rfl» comes too early: refine' ⟨_, ?b, fun base kb nb => My.law_fn T kb nb⟩; exact fun s u => .of_eq rfl
  case S => exact fun w H a ns hl hO hS => ..
  case C => exact ..
(the tactic k_is has no namespace: write k_is) -/

/-! SHORT WORDS over the layer: a def of the text, its body, what a loop and a test want. -/
namespace L2
open PySem PySem.Spec PyProof.Rows

/-! ### the text by places -/
def defArgs (s : Stmt) : Arguments := match s with
  | .FunctionDef _ a _ _ _ _ _ _ _ _ => a
  | _ => { posonlyargs := [], args := [], vararg := none, kwonlyargs := [], kw_defaults := [], kwarg := none, defaults := [] }
def defBody (s : Stmt) : List Stmt := match s with
  | .FunctionDef _ _ b _ _ _ _ _ _ _ => b
  | _ => []
def defScope (s : Stmt) : Scope := match s with
  | .FunctionDef _ _ _ _ _ _ sc _ _ _ => sc
  | _ => { kind := .function, names := [], isGenerator := false, isCoroutine := false }

/-! ### no exception leaves a def -/
abbrev CX0 : CXT := fun _ _ _ _ _ _ => False
abbrev E0 : XK := fun _ _ _ => False
theorem pass0 {X : Cx} : Passes CX0 X E0 := fun _ _ _ _ _ _ _ h => h.elim

/-! ### a def (or method) of the text as it stands behind the top -/
structure Fun (K : PySem.W.Frag) (x qual : Str) (st : Stmt) (f : Addr) (fd : FuncData) : Prop where
  ex : ∃ (oc : Value) (od : Option Addr) (kV doc pm : Value) (an : Option Addr) (cdv ct : Value) (osl : Array (Option Value)),
    fd = PySem.W.fnOf x qual (defArgs st) (defBody st) (defScope st) .none kV doc pm an cdv ct ∧ K.lookup f = some ⟨oc, od, .func fd, osl⟩ ∧ PySem.W.codeIn K cdv qual = true
  kp : PySem.W.keepIn K (.ref f) = true
section
variable {P : Program} {w : World} {K : PySem.W.Frag} {mg : Str → Option Value} {base : Heap}
/-- THE RULE for a def: its body as a term of rules, and the reading of that term -/
theorem Fun.ok {x qual : Str} {st : Stmt} {f : Addr} {fd : FuncData} {N ps : List Str} {k : Nat} {sp : Sp} (F : Fun K x qual st f fd) (S : FnScope N ps (defScope st)) (len : ∀ vs H Q E, sp vs H Q E → vs.length = ps.length)
    (hbody : ∀ (cdv : Value) (A : Around) (outer : List Env) (s : Shared) (H : Hp) (vs : List V) (Q : VK) (E : XK), Room k (A.deeper (envOfC qual (defScope st) s.heap.objs.size f cdv)) → sp vs H Q E →
      ∃ t, PSs (cxOf CX0 P w K mg base N qual (defScope st) f cdv A outer s H E).nox (defBody st) t ∧ t { nx := fun _ H' => Q .non H', rt := Q } (start N vs) H) : FnOk P w K mg base CX0 (k + 1) f fd ps sp := by
  obtain ⟨oc, od, kV, doc, pm, an, cdv, ct, osl, rfl, lk, hcd⟩ := F.ex
  refine fn_of lk hcd S len fun A outer s H vs Q E hr hsp => ?_
  obtain ⟨t, h, q⟩ := hbody cdv A outer s H vs Q E hr hsp
  exact ⟨t, h.nox, q⟩
/-- how its arguments bind (no defaults): h is «fun _ _ _ _ _ _ us hl => match us, hl with | [_, _], _ => rfl», one _ a parameter -/
theorem Fun.binds {x qual : Str} {st : Stmt} {f : Addr} {fd : FuncData} {ps : List Str} (F : Fun K x qual st f fd)
    (h : ∀ (kV doc pm : Value) (an : Option Addr) (cdv ct : Value) (us : List Value), us.length = ps.length → bindArgs (PySem.W.fnOf x qual (defArgs st) (defBody st) (defScope st) .none kV doc pm an cdv ct) ⟨us, []⟩ = pure (ps.zip us)) : Binds K fd ps [] := by
  obtain ⟨oc, od, kV, doc, pm, an, cdv, ct, osl, rfl, lk, hcd⟩ := F.ex
  exact .all (h kV doc pm an cdv ct)
theorem fun_mk {x qual : Str} {st : Stmt} {f : Addr} {oc : Value} {od an : Option Addr} {osl : Array (Option Value)} {kV doc pm cdv ct : Value} (l : K.lookup f = some ⟨oc, od, .func (PySem.W.fnOf x qual (defArgs st) (defBody st) (defScope st) .none kV doc pm an cdv ct), osl⟩)
    (c : PySem.W.codeIn K cdv qual = true) (k : PySem.W.keepIn K (.ref f) = true) : Fun K x qual st f (PySem.W.fnOf x qual (defArgs st) (defBody st) (defScope st) .none kV doc pm an cdv ct) := ⟨⟨oc, od, kV, doc, pm, an, cdv, ct, osl, rfl, l, c⟩, k⟩
end
/-! ### expressions in short: the name that stands in the i-th slot -/
section
variable {X : Cx}
theorem pv (i : Nat) {x : Str} {pos : Pos} (hN : X.N[i]? = some x := by rfl) (hv : Vis X.env.scope x := by first | exact Or.inl rfl | exact Or.inr (Or.inl rfl) | exact Or.inr (Or.inr rfl)) (hd : (x == ("__debug__" : Str)) = false := by decide)
    (hcd : (x == ("__classdict__" : Str)) = false := by decide) : PE X (.Name x pos) (tVar i) := pe_var hN hv hd hcd
end

/-! ### tests -/
theorem iteF {A B : Prop} (h : B) : if false = true then A else B := by
  rw [if_neg Bool.false_ne_true]
  exact h
theorem iteT {A B : Prop} (h : A) : if true = true then A else B := by
  rw [if_pos rfl]
  exact h
theorem ite2 {c A B : Prop} [Decidable c] (h1 : c → A) (h2 : ¬ c → B) : if c then A else B := by
  by_cases h : c
  · rw [if_pos h]
    exact h1 h
  · rw [if_neg h]
    exact h2 h
/-! ### heaps -/
/-- all that was tracked is as it was -/
def Same (H H' : Hp) : Prop := ∀ b o, H b = some o → H' b = some o
theorem Same.refl (H : Hp) : Same H H := fun _ _ h => h
theorem Same.trans {H H1 H2 : Hp} (a : Same H H1) (b : Same H1 H2) : Same H H2 := fun c o h => b c o (a c o h)
theorem Same.free {H H' : Hp} (e : Same H H') {l : Addr} (h : H' l = Option.none) : H l = Option.none := by
  cases q : H l with
  | none => rfl
  | some o =>
    rw [e l o q] at h
    cases h
theorem Same.seq {K : PySem.W.Frag} {H H' : Hp} {a : Addr} {xs : List V} (e : Same H H') (h : SqL K H a xs) : SqL K H' a xs := by
  rcases h with (h | ⟨o, h⟩) | h
  · exact .inl (.inl (e _ _ h))
  · exact .inl (.inr ⟨o, e _ _ h⟩)
  · exact .inr h

/-! ### a dict's pairs: keys that differ -/
section
variable {κ : Type} [DecidableEq κ]
end
/-! ### lists -/
/-- a new instance and its __init__ leave all that was tracked as it was -/
theorem Same.made {H H1 : Hp} {x dx C : Addr} (nx : H x = Option.none) (nd : H dx = Option.none) (k : ∀ b o, (upd (upd H dx (.own x)) x (.ins C dx [])) b = some o → b ≠ x → H1 b = some o) : Same H H1 := fun b o e =>
  k b o (by rw [upd_ne (ne_of_none e nx), upd_ne (ne_of_none e nd)]; exact e) (ne_of_none e nx)
end L2

set_option Elab.async false
set_option linter.all false
set_option maxRecDepth 100000
namespace L2
open PySem PySem.Spec PyProof.Rows

end L2

set_option Elab.async false
set_option linter.all false
set_option maxRecDepth 100000
namespace L2
open PySem PySem.Spec PyProof.Rows
/-- how an exception of an own class lies behind a call -/
def CXE (P : Program) (w : World) : CXT := fun outer H s E e s' =>
  ∃ (x C : Addr) (a0 : Value) (B : Heap) (H' : Hp), e = .ref x ∧ s'.os = s.os ∧ (AllBare s'.gens ∧ GG s.gens s'.gens) ∧ Un (frs outer) [] H H' s.heap s'.heap ∧ HOk P w H' s'.heap ∧
    Heap.FlyingW B outer x (.ref C) a0 s'.heap ∧ (∀ b o, H' b = some o → ∃ ob, B.get? b = some ob) ∧
    (∀ b o, s.heap.get? b = some o → H b = none → b ∉ frs outer → B.get? b = some o) ∧ (∀ b o u, s.heap.get? b = some o → H b = some u → ∃ ob, B.get? b = some ob) ∧ s.heap.get? x = none ∧ E (.ref C) none H'
/-- what is tracked lies in B, so another heap over B holds it too -/
theorem HOk.over {P : Program} {w : World} {H : Hp} {h h' B : Heap} (x : HOk P w H h) (hb : ∀ b o, H b = some o → ∃ ob, B.get? b = some ob) (k : B.StaysIn h) (k' : B.StaysIn h') : HOk P w H h' := fun a o e => by
  refine (x a o e).stay (fun b u hb' q => ?_) (fun _ q => q) fun _ _ q => q
  have : ∃ ob, B.get? b = some ob := by
    rcases hb' with rfl | z
    · exact hb _ _ e
    · exact hb _ _ z
  obtain ⟨ob, eb⟩ := this
  have := k b ob eb
  rw [q] at this; cases this
  exact k' b _ eb
theorem ObjOk.there {P : Program} {w : World} {H : Hp} {h : Heap} {a : Addr} : ∀ {o : HO}, ObjOk P w H h a o → ∃ ob, h.get? a = some ob
  | .lst _, ⟨_, _, _, _, e⟩ => ⟨_, e⟩
  | .tup _, ⟨_, _, _, ob, e, _⟩ => ⟨ob, e⟩
  | .dK _, ⟨_, _, _, _, ob, _, _, e, _⟩ => ⟨ob, e⟩
  | .dT _, ⟨_, _, _, _, ob, _, _, e, _⟩ => ⟨ob, e⟩
  | .set _ _, ⟨ob, _, _, _, e, _⟩ => ⟨ob, e⟩
  | .ins _ _ _, ⟨_, _, _, e, _⟩ => ⟨_, e⟩
  | .own _, ⟨ob, e⟩ => ⟨ob, e⟩
  | .xd _, ⟨_, ⟨ob, _, _, e, _⟩, _⟩ => ⟨ob, e⟩
  | .rng _ _, ⟨_, _, _, e⟩ => ⟨_, e⟩
  | .frz _ _, ⟨e, _⟩ => ⟨_, e⟩
  | .tbl _, ⟨e, _⟩ => ⟨_, e⟩
  | .met _ _, e => ⟨_, e⟩
  | .ext _, ⟨_, e, _⟩ => e
theorem none_ahead {fs : List Addr} {H H1 : Hp} {h h1 : Heap} {x : Addr} (u : Un fs [] H H1 h h1) (n : h1.get? x = none) : h.get? x = none := by
  cases e : h.get? x with
  | none => rfl
  | some o =>
    obtain ⟨o1, e1⟩ := u.there x o e (by intro z; cases z)
    rw [n] at e1; cases e1
section
variable {P : Program} {w : World} {K : PySem.W.Frag} {mg : Str → Option Value} {base : Heap} {N : List Str} {qual : Str} {scope : Scope} {f : Addr} {cd : Value} {A : Around} {outer : List Env} {s : Shared} {H : Hp} {E : XK}
/-- a callee's exception passes on through this def -/
theorem passE : Passes (CXE P w) (cxOf (CXE P w) P w K mg base N qual scope f cd A outer s H E) E := by
  rintro pins σ H1 s1 e s' I ⟨x, C, a0, B, H', rfl, os, bare, un, hok, fl, hb, hk, hk2, hx, q⟩
  have hfr : (A.deeper (envOfC qual scope s.heap.objs.size f cd)).frames = some (envOfC qual scope s.heap.objs.size f cd :: outer) := I.ok.frames
  show wpAny (model P w) (A.deeper (envOfC qual scope s.heap.objs.size f cd)) (leaving (envOfC qual scope s.heap.objs.size f cd) (.ref x)) _ _ s'
  refine wpAny_leaves_onW hfr rfl fl fun h' fl' up => ?_
  have k0 := fl.1
  have k1 := fl'.1
  have hok' : HOk P w H' h' := hok.over hb k0 k1
  have ne_L : ∀ b o, s.heap.get? b = some o → b ≠ s.heap.objs.size := fun b o e => Nat.ne_of_lt (Heap.lt_size e)
  have inB : ∀ b o, s.heap.get? b = some o → H b = none → b ∉ frs outer → B.get? b = some o := fun b o e n hb' => by
    have e1 : s1.heap.get? b = some o := I.base.keep b o e n hb' (by intro z; cases z)
    have n1 : H1 b = none := I.base.free b o e n (by intro z; cases z)
    refine hk b o e1 n1 fun z => ?_
    rcases List.mem_cons.mp (I.stkSub b z) with z | z
    · exact ne_L b o e z
    · exact hb' z
  have inB2 : ∀ b o u, s.heap.get? b = some o → H b = some u → ∃ ob, B.get? b = some ob := fun b o u e eu => by
    obtain ⟨o1, e1⟩ := I.base.there b o e (by intro z; cases z)
    cases n1 : H1 b with
    | some u1 => exact hk2 b o1 u1 e1 n1
    | none =>
      refine ⟨o1, hk b o1 e1 n1 fun z => ?_⟩
      rcases List.mem_cons.mp (I.stkSub b z) with z | z
      · exact ne_L b o e z
      · have := I.ok.frf b z
        rw [show (cxOf (CXE P w) P w K mg base N qual scope f cd A outer s H E).H_0 = H from rfl, eu] at this
        cases this
  have U0 : Un (frs outer) [] H H1 s.heap s1.heap := I.base
  refine ⟨x, C, a0, B, H', rfl, os.trans I.os, ⟨bare.1, I.bare.2.trans bare.2⟩, ⟨fun b o e n hb' _ => k1 b o (inB b o e n hb'), fun b o e n hb' _ => ?_, fun b o e n _ => ?_, fun b o e _ => ?_, fun b xs e => un.tups b xs (U0.tups b xs e), fun b o u e => un.frzs b o u (U0.frzs b o u e), fun b ps e => ?_⟩, hok', fl', hb, inB, inB2, ?_, q⟩
  · obtain ⟨sl, e1⟩ := U0.slot b o e n hb' (by intro z; cases z)
    have n1 := U0.free b o e n (by intro z; cases z)
    obtain ⟨sl2, e2⟩ := un.any e1 n1 (by intro z; cases z)
    have hnf : ∀ vs, o.data ≠ .fields vs := by
      have fo : s.heap.FunFrames base outer := I.ok.funs
      obtain ⟨_, o', ho', hd'⟩ := fo.mem hb'
      rw [e] at ho'; cases ho'
      exact hd'
    obtain ⟨sl3, e3⟩ := up b _ e2 hnf
    exact ⟨sl3, e3⟩
  · obtain ⟨o1, e1⟩ := U0.there b o e (by intro z; cases z)
    exact un.free b o1 e1 (U0.free b o e n (by intro z; cases z)) (by intro z; cases z)
  · cases n : H b with
    | none =>
      by_cases hb' : b ∈ frs outer
      · obtain ⟨sl, e1⟩ := U0.slot b o e n hb' (by intro z; cases z)
        have n1 := U0.free b o e n (by intro z; cases z)
        obtain ⟨sl2, e2⟩ := un.any e1 n1 (by intro z; cases z)
        have hnf : ∀ vs, o.data ≠ .fields vs := by
          have fo : s.heap.FunFrames base outer := I.ok.funs
          obtain ⟨_, o', ho', hd'⟩ := fo.mem hb'
          rw [e] at ho'; cases ho'
          exact hd'
        obtain ⟨sl3, e3⟩ := up b _ e2 hnf
        exact ⟨_, e3⟩
      · exact ⟨o, k1 b o (inB b o e n hb')⟩
    | some u =>
      obtain ⟨ob, eb⟩ := inB2 b o u e n
      exact ⟨ob, k1 b ob eb⟩
  · obtain ⟨m1, e1, c1⟩ := U0.tbls b ps e
    obtain ⟨m2, e2, c2⟩ := un.tbls b _ e1
    exact ⟨m1 ++ m2, by rw [e2, Array.append_assoc], (c1.mono un.frzs).app c2⟩
  · exact none_ahead U0 hx
/-- a made exception leaves this def -/
theorem raiseE {pins : List (Addr × Obj)} {σ : St} {H1 : Hp} {s1 : Shared} {h' : Heap} {e C : Addr} {vs : List Value} (I : Inv (cxOf (CXE P w) P w K mg base N qual scope f cd A outer s H E) pins σ H1 s1) (hx : Heap.MadeExcOf s1.heap h' e (.ref C) vs) (q : E (.ref C) none H1) :
    (cxOf (CXE P w) P w K mg base N qual scope f cd A outer s H E).xe (.ref e) { s1 with heap := h' } := by
  have hfr : (A.deeper (envOfC qual scope s.heap.objs.size f cd)).frames = some (envOfC qual scope s.heap.objs.size f cd :: outer) := I.ok.frames
  have st : s1.heap.FunFrames base (envOfC qual scope s.heap.objs.size f cd :: outer) := I.stack
  have hin : ∀ env ∈ (envOfC qual scope s.heap.objs.size f cd :: outer), ∀ b, env.frame = some b → b ∈ (envOfC qual scope s.heap.objs.size f cd :: outer).filterMap (·.frame) := fun env he b hb => List.mem_filterMap.mpr ⟨env, he, hb⟩
  show wpAny (model P w) (A.deeper (envOfC qual scope s.heap.objs.size f cd)) (leaving (envOfC qual scope s.heap.objs.size f cd) (.ref e)) _ _ { s1 with heap := h' }
  refine wpAny_leaves_madeW (base := PySem.W.hideAll s1.heap ((envOfC qual scope s.heap.objs.size f cd :: outer).filterMap (·.frame))) hfr rfl (fun b o z => PySem.W.of_hideAll _ z) (PySem.W.funFrames_hide st hin) hx fun h2 t fl _ ht up => ?_
  have k1 := fl.1
  have notfr : ∀ b, (∃ u, H1 b = some u) → b ∉ frs (envOfC qual scope s.heap.objs.size f cd :: outer) := fun b ⟨u, eu⟩ z => by
    have := I.stkFree b z
    rw [eu] at this; cases this
  have hb : ∀ b o, H1 b = some o → ∃ ob, (PySem.W.hideAll s1.heap ((envOfC qual scope s.heap.objs.size f cd :: outer).filterMap (·.frame))).get? b = some ob := fun b o eo => by
    have h1 := (I.hok b o eo).lt
    obtain ⟨ob, eb⟩ : ∃ ob, s1.heap.get? b = some ob := (I.hok b o eo).there
    exact ⟨ob, PySem.W.hideAll_get _ eb (notfr b ⟨o, eo⟩)⟩
  have ne_L : ∀ b o, s.heap.get? b = some o → b ≠ s.heap.objs.size := fun b o e => Nat.ne_of_lt (Heap.lt_size e)
  have U0 : Un (frs outer) [] H H1 s.heap s1.heap := I.base
  have inB : ∀ b o, s.heap.get? b = some o → H b = none → b ∉ frs outer → (PySem.W.hideAll s1.heap ((envOfC qual scope s.heap.objs.size f cd :: outer).filterMap (·.frame))).get? b = some o := fun b o e n hb' => by
    have e1 : s1.heap.get? b = some o := U0.keep b o e n hb' (by intro z; cases z)
    refine PySem.W.hideAll_get _ e1 fun z => ?_
    rcases List.mem_cons.mp (I.stkSub b z) with z | z
    · exact ne_L b o e z
    · exact hb' z
  have inB2 : ∀ b o u, s.heap.get? b = some o → H b = some u → ∃ ob, (PySem.W.hideAll s1.heap ((envOfC qual scope s.heap.objs.size f cd :: outer).filterMap (·.frame))).get? b = some ob := fun b o u e eu => by
    obtain ⟨o1, e1⟩ := U0.there b o e (by intro z; cases z)
    refine ⟨o1, PySem.W.hideAll_get _ e1 fun z => ?_⟩
    rcases List.mem_cons.mp (I.stkSub b z) with z | z
    · exact ne_L b o e z
    · have := I.ok.frf b z
      rw [show (cxOf (CXE P w) P w K mg base N qual scope f cd A outer s H E).H_0 = H from rfl, eu] at this
      cases this
  have frd : ∀ b o, s.heap.get? b = some o → b ∈ frs outer → ∀ vs, o.data ≠ .fields vs := fun b o e hb' => by
    have fo : s.heap.FunFrames base outer := I.ok.funs
    obtain ⟨_, o', ho', hd'⟩ := fo.mem hb'
    rw [e] at ho'; cases ho'
    exact hd'
  have sl : ∀ b o, s.heap.get? b = some o → H b = none → b ∈ frs outer → ∃ sl, h2.get? b = some { o with slots := sl } := fun b o e n hb' => by
    obtain ⟨sl, e1⟩ := U0.slot b o e n hb' (by intro z; cases z)
    obtain ⟨sl3, e3⟩ := up b _ (hx.keeps _ _ e1) (frd b o e hb')
    exact ⟨sl3, e3⟩
  refine ⟨e, C, _, _, H1, rfl, I.os, I.bare, ⟨fun b o e n hb' _ => k1 b o (inB b o e n hb'), fun b o e n hb' _ => sl b o e n hb', U0.free, fun b o e _ => ?_, U0.tups, U0.frzs, U0.tbls⟩, I.hok.over hb (fun b o z => PySem.W.of_hideAll _ z) k1, fl, hb, inB, inB2, ?_, q⟩
  · cases n : H b with
    | none =>
      by_cases hb' : b ∈ frs outer
      · obtain ⟨sl, e3⟩ := sl b o e n hb'
        exact ⟨_, e3⟩
      · exact ⟨o, k1 b o (inB b o e n hb')⟩
    | some u =>
      obtain ⟨ob, eb⟩ := inB2 b o u e n
      exact ⟨ob, k1 b ob eb⟩
  · exact none_ahead U0 hx.new
end
/-- the object of an own exception class whose built-in base is VE's -/
abbrev veM : List Value := [.type "ValueError", .type "Exception", .type "BaseException", .type "object"]
theorem exc_obj {K : PySem.W.Frag} {h : Heap} {C : Addr} {bmB : List Value} {newId : String} (X : K.In h) (q : PySem.W.excIn K C bmB newId = true) :
    ∃ bm N nm q bs hdct sn sub ab col dd k0 k1 k2 k3 k5 mN, h.get? C = some (excClassObj nm q C N bs bm hdct sn sub ab col dd k0 k1 k2 k3 k5 newId) ∧ h.Ns N mN ∧ mN "__init__" = none ∧ OwnTail h bmB bm := by
  unfold PySem.W.excIn at q
  split at q
  · rename_i dd cd sl ho
    split at q
    · rename_i C' bm k0 k1 k2 k3 n k5 hm hs
      simp only [Bool.and_eq_true, beq_iff_eq, Bool.not_eq_true'] at q
      have hC : C' = C := q.1.1.1.1.1
      have hn : n = newId := q.1.1.1.1.2
      have hdel := q.1.1.1.2
      have ht := q.1.1.2
      have hok := q.1.2
      have hni := q.2
      subst hC; subst hn
      cases cd with
      | mk nm bs mro ns qn hd sn sub ab col del =>
        dsimp only at hm hdel hok hni
        subst hm; subst hdel
        cases sl with
        | mk l =>
          dsimp only at hs
          subst hs
          exact ⟨bm, ns, nm, qn, bs, hd, sn, sub, ab, col, dd, k0, k1, k2, k3, k5, _, X _ _ ho, .of_isNs (PySem.W.isNs_of_in X hok), PySem.W.nsMap_none_of_in X hok hni, PySem.W.tail_of_in X ht⟩
    · cases q
  · cases q
section
variable {P : Program} {w : World} {K : PySem.W.Frag} {mg : Str → Option Value} {base : Heap} {N : List Str} {qual : Str} {scope : Scope} {f : Addr} {cd : Value} {A : Around} {outer : List Env} {s : Shared} {H : Hp} {E : XK}
/-- raise C(..), C an own class under ValueError without __init__ -/
def tRaise (E : XK) (C : Addr) (t : TA) : TS := fun _ σ H1 => t σ H1 fun vs H2 => vs.length ≤ sizeLine ∧ E (.ref C) none H2
theorem ps_raise {x : Str} {C : Addr} {e₀ : Expr} {rest : List Expr} {t : TA} {np cpos pos : Pos} (hg : Gl (cxOf (CXE P w) P w K mg base N qual scope f cd A outer s H E) x) (hm : mg x = some (.ref C)) (hq : PySem.W.excIn K C veM "ValueError.__new__" = true)
    (ha : PA (cxOf (CXE P w) P w K mg base N qual scope f cd A outer s H E) (e₀ :: rest) t) (hd : (x == ("__debug__" : Str)) = false := by decide)
    (he : starEach (e₀ :: rest) (cxOf (CXE P w) P w K mg base N qual scope f cd A outer s H E).env = (false, eval e₀ (cxOf (CXE P w) P w K mg base N qual scope f cd A outer s H E).env) :: starEach rest (cxOf (CXE P w) P w K mg base N qual scope f cd A outer s H E).env := by rfl)
    (hp : (backTo cpos (starEach rest (cxOf (CXE P w) P w K mg base N qual scope f cd A outer s H E).env)).any (·.1) = false := by rfl) :
    PS (cxOf (CXE P w) P w K mg base N qual scope f cd A outer s H E) (.Raise (some (.Call (.Name x np) (e₀ :: rest) [] cpos)) none pos) (tRaise E C t) := by
  intro pins s1 σ H1 D I h
  obtain ⟨bm, NN, nm, qn, bs, hdct, sn, sub, ab, col, dd, k0, k1, k2, k3, k5, mN, hC, hN, hni, T⟩ := exc_obj I.mod.kin hq
  have hhd : (cxOf (CXE P w) P w K mg base N qual scope f cd A outer s H E).A.handled = none := I.ok.hd rfl
  refine wpAny_Raise_call_subT (C := C) (nm := nm) (q := qn) (N := NN) (bs := bs) (bm := bm) (hdct := hdct) (sn := sn) (sub := sub) (ab := ab) (col := col) (dd := dd) (k0 := k0) (k1 := k1) (k2 := k2) (k3 := k3) (k5 := k5)
    PySem.F.excBase_ValueError (mN := mN) (T.hasType rfl) hhd (by rw [he]; show (false || (backTo cpos (starEach rest _)).any (·.1)) = false; rw [hp]; rfl) hni (ld_glob I hg hm ⟨rfl, ?_⟩ hd)
  rw [he]
  refine Calls.evalArgs_plain ?_
  have ha' := ha cpos pins s1 σ H1 _ I h
  rw [he] at ha'
  refine wpAny_mono ha' (fun us s2 ⟨vs, H2, I2, r, hl, q⟩ => ⟨rfl, by rw [← r.length]; exact hl, I2.bk _ _ hC, hN.keeps I2.bk, T.keeps I2.bk, fun h' e hx => raiseE I2 hx q⟩) fun _ _ z => z
end
end L2

set_option Elab.async false
set_option linter.all false
set_option maxRecDepth 100000
namespace L2
open PySem PySem.Spec PyProof.Rows
/-- a def that may raise, by its body -/
theorem Fun.okE {P : Program} {w : World} {K : PySem.W.Frag} {mg : Str → Option Value} {base : Heap} {x qual : Str} {st : Stmt} {f : Addr} {fd : FuncData} {N ps : List Str} {k : Nat} {sp : Sp} (F : Fun K x qual st f fd) (S : FnScope N ps (defScope st)) (len : ∀ vs H Q E, sp vs H Q E → vs.length = ps.length)
    (hbody : ∀ (cdv : Value) (A : Around) (outer : List Env) (s : Shared) (H : Hp) (vs : List V) (Q : VK) (E : XK), Room k (A.deeper (envOfC qual (defScope st) s.heap.objs.size f cdv)) → sp vs H Q E →
      ∃ t, PSs (cxOf (CXE P w) P w K mg base N qual (defScope st) f cdv A outer s H E) (defBody st) t ∧ t { nx := fun _ H' => Q .non H', rt := Q } (start N vs) H) : FnOk P w K mg base (CXE P w) (k + 1) f fd ps sp := by
  obtain ⟨oc, od, kV, doc, pm, an, cdv, ct, osl, rfl, lk, hcd⟩ := F.ex
  exact fn_of lk hcd S len fun A outer s H vs Q E hr hsp => hbody cdv A outer s H vs Q E hr hsp

/-- the untracked and the tracked stay over B -/
theorem Un.over {fs : List Addr} {H H' : Hp} {h h1 h2 B : Heap} (un : Un fs [] H H' h h1) (hb : ∀ b o, H' b = some o → ∃ ob, B.get? b = some ob) (hk : ∀ b o, h.get? b = some o → H b = none → b ∉ fs → B.get? b = some o)
    (hk2 : ∀ b o u, h.get? b = some o → H b = some u → ∃ ob, B.get? b = some ob) (frd : ∀ b o, h.get? b = some o → b ∈ fs → ∀ vs, o.data ≠ .fields vs) (k2 : B.StaysIn h2) (up : h1.UpToSlots h2) : Un fs [] H H' h h2 := by
  have sl : ∀ b o, h.get? b = some o → H b = none → b ∈ fs → ∃ sl, h2.get? b = some { o with slots := sl } := fun b o e n hb' => by
    obtain ⟨sl, e1⟩ := un.slot b o e n hb' (by intro z; cases z)
    obtain ⟨sl3, e3⟩ := up b _ e1 (frd b o e hb')
    exact ⟨sl3, e3⟩
  refine ⟨fun b o e n hb' _ => k2 b o (hk b o e n hb'), fun b o e n hb' _ => sl b o e n hb', un.free, fun b o e _ => ?_, un.tups, un.frzs, un.tbls⟩
  cases n : H b with
  | none =>
    by_cases hb' : b ∈ fs
    · obtain ⟨sl, e3⟩ := sl b o e n hb'
      exact ⟨_, e3⟩
    · exact ⟨o, k2 b o (hk b o e n hb')⟩
  | some u =>
    obtain ⟨ob, eb⟩ := hk2 b o u e n
    exact ⟨ob, k2 b ob eb⟩
/-- an exception object of the class at C stands at x -/
def ExcO (x C : Addr) : HO := .ext fun h => ∃ o vs, h.get? x = some o ∧ o.cls = .ref C ∧ o.data = .fields vs
section
variable {X : Cx} {pins : List (Addr × Obj)} {σ : St} {H : Hp} {s : Shared}
/-- the context of an except suite -/
abbrev Cx.hand (X : Cx) (x : Addr) (pl : List (Addr × Obj)) : Cx := { X with A := X.A.mark (some (.ref x)), calm := false, xe := fun _ _ => False, pn := pl }
theorem Inv.hand (I : Inv X pins σ H s) (x : Addr) : Inv (X.hand x (X.pn ++ pins)) [] σ H s :=
  ⟨⟨I.ok.mod, I.ok.kind, I.ok.glob, I.ok.blt, I.ok.above, I.ok.inj, I.ok.has, I.ok.cab, (fun z => by cases z), I.ok.frames, I.ok.stk, I.ok.exf, I.ok.bs, I.ok.bsz, I.ok.noex, I.ok.exfs, I.ok.funs, I.ok.frf, I.ok.tb⟩, I.os, I.bare, I.base, I.loc, I.cell, I.free, I.freeC,
    fun p hp => I.pin p (by simpa using hp), I.hok, I.len⟩
/-- a class of exceptions of the text: caught by the class at D -/
structure Catches (K : PySem.W.Frag) (C D : Addr) : Prop where
  exc : PySem.W.subIn K (.ref D) (.type "BaseException") = some true
  cls : PySem.W.kitCls K (.ref C) (.ref D) = some true
end
end L2

set_option Elab.async false
set_option linter.all false
set_option maxRecDepth 100000
namespace L2
open PySem PySem.Spec PyProof.Rows
section
variable {X : Cx} {pins : List (Addr × Obj)} {σ : St} {H : Hp} {s : Shared}
end
section
variable {X : Cx}
def offs (i : Nat) (D : Ends) : Ends := { nx := fun σ H => D.nx (σ.set i none) H, rt := D.rt, bk := fun σ H => D.bk (σ.set i none) H, ct := fun σ H => D.ct (σ.set i none) H }
end
end L2

set_option Elab.async false
set_option linter.all false
set_option maxRecDepth 100000
namespace L2
open PySem PySem.Spec PyProof.Rows
/-- room for a call, an exception may be at hand -/
structure RoomQ (k : Nat) (A : Around) : Prop where
  dp : A.depth + 3 * k + 5 < recursionLimit
  un : A.units + 16 * k + 200 < cLine
theorem Room.q {k : Nat} {A : Around} (r : Room k A) : RoomQ k A := ⟨r.dp, r.un⟩
theorem RoomQ.mono {j k : Nat} {A : Around} (r : RoomQ k A) (h : j ≤ k) : RoomQ j A := ⟨by have := r.dp; omega, by have := r.un; omega⟩
theorem RoomQ.deeper {k : Nat} {A : Around} (r : RoomQ (k + 1) A) (env : Env) : RoomQ k (A.deeper env) :=
  ⟨by have := r.dp; show A.depth + 1 + 3 * k + 5 < _; omega, by have := r.un; show A.units + 3 + 16 * k + 200 < _; omega⟩
theorem RoomQ.mark {k : Nat} {A : Around} (r : RoomQ k A) (v : Option Value) : RoomQ k (A.mark v) := ⟨r.dp, r.un⟩
theorem RoomQ.units {k : Nat} {A : Around} (r : RoomQ k A) : A.units + 64 < cLine := by have := r.un; omega
theorem RoomQ.depth {k : Nat} {A : Around} (r : RoomQ k A) : A.depth < recursionLimit := by have := r.dp; omega
/-- a def that keeps its promise within an except suite, too; it raises nothing -/
structure FnOkQ (P : Program) (w : World) (K : PySem.W.Frag) (mg : Str → Option Value) (base : Heap) (k : Nat) (f : Addr) (fd : FuncData) (ps : List Str) (sp : Sp) : Prop where
  len : ∀ vs H Q E, sp vs H Q E → vs.length = ps.length
  run : ∀ (A : Around) (outer : List Env) (s : Shared) (H : Hp) (args : Args) (us : List Value) (vs : List V) (Q : VK) (E : XK), RoomQ k A → Env0 P w K mg base A outer s H → BindsTo s fd args (ps.zip us) → Vals vs us → sp vs H Q E →
    codeAny (model P w) A (.call (.ref f) args) (CR CX0 outer P w H s Q E) s
theorem FnOkQ.ok {P : Program} {w : World} {K : PySem.W.Frag} {mg : Str → Option Value} {base : Heap} {k : Nat} {f : Addr} {fd : FuncData} {ps : List Str} {sp : Sp} (F : FnOkQ P w K mg base k f fd ps sp) : FnOk P w K mg base CX0 k f fd ps sp :=
  ⟨F.len, fun A outer s H args us vs Q E hr => F.run A outer s H args us vs Q E hr.q⟩
section
variable {X : Cx} {k : Nat} {f : Addr} {fd : FuncData} {ps : List Str} {sp : Sp} {x : Str} {p pos : Pos} {e : Expr} {es : List Expr} {t : TA}
end
/-- what of the text a class of exceptions must have, so that __class__ of its objects is read -/
structure ExcC (K : PySem.W.Frag) (C : Addr) : Prop where
  ga : PySem.W.findIn K (.ref C) "__getattribute__" = some (some (.builtin "BaseException.__getattribute__"))
  gn : PySem.W.findIn K (.ref C) "__getattr__" = some none
  gc : PySem.W.findIn K (.ref C) "__class__" = some (some (.builtin "object.__class__"))
  hb : PySem.W.mroIn K C (.type "BaseException") = some true
  ho : PySem.W.mroIn K C (.type "object") = some true
section
variable {prog : Program} {w : World} {A : Around} {E : Value → Shared → Prop} {K : PySem.W.Frag} {a C : Addr} {o : Obj} {h : Heap} {g : Array GenState} {d : Drawn} {t : Nat} {os : OsState}
theorem excc_get {R : Result → Shared → Prop} (X : K.In h) (F : ExcC K C) (hx : h.get? a = some o) (hc : o.cls = .ref C) (hq : R (.ok (.ret (.ref C))) ⟨h, g, d, t, os⟩) :
    codeAny (model prog w) A (.call (.builtin "getset_descriptor.__get__") ⟨[.builtin "object.__class__", .ref a, .ref C], []⟩) R ⟨h, g, d, t, os⟩ := by
  have hT5 : (⟨h, g, d, t, os⟩ : Shared).TypeIs (.builtin "object.__class__") "getset_descriptor" := PySem.F.typeOf_object_class
  have Lo : PySem.W.Looks (model prog w) h (isSubtype (.ref C) (.type (".".intercalate ("object.__class__".cutAt '.').dropLast))) true := by
    rw [PySem.F.owner_object_class]; exact PySem.W.looks_mroIn X F.ho
  refine codeAny_call_builtin PySem.F.slot_gs_get.plain PySem.F.entry_gs_get (PySem.F.slot_gs_get.check _ _ _ _ _ _ _ _ hT5 (PySem.F.args_gs_get _ _ _) ?_)
  repeat (any_goals (first | assumption | (with_reducible refine wpAny_loadPart_at hx ?_; rw [hc]) | with_reducible refine Lo.at ?_ | wp_step))
  refine ⟨Code.quiet_builtin _ (by decide +kernel), codeAny_builtin PySem.F.entry_object_class ?_⟩
  repeat (any_goals (first | assumption | (with_reducible refine wpAny_loadPart_at hx ?_; rw [hc]) | wp_step))
theorem excc_entry {tk : Tok} {Q : Fin → Shared → Prop} (X : K.In h) (F : ExcC K C) (hx : h.get? a = some o) (hc : o.cls = .ref C) (hq : Q (.done (.ret (.ref C))) ⟨h, g, d, t, os⟩) :
    wpAny (model prog w) A (Builtin.«object.__getattribute__» ⟨[.ref a, .str "__class__" tk], []⟩) Q E ⟨h, g, d, t, os⟩ := by
  have hT5 : (⟨h, g, d, t, os⟩ : Shared).TypeIs (.builtin "object.__class__") "getset_descriptor" := PySem.F.typeOf_object_class
  have f5 := PySem.F.typeOf_object_class
  have f6 := PySem.F.slot_gs_get.lookup
  have f7 := PySem.F.slot_gs_set.lookup
  have L1 := PySem.W.looks_findIn (M := model prog w) X F.gc
  repeat (any_goals (first | assumption | (with_reducible refine wpAny_loadPart_at hx ?_; rw [hc]) | with_reducible refine L1.at ?_ | wp_step))
  refine excc_get X F hx hc ?_
  repeat (any_goals (first | assumption | wp_step))
theorem excc_check {M : Model} {nameV : Value} {Q : Unit → Shared → Prop} (X : K.In h) (F : ExcC K C) (hx : h.get? a = some o) (hc : o.cls = .ref C) (hq : Q () ⟨h, g, d, t, os⟩) :
    wpAny M A (checkBuiltinCall "BaseException.__getattribute__" ⟨[.ref a, nameV], []⟩) Q E ⟨h, g, d, t, os⟩ := by
  have hk : builtinKind "BaseException.__getattribute__" = some .slot := by decide +kernel
  have hsplit : splitId "BaseException.__getattribute__" = some ("BaseException", "__getattribute__") := by decide +kernel
  have Lb := PySem.W.looks_mroIn (M := M) X F.hb
  have ha := PySem.F.args_bexc_ga (.ref a) nameV
  simp only [checkBuiltinCall, hk, hsplit]
  refine wpAny_bind ?_
  · unfold isInstance
    repeat (first | (with_reducible refine wpAny_loadPart_at hx ?_; rw [hc]) | with_reducible refine Lb.at ?_ | wp_step)
    exact hq
theorem excc_by {tk : Tok} {fill expr : Bool} {Q : Value → Shared → Prop} (X : K.In h) (F : ExcC K C) (hx : h.get? a = some o) (hc : o.cls = .ref C) (hq : Q (.ref C) ⟨h, g, d, t, os⟩) :
    wpAny (model prog w) A (getAttrBy (.ref a) (.str "__class__" tk) fill expr) Q E ⟨h, g, d, t, os⟩ := by
  have f3 := (PySem.F.attrBase_ValueError).ga.bind (.ref a)
  have hx0 : (expr && onTheHeap (Value.builtin "BaseException.__getattribute__")) = false := by cases expr <;> rfl
  have hx2 : (Value.builtin "BaseException.__getattribute__" == Value.builtin "object.__getattribute__") = false := by decide +kernel
  have hx1 : (onTheHeap (Value.ref C) && Value.builtin "BaseException.__getattribute__" == Value.builtin "object.__getattribute__") = false := by rw [hx2]; rfl
  have L1 := PySem.W.looks_findIn (M := model prog w) X F.ga
  have L2 := PySem.W.looks_findIn (M := model prog w) X F.gn
  repeat (any_goals (first | assumption | (with_reducible refine wpAny_loadPart_at hx ?_; rw [hc]) | with_reducible refine L1.at ?_ | with_reducible refine L2.at ?_ | wp_step))
  refine codeAny_call_builtin (PySem.F.attrBase_ValueError).ga.plain PySem.F.entry_bexc_ga (excc_check X F hx hc (excc_entry X F hx hc ?_))
  repeat (any_goals (first | assumption | wp_step))
theorem excc_attr {Q : Option Value → Shared → Prop} (X : K.In h) (F : ExcC K C) (hx : h.get? a = some o) (hc : o.cls = .ref C) (hq : Q (some (.ref C)) ⟨h, g, d, t + 1, os⟩) :
    wpAny (model prog w) A (getAttr? (.ref a) "__class__") Q E ⟨h, g, d, t, os⟩ := by
  unfold getAttr? getAttrBy?
  repeat (any_goals (first | assumption | with_reducible apply excc_by X F hx hc | wp_step))
end
/-! ### isinstance -/
theorem kitx_exc {K : PySem.W.Frag} {a C : Addr} (F : ExcC K C) : PySem.W.KitX K (.ref a) (.ref C) (fun h => ∃ o vs, h.get? a = some o ∧ o.cls = .ref C ∧ o.data = .fields vs) where
  ty := fun _ _ _ ⟨o, _, h1, h2, _⟩ => h2 ▸ (PySem.W.Looks.ld h1).andThen .now
  it := fun _ _ X _ => by
    obtain ⟨cd, hc, _⟩ := Option.bind_eq_some_iff.mp (show (PySem.W.clsIn K C).bind _ = some true from F.ho)
    unfold PySem.W.clsIn at hc
    split at hc
    · rename_i c' d' cd' sl' ho
      intro A' Q' E' s' k q
      unfold isType loadHead
      exact wpAny_bind (wpAny_loadPart (k _ _ (X _ _ ho)) (wpAny_pure q))
    · cases hc
  ne := fun h tp dd its n sl X htp => by
    obtain ⟨cd, hc, _⟩ := Option.bind_eq_some_iff.mp (show (PySem.W.clsIn K C).bind _ = some true from F.ho)
    refine Bool.eq_false_iff.mpr fun q => ?_
    have e : C = tp := Value.ref.inj (beq_iff_eq.mp q)
    subst e
    unfold PySem.W.clsIn at hc
    split at hc
    · rename_i c' d' cd' sl' ho
      have z := (X _ _ ho).symm.trans htp
      cases z
    · cases hc
  ca := fun {_ _ _ _ _ s} X ⟨o, _, h1, h2, _⟩ k => by
    obtain ⟨hh, g, d, t, os⟩ := s
    exact excc_attr X F h1 h2 k
/-- the kind of a value; of an exception its class -/
inductive TyE (K : PySem.W.Frag) (H : Hp) : V → Value → Prop where
  | of {x : V} {t : Value} (h : TyOf K H x t) : TyE K H x t
  | exc {a C : Addr} (e : H a = some (ExcO a C)) (F : ExcC K C) : TyE K H (.ref a) (.ref C)
  | sqT {a : Addr} {xs : List V} (e : SqT K H a xs) : TyE K H (.ref a) (.type "tuple")
  | sqL {a : Addr} {xs : List V} (e : SqL K H a xs) : TyE K H (.ref a) (.type "list")
  | frD {a : Addr} {o : Obj} {kvs : List (Key × V)} (e : H a = some (.frz o (.dK kvs))) : TyE K H (.ref a) (.type "dict")
def clsV : V → Option Value
  | .ref C => some (.ref C)
  | .ty T => some (.type T)
  | _ => none
/-- isinstance(x, c), c one class: a built-in one or an own one -/
def rIsi (K : PySem.W.Frag) : List V → Hp → VK → Prop := fun xs H Q => ∃ x c t cv b, xs = [x, c] ∧ TyE K H x t ∧ clsV c = some cv ∧ PySem.W.kitOne K t cv = some b ∧ Q (.bl b) H
theorem call_isi {X : Cx} : CallR X (.builtin "isinstance") (rIsi X.K) := by
  intro pins s σ H xs us Q I r h
  obtain ⟨x, c, t, cv, b, rfl, ty, rc, e, q⟩ := h
  obtain ⟨u, v, rfl, ru, rv⟩ := vals2 r
  have ev : v = cv := by
    cases c with
    | ref y => cases (show v = _ from rv); cases rc; rfl
    | ty y => cases (show v = _ from rv); cases rc; rfl
    | _ => cases rc
  subst ev
  cases ty with
  | of ty => exact isinst_ok I ru ty e fun tk => ⟨.bl b, H, I.tok tk, rfl, q⟩
  | @exc a C ea F =>
    cases (show u = Value.ref a from ru)
    obtain ⟨p, _, _⟩ := (show ObjOk X.prog X.w H s.heap a (ExcO a C) from I.hok a _ ea)
    exact PySem.W.kia_one (kitx_exc F) I.kIn p e (fun z => nomatch z) fun tk => ⟨.bl b, H, I.tok tk, rfl, q⟩
  | @sqT a xs ea =>
    cases (show u = Value.ref a from ru)
    obtain ⟨its, rv, ⟨o, ho, hc, _⟩, _⟩ := I.tuple ea
    exact PySem.W.kia_one PySem.W.kitx_tuple I.kIn ⟨o, ho, hc⟩ e (fun z => nomatch z) fun tk => ⟨.bl b, H, I.tok tk, rfl, q⟩
  | @sqL a xs ea =>
    cases (show u = Value.ref a from ru)
    obtain ⟨its, rv, ⟨o, n, ho, hc, _, _⟩, _⟩ := I.list ea
    exact PySem.W.kia_one PySem.W.kitx_list I.kIn ⟨o, ho, hc⟩ e (fun z => nomatch z) fun tk => ⟨.bl b, H, I.tok tk, rfl, q⟩
  | @frD a ob kvs ea =>
    cases (show u = Value.ref a from ru)
    obtain ⟨_, _, _, vs, _, p⟩ := (show ObjOk X.prog X.w H s.heap a (.frz ob (.dK kvs)) from I.hok a _ ea)
    obtain ⟨o, es, ep, h1, h2, _⟩ := p
    exact PySem.W.kia_one PySem.W.kitx_dict I.kIn ⟨o, h1, h2.1⟩ e (fun z => nomatch z) fun tk => ⟨.bl b, H, I.tok tk, rfl, q⟩
end L2

set_option Elab.async false
set_option linter.all false
set_option maxRecDepth 100000
namespace L2
open PySem PySem.Spec PyProof.Rows
/-! ### unpacking a list -/
section
variable {prog : Program} {w : World} {A : Around} {E : Value → Shared → Prop}
theorem draw_lst {it l : Addr} {items : Array Value} (hne : l ≠ it) : ∀ (n i : Nat) (s : Shared) (Q : List Value → Shared → Prop), s.heap.IsListIter it l i → s.heap.IsList l items → i + n ≤ items.size →
    (∀ h', h'.IsListIter it l (i + n) → Heap.SameBut it s.heap h' → Q ((items.toList.drop i).take n) { s with heap := h' }) → wpAny (model prog w) A (draw (.ref it) n) Q E s
  | 0, i, s, Q, hit, _, _, hQ => wpAny_pure (by simpa using hQ s.heap hit (Heap.SameBut.refl ..))
  | n + 1, i, s, Q, hit, ht, hle, hQ => by
    have hlt : i < items.size := by omega
    show wpAny _ _ (pyNext (.ref it) >>= _) Q E s
    refine wpAny_bind (wpAny_pyNext_list_item hit ht (x := items[i]) (by simp [hlt]) fun h1 i1 s1 => ?_)
    have l1 : h1.IsList l items := by
      obtain ⟨o, a, b⟩ := ht
      exact ⟨o, (s1.2 l hne).trans a, b⟩
    refine wpAny_bind (wpAny_holding (draw_lst hne n (i + 1) _ _ i1 l1 (by omega) fun h2 i2 s2 => wpAny_pure ?_))
    have q := hQ h2 (by rw [show i + (n + 1) = i + 1 + n by omega]; exact i2) (s1.trans s2)
    rw [show items.toList.drop i = items[i] :: items.toList.drop (i + 1) by simp [List.drop_eq_getElem_cons, hlt], List.take_succ_cons] at q
    exact q
theorem unpack_lst {s : Shared} {l : Addr} {items : Array Value} {Q : List Value → Shared → Prop} (hh : A.handled = none) (ht : s.heap.IsList l items)
    (hQ : ∀ h', Heap.ExtBut s.heap.objs.size s.heap h' → Q items.toList { s with heap := h' }) : wpAny (model prog w) A (unpackItems (.ref l) items.size none) Q E s := by
  have hlt : l ≠ s.heap.objs.size := by obtain ⟨o, ho, _⟩ := ht; exact Nat.ne_of_lt (Heap.lt_size ho)
  unfold unpackItems
  refine wpAny_bind ?_
  unfold notIterableAtAll
  refine wpAny_bind (wpAny_specialOf ht.typeIs slot_list_iter.lookup ?_)
  refine wpAny_pure ?_
  simp only [Bool.false_eq_true, if_false]
  refine wpAny_bind (wpAny_holding (wpAny_pyIter_list ht ?_))
  have l0 : (s.heap.push { cls := .type "list_iterator", data := .fields #[.ref l, .int 0 0] }).IsList l items := by
    obtain ⟨o, a, b⟩ := ht
    exact ⟨o, Heap.get?_push_of_some _ a, b⟩
  refine wpAny_bind (wpAny_holding (draw_lst (items := items) hlt items.size 0 _ _ ⟨_, Heap.get?_push_size _ rfl, rfl, rfl⟩ l0 (by omega) fun h1 i1 s1 => ?_))
  have hall : List.take items.size (List.drop 0 items.toList) = items.toList := by
    rw [List.drop_zero]; exact List.take_of_length_le (by simp)
  rw [hall, if_neg (by simp)]
  have l1 : h1.IsList l items := by
    obtain ⟨o, a, b⟩ := l0
    exact ⟨o, (s1.2 l hlt).trans a, b⟩
  refine wpAny_bind (wpAny_holding (wpAny_pyNext_list_end hh i1 l1 (by simp) fun h2 e2 => ?_))
  simp only [Option.isSome_none, Bool.false_eq_true, if_false]
  exact wpAny_pure (hQ h2 fun b o hb e => e2 b o hb ((s1.2 b hb).trans (Heap.get?_push_of_some _ e)))
end
section
variable {X : Cx}
/-- a, b, .. = a list -/
def gLst (K : PySem.W.Frag) (n : Nat) (t : TGs) : TG := fun v σ H Q => ∃ a xs, v = .ref a ∧ SqL K H a xs ∧ xs.length = n ∧ t xs σ H Q
theorem pg_lst {es : List Expr} {k : Nat} {t : TGs} {n : Nat} {pos : Pos} (hc : X.calm = true) (h : PGs X es t)
    (hn : (assignEach es X.env).length = n := by rfl) (hst : (assignEach es X.env).findIdx? (·.1) = none := by rfl) : PG X (.Tuple es k pos) (gLst X.K n t) := by
  intro pins s σ H v u Q I r hw
  obtain ⟨a, xs, e1, hq, hl, hw⟩ := hw
  subst e1
  cases r
  obtain ⟨its, rv, ht, hz⟩ := I.list hq
  rw [assign_Tuple]
  refine wpAny_bind (wpAny_standAt ?_)
  unfold unpack
  have hsz : (assignEach es X.env).length = its.toArray.size := by simp [hn, ← hl, rv.length]
  rw [hsz, hst]
  refine wpAny_bind (wpAny_holding (unpack_lst (I.ok.hd hc) ht.isList fun h' hx => ?_))
  have I1 : Inv X pins σ H { s with heap := h' } := I.kept (t' := s.toks) fun b o e => hx b o (Nat.ne_of_lt (Heap.lt_size e)) e
  exact h pins _ σ H xs _ Q I1 (by simpa using rv) hw
/-! ### list.count of flat things -/
/-! ### great numbers -/
def Bd (n : Nat) (i : Int) : Prop := i.natAbs < 2 ^ n
theorem Bd.mono {n m : Nat} {i : Int} (h : Bd n i) (hm : n ≤ m) : Bd m i := Nat.lt_of_lt_of_le h (Nat.pow_le_pow_right (by decide) hm)
theorem Bd.mul {n m : Nat} {i j : Int} (h : Bd n i) (h' : Bd m j) : Bd (n + m) (i * j) := by
  unfold Bd at *
  rw [Int.natAbs_mul, Nat.pow_add]
  exact Nat.mul_lt_mul'' h h'
theorem Bd.add {n : Nat} {i j : Int} (h : Bd n i) (h' : Bd n j) : Bd (n + 1) (i + j) := by
  unfold Bd at *
  have := Int.natAbs_add_le i j
  rw [Nat.pow_succ]; omega
theorem Bd.neg {n : Nat} {i : Int} (h : Bd n i) : Bd n (-i) := by unfold Bd at *; rwa [Int.natAbs_neg]
theorem Bd.sub {n : Nat} {i j : Int} (h : Bd n i) (h' : Bd n j) : Bd (n + 1) (i - j) := by rw [Int.sub_eq_add_neg]; exact h.add h'.neg
theorem Bd.le {n : Nat} {i j : Int} (h : Bd n i) (h' : j.natAbs ≤ i.natAbs) : Bd n j := Nat.lt_of_le_of_lt h' h
theorem Bd.log {n : Nat} {i : Int} (h : Bd n i) : i.natAbs.log2 < n + 1 := by
  by_cases z : i.natAbs = 0
  · rw [z]; simp
  · exact Nat.lt_succ_of_lt ((Nat.log2_lt z).mpr h)
theorem Bd.bits {n : Nat} {i : Int} (h : Bd n i) : Builtin.Int.intBits i ≤ n := by
  unfold Builtin.Int.intBits
  split
  · exact Nat.zero_le _
  · rename_i z
    have z' : i.natAbs ≠ 0 := fun e => z (by simpa using Int.natAbs_eq_zero.mp e)
    exact (Nat.log2_lt z').mpr h
def CMulB (i j : Int) : Prop := Bd 1000000 i ∧ Bd 1000000 j
theorem CMulB.ok {i j : Int} (h : CMulB i j) : IntMulOk i j := by
  have h1 := h.1.bits
  have h2 := h.2.bits
  have e : (bitsLine : Int) = 134217728 := by decide
  have h3 : Builtin.Int.intTooBig ((Builtin.Int.intBits i : Int) + (Builtin.Int.intBits j : Int)) = false := by
    unfold Builtin.Int.intTooBig
    rw [e]
    exact decide_eq_false (by omega)
  unfold IntMulOk
  rw [h3]
  simp
theorem op_mulB : OpR X (binaryOp .Mult) (rI CMulB fun i j => .int (i * j)) := opI fun _ _ _ _ _ _ _ hc q => mul_int q hc.ok
def CDivB (i j : Int) : Prop := j ≠ 0 ∧ Bd 8999 j
theorem op_fdivB : OpR X (binaryOp .FloorDiv) (rI CDivB fun i j => .int (i.fdiv j)) := opI fun _ _ _ _ _ _ _ hc q => floordiv_int hc.1 q (.inl (PyProof.noPylong_of_log2 hc.2.log))
end
end L2

set_option Elab.async false
set_option linter.all false
set_option maxRecDepth 100000
namespace HT
open PySem PyProof.Rows
/-- () + u is u -/
theorem cat_tup0 {prog : Program} {w : World} {A : Around} {E : Value → Shared → Prop} {s : Shared} {t b : Addr} {ws : List Value} {Q : Value → Shared → Prop} (ht : IsTup s.heap t ([] : List Value).toArray) (hb : IsTup s.heap b ws.toArray) (h : Q (.ref b) s) : wpAny (model prog w) A (binaryOp .Add (.ref t) (.ref b)) Q E s := by
  obtain ⟨⟨cls, dd, data, sl⟩, ho, hc, n, hd⟩ := id ht
  obtain ⟨⟨cls2, dd2, data2, sl2⟩, ho2, hc2, n2, hd2⟩ := id hb
  simp only at hc hd hc2 hd2
  subst hc hd hc2 hd2
  exact concat_meets ⟨_, ho, rfl⟩ ⟨_, ho2, rfl⟩ noFill_tuple_add seq_tuple_add PySem.F.slot_tuple_add PySem.F.entry_tuple_add (PySem.F.args_tuple_add_2 _ _)
    (tuple_addW0 t b ([] : List Value).toArray ws.toArray n n2 dd dd2 sl sl2 (by simp)) ⟨ho, ho2, h⟩
end HT
namespace L2
open PySem PySem.Spec PyProof.Rows
/-! ### operators by what they meet -/
section
variable {X : Cx}
def rCat0 (K : PySem.W.Frag) : R2 := fun x y H Q => ∃ a b ys, x = .ref a ∧ y = .ref b ∧ SqT K H a [] ∧ SqT K H b ys ∧ Q (.ref b) H
theorem op_cat0 : OpR X (binaryOp .Add) (rCat0 X.K) := by
  intro pins s σ H x y v u Q I rx ry h
  obtain ⟨a, b, ys, rfl, rfl, ha, hb, q⟩ := h
  cases rx
  cases ry
  obtain ⟨its, r1, p1, _⟩ := I.tuple ha
  obtain ⟨its2, r2, p2, _⟩ := I.tuple hb
  cases r1
  exact HT.cat_tup0 p1 p2 ⟨.ref b, H, I, rfl, q⟩
def rAddA (K : PySem.W.Frag) : R2 := fun x y H Q => rI0 (fun i j => .int (i + j)) x y H Q ∨ rCat x y H Q ∨ rCatT K x y H Q ∨ rCat0 K x y H Q
theorem opAdd : OpR X (binaryOp .Add) (rAddA X.K) := OpR.or op_add (OpR.or op_cat (OpR.or op_catT op_cat0))
def rMulA : R2 := fun x y H Q => rI CMul (fun i j => .int (i * j)) x y H Q ∨ rI CMulB (fun i j => .int (i * j)) x y H Q
theorem opMul : OpR X (binaryOp .Mult) rMulA := OpR.or op_mul op_mulB
def rEqA (K : PySem.W.Frag) : R2 := fun x y H Q => rEq x y H Q ∨ rEqD K x y H Q
theorem opEq (hu : X.A.units + 64 < cLine) : OpR X (compareOp .Eq) (rEqA X.K) := OpR.or op_eq (op_eqD hu)
def rNeA (K : PySem.W.Frag) : R2 := fun x y H Q => rNe x y H Q ∨ rNeD K x y H Q
theorem opNe (hu : X.A.units + 64 < cLine) : OpR X (compareOp .NotEq) (rNeA X.K) := OpR.or op_ne (op_neD hu)
def rSlA (K : PySem.W.Frag) : V → Option Int → Option Int → Hp → VK → Prop := fun x lo hi H Q => rSlL K x lo hi H Q ∨ rSlT K x lo hi H Q
theorem slAny : SlR X (rSlA X.K) := SlR.or sl_list sl_tup
/-- a target unpacked from a tuple or a list -/
def gSeq (K : PySem.W.Frag) (n : Nat) (t : TGs) : TG := fun v σ H Q => gTup K n t v σ H Q ∨ gLst K n t v σ H Q
theorem pg_seq {es : List Expr} {k : Nat} {t : TGs} {n : Nat} {pos : Pos} (hc : X.calm = true) (h : PGs X es t)
    (hn : (assignEach es X.env).length = n := by rfl) (hst : (assignEach es X.env).findIdx? (·.1) = none := by rfl) : PG X (.Tuple es k pos) (gSeq X.K n t) :=
  fun pins s σ H v u Q I r hw => hw.elim (pg_tup hc h hn hst pins s σ H v u Q I r) (pg_lst hc h hn hst pins s σ H v u Q I r)
/-- what is walked is a list or a tuple -/
def iSeq (K : PySem.W.Frag) (tl : TE) : TI := fun σ H R => iList K tl σ H R ∨ iTup K tl σ H R
theorem pi_seq {l tg : Expr} {tl : TE} (h : PE X l tl) : PI X tg l (iSeq X.K tl) :=
  fun pins s σ H R I hw => hw.elim (pi_list h pins s σ H R I) (pi_tup h pins s σ H R I)
end
/-! ### a def that may be called -/
structure Cal (P : Program) (w : World) (K : PySem.W.Frag) (mg : Str → Option Value) (base : Heap) (CX : CXT) (x : Str) (k : Nat) (ps : List Str) (sp : Sp) : Prop where
  ex : ∃ f fd, FnOk P w K mg base CX k f fd ps sp ∧ mg x = some (.ref f) ∧ PySem.W.keepIn K (.ref f) = true ∧ Binds K fd ps []
section
variable {X : Cx} {CX : CXT} {k k' : Nat} {ps : List Str} {sp : Sp} {E : XK} {x : Str} {p pos : Pos} {e : Expr} {es : List Expr} {t : TA}
theorem pe_cal (C : Cal X.prog X.w X.K X.mg X.base CX x k ps sp) (hr : Room k' X.A) (hg : Gl X x) (hx : Passes CX X E) (ha : PA X (e :: es) t) (hk : k ≤ k' := by decide)
    (hdb : (x == ("__debug__" : Str)) = false := by decide) (he : starEach (e :: es) X.env = (false, eval e X.env) :: starEach es X.env := by rfl) (hpl : (backTo pos (starEach es X.env)).any (·.1) = false := by rfl) :
    PE X (.Call (.Name x p) (e :: es) [] pos) (tCall sp [] E t) :=
  let ⟨_, _, a, b, c, d⟩ := C.ex
  pe_call a (hr.mono hk) hg b c d .nil hx ha hdb he hpl
end
/-- no name of a built-in is taken by the text -/
structure Nob (mg : Str → Option Value) : Prop where
  abs : mg "abs" = none
  all : mg "all" = none
  any : mg "any" = none
  bool : mg "bool" = none
  dict : mg "dict" = none
  enumerate : mg "enumerate" = none
  int : mg "int" = none
  isinstance : mg "isinstance" = none
  len : mg "len" = none
  list : mg "list" = none
  max : mg "max" = none
  min : mg "min" = none
  range : mg "range" = none
  repr : mg "repr" = none
  sorted : mg "sorted" = none
  str : mg "str" = none
  sum : mg "sum" = none
  tuple : mg "tuple" = none
  zip : mg "zip" = none
  ValueError : mg "ValueError" = none
/-! ### the readings, step by step -/
section
variable {K : PySem.W.Frag} {σ : St} {H : Hp} {Q : VK} {D : Ends} {ta tb : TE} {t u : TS} {tl : TA}
theorem r_seq (h : t { D with nx := u D } σ H) : tSeq t u D σ H := h
theorem r_next (h : D.nx σ H) : tNext D σ H := h
theorem r_ret (h : ta σ H D.rt) : tRet ta D σ H := h
theorem r_drop (h : ta σ H fun _ H1 => D.nx σ H1) : tDrop ta D σ H := h
theorem r_asg {g : TG} (h : ta σ H fun x H1 => g x σ H1 D.nx) : tAsg ta g D σ H := h
theorem r_ifs {c : TT} (h : c σ H fun b H1 => if b = true then t D σ H1 else u D σ H1) : tIfS c t u D σ H := h
theorem r_name {i : Nat} {v : V} {R : St → Hp → Prop} (h : R (σ.set i (some v)) H) : gName i v σ H R := h
theorem r_sub {v : V} {to ti : TE} {st : TSet} {R : St → Hp → Prop} (h : to σ H fun o H1 => ti σ H1 fun i H2 => st o i v H2 fun H3 => R σ H3) : gSub to ti st v σ H R := h
theorem r_var {i : Nat} {v : V} (e : σ[i]? = some (some v)) (h : Q v H) : tVar i σ H Q := ⟨v, e, h⟩
theorem r_c {v : V} (h : Q v H) : tC v σ H Q := h
theorem r_op {r : R2} (h : ta σ H fun x H1 => tb σ H1 fun y H2 => r x y H2 Q) : tOp r ta tb σ H Q := h
theorem r_un {r : V → Hp → VK → Prop} (h : ta σ H fun x H1 => r x H1 Q) : tUn r ta σ H Q := h
theorem r_test {R : Bool → Hp → Prop} (h : ta σ H fun x H1 => ∃ k, x = .bl k ∧ R k H1) : tTest ta σ H R := h
theorem r_tb {R : Bool → Hp → Prop} (h : ta σ H fun x H1 => ∃ k, x = .bl k ∧ R k H1) : tB ta σ H R := h
theorem r_and {a b : TT} {R : Bool → Hp → Prop} (h : a σ H fun c H1 => if c = true then b σ H1 R else R false H1) : tAnd a b σ H R := h
theorem r_or {a b : TT} {R : Bool → Hp → Prop} (h : a σ H fun c H1 => if c = true then R true H1 else b σ H1 R) : tOr a b σ H R := h
theorem r_not {a : TT} {R : Bool → Hp → Prop} (h : a σ H fun c H1 => R (!c) H1) : tNot a σ H R := h
theorem r_andV (h : ta σ H fun x H1 => ∃ c, x = .bl c ∧ if c = true then tb σ H1 Q else Q (.bl false) H1) : tAndV ta tb σ H Q := h
theorem r_orV (h : ta σ H fun x H1 => ∃ c, x = .bl c ∧ if c = true then Q (.bl true) H1 else tb σ H1 Q) : tOrV ta tb σ H Q := h
theorem r_notV (h : ta σ H fun x H1 => ∃ c, x = .bl c ∧ Q (.bl (!c)) H1) : tNotV ta σ H Q := h
theorem r_if {c : TT} (h : c σ H fun b H1 => if b = true then ta σ H1 Q else tb σ H1 Q) : tIf c ta tb σ H Q := h
theorem r_nil {R : List V → Hp → Prop} (h : R [] H) : tNil σ H R := h
theorem r_cons {R : List V → Hp → Prop} (h : ta σ H fun x H1 => tl σ H1 fun xs H2 => R (x :: xs) H2) : tCons ta tl σ H R := h
theorem r_tup (h : tl σ H fun xs H1 => xs.length ≤ sizeLine ∧ ∀ p, H1 p = none → Q (.ref p) (upd H1 p (.tup xs))) : tTup tl σ H Q := h
theorem r_lst (h : tl σ H fun xs H1 => xs.length ≤ sizeLine ∧ ∀ p, H1 p = none → Q (.ref p) (upd H1 p (.lst xs))) : tLst tl σ H Q := h
theorem r_call {sp : Sp} {E : XK} (h : tl σ H fun vs H1 => sp (vs ++ []) H1 Q E) : tCall sp [] E tl σ H Q := h
theorem r_cb {r : List V → Hp → VK → Prop} (h : tl σ H fun vs H1 => r vs H1 Q) : tCB r tl σ H Q := h
theorem r_parS {i j : Nat} (h : tl σ H fun vs H1 => ∃ v w, vs = [v, w] ∧ D.nx ((σ.set i (some v)).set j (some w)) H1) : tPar i j tl D σ H := h
theorem r_gcons {g : TG} {gs : TGs} {v : V} {r : List V} {R : St → Hp → Prop} (h : g v σ H fun σ' H' => gs r σ' H' R) : gCons g gs (v :: r) σ H R := ⟨v, r, rfl, h⟩
theorem r_gnil {R : St → Hp → Prop} (h : R σ H) : gNil [] σ H R := ⟨rfl, h⟩
theorem r_yes {R : Bool → Hp → Prop} (h : R true H) : tYes σ H R := h
variable {i j : Int} {x y : V}
theorem r_add (h : Q (.int (i + j)) H) : rAddA K (.int i) (.int j) H Q := .inl ⟨i, j, rfl, rfl, h⟩
theorem r_sub2 (h : Q (.int (i - j)) H) : rI0 (fun i j => .int (i - j)) (.int i) (.int j) H Q := ⟨i, j, rfl, rfl, h⟩
theorem r_mul (c : CMul i j) (h : Q (.int (i * j)) H) : rMulA (.int i) (.int j) H Q := .inl ⟨i, j, rfl, rfl, c, h⟩
theorem r_mulB (c : CMulB i j) (h : Q (.int (i * j)) H) : rMulA (.int i) (.int j) H Q := .inr ⟨i, j, rfl, rfl, c, h⟩
theorem r_lt (h : Q (.bl (decide (i < j))) H) : rI0 (fun i j => .bl (decide (i < j))) (.int i) (.int j) H Q := ⟨i, j, rfl, rfl, h⟩
theorem r_le (h : Q (.bl (decide (i ≤ j))) H) : rI0 (fun i j => .bl (decide (i ≤ j))) (.int i) (.int j) H Q := ⟨i, j, rfl, rfl, h⟩
theorem r_gt (h : Q (.bl (decide (j < i))) H) : rI0 (fun i j => .bl (decide (j < i))) (.int i) (.int j) H Q := ⟨i, j, rfl, rfl, h⟩
theorem r_ge (h : Q (.bl (decide (j ≤ i))) H) : rI0 (fun i j => .bl (decide (j ≤ i))) (.int i) (.int j) H Q := ⟨i, j, rfl, rfl, h⟩
theorem r_eqI (h : Q (.bl (decide (i = j))) H) : rEqA K (.int i) (.int j) H Q := .inl ⟨rfl, by rw [show decide (V.int i = V.int j) = decide (i = j) from by simp]; exact h⟩
theorem r_neI (h : Q (.bl (!decide (i = j))) H) : rNeA K (.int i) (.int j) H Q := .inl ⟨rfl, by rw [show decide (V.int i = V.int j) = decide (i = j) from by simp]; exact h⟩
theorem r_eqB {a b : Bool} (h : Q (.bl (decide (a = b))) H) : rEqA K (.bl a) (.bl b) H Q := .inl ⟨rfl, by rw [show decide (V.bl a = V.bl b) = decide (a = b) from by simp]; exact h⟩
theorem r_neB {a b : Bool} (h : Q (.bl (!decide (a = b))) H) : rNeA K (.bl a) (.bl b) H Q := .inl ⟨rfl, by rw [show decide (V.bl a = V.bl b) = decide (a = b) from by simp]; exact h⟩
theorem r_eqS {a b : Str} (h : Q (.bl (decide (a = b))) H) : rEqA K (.str a) (.str b) H Q := .inl ⟨rfl, by rw [show decide (V.str a = V.str b) = decide (a = b) from by simp]; exact h⟩
theorem r_neg (h : Q (.int (-i)) H) : rU (fun i => .int (-i)) (.int i) H Q := ⟨i, rfl, h⟩
theorem r_modN (c : j ≠ 0) (h : Q (.int (i.fmod j)) H) : rI (fun _ j => j ≠ 0) (fun i j => .int (i.fmod j)) (.int i) (.int j) H Q := ⟨i, j, rfl, rfl, c, h⟩
theorem r_mod (c : 0 < j) (h : Q (.int (i % j)) H) : rI (fun _ j => j ≠ 0) (fun i j => .int (i.fmod j)) (.int i) (.int j) H Q := ⟨i, j, rfl, rfl, by omega, by show Q (.int (i.fmod j)) H; rw [Int.fmod_eq_emod_of_nonneg i (by omega)]; exact h⟩
theorem r_fdiv (c : 0 < j) (b : Bd 8999 j) (h : Q (.int (i / j)) H) : rI CDivB (fun i j => .int (i.fdiv j)) (.int i) (.int j) H Q := ⟨i, j, rfl, rfl, ⟨by omega, b⟩, by show Q (.int (i.fdiv j)) H; rw [Int.fdiv_eq_ediv_of_nonneg i (by omega)]; exact h⟩
theorem r_ixL {a : Addr} {xs : List V} {v : V} (s : SqL K H a xs) (e : atI xs i = some v) (h : Q v H) : rIx K (.ref a) (.int i) H Q := .inl ⟨a, xs, i, v, rfl, rfl, s, e, h⟩
theorem r_ixT {a : Addr} {xs : List V} {v : V} (s : SqT K H a xs) (e : atI xs i = some v) (h : Q v H) : rIx K (.ref a) (.int i) H Q := .inr (.inl ⟨a, xs, i, v, rfl, rfl, s, e, h⟩)
theorem r_setL {a : Addr} {xs : List V} {k : Int} {n : Nat} {v : V} {R : Hp → Prop} (e : H a = some (.lst xs)) (l : ixN xs.length k = some n) (h : R (upd H a (.lst (xs.set n v)))) : rSetL (.ref a) (.int k) v H R := ⟨a, xs, k, n, rfl, rfl, e, l, h⟩
end
theorem Bd.small {i : Int} (h : i.natAbs < 2 ^ 64) : Bd 8999 i := Bd.mono (n := 64) h (by decide)
theorem Bd.small' {i : Int} (h0 : 0 ≤ i) (h : i < 2 ^ 64) : Bd 8999 i := Bd.small (by omega)
end L2

set_option Elab.async false
set_option linter.all false
set_option maxRecDepth 100000
namespace L2
open PySem PySem.Spec PyProof.Rows
/-! ### fractions -/
/-- TOP divided by BOTTOM in lowest terms, BOTTOM above 0 -/
def frac (t b : Int) : Int × Int := ((if b < 0 then -t else t) / (Int.gcd t b : Int), (if b < 0 then -b else b) / (Int.gcd t b : Int))
theorem gcd_pos {t b : Int} (h : b ≠ 0) : 0 < (Int.gcd t b : Int) := by
  have := Int.gcd_pos_of_ne_zero_right t h
  omega
theorem fdiv_ex {g x : Int} (hg : g ≠ 0) (h : g ∣ x) : x.fdiv g = x / g := by
  obtain ⟨c, rfl⟩ := h
  rw [Int.mul_fdiv_cancel_left _ hg, Int.mul_ediv_cancel_left _ hg]
theorem fdiv_neg_ex {g x : Int} (hg : g ≠ 0) (h : g ∣ x) : x.fdiv (-g) = (-x) / g := by
  obtain ⟨c, rfl⟩ := h
  rw [show g * c = (-g) * (-c) by rw [Int.neg_mul_neg], Int.mul_fdiv_cancel_left _ (by omega), show -(-g * -c) = g * (-c) by rw [Int.neg_mul_neg, Int.mul_neg], Int.mul_ediv_cancel_left _ hg]
theorem frac_pos {t b : Int} (h : 0 < b) : frac t b = (t / (Int.gcd t b : Int), b / (Int.gcd t b : Int)) := by
  unfold frac
  rw [if_neg (by omega), if_neg (by omega)]
theorem natAbs_div_le (x g : Int) (h : 0 < g) : (x / g).natAbs ≤ x.natAbs := Int.natAbs_ediv_le_natAbs x g
theorem frac_bd {n : Nat} {t b : Int} (h : b ≠ 0) (ht : Bd n t) (hb : Bd n b) : Bd n (frac t b).1 ∧ Bd n (frac t b).2 := by
  unfold frac
  dsimp only
  have hg := gcd_pos (t := t) h
  constructor
  · split
    · exact Bd.le ht.neg (natAbs_div_le _ _ hg)
    · exact Bd.le ht (natAbs_div_le _ _ hg)
  · split
    · exact Bd.le hb.neg (natAbs_div_le _ _ hg)
    · exact Bd.le hb (natAbs_div_le _ _ hg)
/-- as the program divides -/
theorem frac_prog {t b g : Int} (h : b ≠ 0) (e : g = if b < 0 then -(Int.gcd t b : Int) else (Int.gcd t b : Int)) : (t.fdiv g, b.fdiv g) = frac t b := by
  have hg := gcd_pos (t := t) h
  have d1 : (Int.gcd t b : Int) ∣ t := Int.gcd_dvd_left ..
  have d2 : (Int.gcd t b : Int) ∣ b := Int.gcd_dvd_right ..
  subst e
  unfold frac
  split
  · rw [fdiv_neg_ex (by omega) d1, fdiv_neg_ex (by omega) d2]
  · rw [fdiv_ex (by omega) d1, fdiv_ex (by omega) d2]
theorem gcd_step (a b : Int) : Int.gcd b (a.fmod b) = Int.gcd a b := by
  rw [Int.fmod_def]
  rw [show a - b * a.fdiv b = a + b * (-(a.fdiv b)) by rw [Int.mul_neg]; omega]
  rw [Int.gcd_comm b, Int.gcd_add_mul_left_left]
theorem fmod_less (a : Int) {b : Int} (h : b ≠ 0) : (a.fmod b).natAbs < b.natAbs := by
  rcases Int.lt_or_gt_of_ne h with h1 | h1
  · have e1 : (-a).fmod (-b) = -a.fmod b := Int.neg_fmod_neg a b
    have e2 := Int.fmod_nonneg_of_pos (-a) (b := -b) (by omega)
    have e3 := Int.fmod_lt_of_pos (-a) (b := -b) (by omega)
    rw [e1] at e2 e3
    omega
  · have e1 : a.fmod b = a % b := Int.fmod_eq_emod_of_nonneg a (by omega)
    have := Int.emod_nonneg a h
    have := Int.emod_lt_of_pos a h1
    omega
/-! ### what is read of tuples and purses -/
def fr (p : Int × Int) : PyData := .tuple [.int p.1, .int p.2]
def IsFr (K : PySem.W.Frag) (H : Hp) (v : V) (p : Int × Int) : Prop := ∃ a, v = .ref a ∧ SqT K H a [.int p.1, .int p.2]
theorem IsFr.dp {K : PySem.W.Frag} {H : Hp} {v : V} {p : Int × Int} (h : IsFr K H v p) : Dp K H v (fr p) := by
  obtain ⟨a, rfl, s⟩ := h
  exact .tup s (.cons (.int _) (.cons (.int _) .nil))
/-- all that stands but what stands at p -/
def Keep (p : Addr) (H H' : Hp) : Prop := ∀ b o, H b = some o → b ≠ p → H' b = some o
theorem Same.keep {H H' : Hp} (s : Same H H') (p : Addr) : Keep p H H' := fun b o e _ => s b o e
theorem Keep.refl (p : Addr) (H : Hp) : Keep p H H := fun _ _ e _ => e
theorem Keep.trans {p : Addr} {H H1 H2 : Hp} (a : Keep p H H1) (b : Keep p H1 H2) : Keep p H H2 := fun c o e n => b c o (a c o e n) n
theorem Keep.upd (p : Addr) (H : Hp) (o : HO) : Keep p H (upd H p o) := fun b u e n => by rw [upd_ne n]; exact e
theorem Same.upd {H : Hp} {p : Addr} (o : HO) (n : H p = none) : Same H (upd H p o) := fun b u e => by rw [upd_ne (ne_of_none e n)]; exact e
theorem Same.tup {K : PySem.W.Frag} {H H' : Hp} {a : Addr} {xs : List V} (s : Same H H') (h : SqT K H a xs) : SqT K H' a xs := by
  rcases h with (r | ⟨o, r⟩) | r
  · exact .inl (.inl (s _ _ r))
  · exact .inl (.inr ⟨o, s _ _ r⟩)
  · exact .inr r
theorem Keep.tup {K : PySem.W.Frag} {H H' : Hp} {p a : Addr} {xs : List V} (s : Keep p H H') (hp : ∃ ys, H p = some (.lst ys)) (h : SqT K H a xs) : SqT K H' a xs := by
  obtain ⟨ys, hp⟩ := hp
  rcases h with (r | ⟨o, r⟩) | r
  · exact .inl (.inl (s _ _ r (ne_of r hp (by intro z; cases z))))
  · exact .inl (.inr ⟨o, s _ _ r (ne_of r hp (by intro z; cases z))⟩)
  · exact .inr r
theorem Same.fr {K : PySem.W.Frag} {H H' : Hp} {v : V} {p : Int × Int} (s : Same H H') (h : IsFr K H v p) : IsFr K H' v p := let ⟨a, e, q⟩ := h; ⟨a, e, s.tup q⟩
theorem Keep.fr {K : PySem.W.Frag} {H H' : Hp} {x : Addr} {v : V} {p : Int × Int} (s : Keep x H H') (hp : ∃ ys, H x = some (.lst ys)) (h : IsFr K H v p) : IsFr K H' v p := let ⟨a, e, q⟩ := h; ⟨a, e, s.tup hp q⟩
/-- a purse: three numbers, the second one from 0 on -/
def Purse (H : Hp) (p : Addr) : Prop := ∃ a b c : Int, H p = some (.lst [.int a, .int b, .int c]) ∧ 0 ≤ b
theorem Purse.lst {H : Hp} {p : Addr} (h : Purse H p) : ∃ ys, H p = some (.lst ys) := let ⟨_, _, _, e, _⟩ := h; ⟨_, e⟩
theorem Purse.same {H H' : Hp} {p : Addr} (h : Purse H p) (s : Same H H') : Purse H' p := let ⟨a, b, c, e, q⟩ := h; ⟨a, b, c, s _ _ e, q⟩
end L2

set_option Elab.async false
set_option linter.all false
set_option maxRecDepth 100000
namespace L2
open PySem PySem.Spec PyProof.Rows
/-! ### fractions as rational numbers -/
def fq (r : Rat) : Int × Int := (r.num, (r.den : Int))
theorem fq_den_pos (r : Rat) : 0 < (fq r).2 := by
  show 0 < (r.den : Int)
  have := r.den_pos
  omega
theorem fq_low (r : Rat) : Int.gcd (fq r).1 (fq r).2 = 1 := by
  show Int.gcd r.num (r.den : Int) = 1
  have := r.reduced
  exact this
/-- in lowest terms, bottom above 0: that of one rational number -/
theorem of_low {p : Int × Int} (h : 0 < p.2) (g : Int.gcd p.1 p.2 = 1) : ∃ r : Rat, p = fq r := by
  obtain ⟨t, b⟩ := p
  obtain ⟨n, rfl⟩ := Int.eq_ofNat_of_zero_le (Int.le_of_lt h)
  refine ⟨⟨t, n, by show n ≠ 0; have : (0 : Int) < (n : Int) := h; omega, g⟩, rfl⟩
theorem frac_fq {t b : Int} (h : b ≠ 0) : frac t b = fq (Rat.divInt t b) := by
  have hg := gcd_pos (t := t) h
  have d1 : (Int.gcd t b : Int) ∣ t := Int.gcd_dvd_left ..
  have d2 : (Int.gcd t b : Int) ∣ b := Int.gcd_dvd_right ..
  unfold frac fq
  rw [Rat.num_divInt, Rat.den_divInt, if_neg h, Int.gcd_comm b t]
  rcases Int.lt_or_gt_of_ne h with hb | hb
  · rw [if_pos hb, if_pos hb, Int.sign_eq_neg_one_of_neg hb]
    refine Prod.ext ?_ ?_
    · show -t / _ = -1 * t / _
      rw [Int.neg_one_mul]
    · show -b / _ = ((b.natAbs / Int.gcd t b : Nat) : Int)
      rw [Int.natCast_ediv, Int.ofNat_natAbs_of_nonpos (by omega)]
  · rw [if_neg (by omega), if_neg (by omega), Int.sign_eq_one_of_pos hb]
    refine Prod.ext ?_ ?_
    · show t / _ = 1 * t / _
      rw [Int.one_mul]
    · show b / _ = ((b.natAbs / Int.gcd t b : Nat) : Int)
      rw [Int.natCast_ediv, Int.natAbs_of_nonneg (by omega)]
/-- numbers of at most n bits -/
def FQ (n : Nat) (r : Rat) : Prop := Bd n r.num ∧ Bd n (r.den : Int)
theorem FQ.mono {n m : Nat} {r : Rat} (h : FQ n r) (hm : n ≤ m) : FQ m r := ⟨h.1.mono hm, h.2.mono hm⟩
theorem FQ.neg {n : Nat} {r : Rat} (h : FQ n r) : FQ n (-r) := ⟨h.1.neg, h.2⟩
theorem FQ.divInt {n : Nat} {t b : Int} (h : b ≠ 0) (ht : Bd n t) (hb : Bd n b) : FQ n (Rat.divInt t b) := by
  have := frac_bd h ht hb
  rw [frac_fq h] at this
  exact this
theorem mkRat_divInt (t : Int) (b : Nat) : mkRat t b = Rat.divInt t (b : Int) := (Rat.divInt_ofNat t b).symm
theorem add_divInt (a b : Rat) : a + b = Rat.divInt (a.num * b.den + b.num * a.den) ((a.den : Int) * b.den) := by
  rw [Rat.add_def', mkRat_divInt, Int.natCast_mul]
theorem mul_divInt (a b : Rat) : a * b = Rat.divInt (a.num * b.num) ((a.den : Int) * b.den) := by
  rw [Rat.mul_def', mkRat_divInt, Int.natCast_mul]
theorem div_divInt (a b : Rat) : a / b = Rat.divInt (a.num * b.den) ((a.den : Int) * b.num) := by
  rw [Rat.div_def, Rat.inv_def]
  conv => lhs; rw [← Rat.num_divInt_den a]
  rw [Rat.divInt_mul_divInt]
theorem den_ne (a : Rat) : (a.den : Int) ≠ 0 := by have := a.den_pos; omega
theorem FQ.mul {n m : Nat} {a b : Rat} (h : FQ n a) (h' : FQ m b) : FQ (n + m) (a * b) := by
  rw [mul_divInt]
  exact FQ.divInt (by have := Int.mul_ne_zero (den_ne a) (den_ne b); exact this) (h.1.mul h'.1) (h.2.mul h'.2)
theorem FQ.add {n m : Nat} {a b : Rat} (h : FQ n a) (h' : FQ m b) : FQ (n + m + 1) (a + b) := by
  rw [add_divInt]
  refine FQ.divInt (Int.mul_ne_zero (den_ne a) (den_ne b)) ?_ ((h.2.mul h'.2).mono (by omega))
  exact (h.1.mul h'.2).add ((h'.1.mul h.2).mono (by omega))
theorem FQ.sub {n m : Nat} {a b : Rat} (h : FQ n a) (h' : FQ m b) : FQ (n + m + 1) (a - b) := by
  rw [Rat.sub_eq_add_neg]; exact h.add h'.neg
theorem FQ.div {n m : Nat} {a b : Rat} (h : FQ n a) (h' : FQ m b) (hb : b ≠ 0) : FQ (n + m) (a / b) := by
  rw [div_divInt]
  exact FQ.divInt (Int.mul_ne_zero (den_ne a) (fun e => hb (Rat.num_eq_zero.mp e))) (h.1.mul h'.2) (h.2.mul h'.1)
/-! ### the program's ways -/
/-- two fractions put together, crosswise cancelled -/
theorem plus_fq (a b : Rat) (d top rest : Int) (hd : d = (Int.gcd (a.den : Int) (b.den : Int) : Int)) (ht : top = a.num * ((b.den : Int) / d) + b.num * ((a.den : Int) / d)) (hr : rest = (Int.gcd top d : Int)) :
    (top / rest, (a.den : Int) / d * ((b.den : Int) / rest)) = fq (a + b) := by
  have ap := a.den_pos
  have bp := b.den_pos
  have gp : 0 < Nat.gcd a.den b.den := Nat.gcd_pos_of_pos_left _ ap
  have hd' : d = ((Nat.gcd a.den b.den : Nat) : Int) := hd
  have e1 : (b.den : Int) / d = ((b.den / Nat.gcd a.den b.den : Nat) : Int) := by rw [hd', Int.natCast_ediv]
  have e2 : (a.den : Int) / d = ((a.den / Nat.gcd a.den b.den : Nat) : Int) := by rw [hd', Int.natCast_ediv]
  rw [e1, e2] at ht
  have aux := Rat.add.aux a b (g := Nat.gcd a.den b.den) rfl rfl rfl
  dsimp only at aux
  rw [← ht] at aux
  have hrn : rest = ((top.natAbs.gcd (Nat.gcd a.den b.den) : Nat) : Int) := by rw [hr, hd']; rfl
  have rp : 0 < top.natAbs.gcd (Nat.gcd a.den b.den) := Nat.gcd_pos_of_pos_right _ gp
  have den_nz : a.den / Nat.gcd a.den b.den * b.den ≠ 0 := Nat.ne_of_gt (Nat.mul_pos (Nat.div_gcd_pos_of_pos_left _ ap) bp)
  have key : a + b = Rat.normalize top (a.den / Nat.gcd a.den b.den * b.den) den_nz := by
    rw [add_divInt, Rat.normalize_eq_mkRat, mkRat_divInt, Rat.divInt_eq_divInt_iff (Int.mul_ne_zero (den_ne a) (den_ne b)) (by omega)]
    have ea : (a.den : Int) = ((a.den / Nat.gcd a.den b.den : Nat) : Int) * ((Nat.gcd a.den b.den : Nat) : Int) := by
      rw [← Int.natCast_mul, Nat.div_mul_cancel (Nat.gcd_dvd_left ..)]
    have eb : (b.den : Int) = ((b.den / Nat.gcd a.den b.den : Nat) : Int) * ((Nat.gcd a.den b.den : Nat) : Int) := by
      rw [← Int.natCast_mul, Nat.div_mul_cancel (Nat.gcd_dvd_right ..)]
    rw [ht, Int.natCast_mul]
    generalize ((a.den / Nat.gcd a.den b.den : Nat) : Int) = A at *
    generalize ((b.den / Nat.gcd a.den b.den : Nat) : Int) = B at *
    generalize ((Nat.gcd a.den b.den : Nat) : Int) = G at *
    rw [ea, eb]
    grind
  rw [key]
  unfold fq
  rw [Rat.num_normalize, Rat.den_normalize, ← aux, ← hrn]
  refine Prod.ext rfl ?_
  show (a.den : Int) / d * ((b.den : Int) / rest) = _
  rw [e2, hrn, ← Int.natCast_ediv, ← Int.natCast_mul]
  congr 1
  have dv : top.natAbs.gcd (Nat.gcd a.den b.den) ∣ b.den := Nat.dvd_trans (Nat.gcd_dvd_right ..) (Nat.gcd_dvd_right ..)
  rw [Nat.mul_div_assoc _ dv]
/-- two fractions multiplied, crosswise cancelled -/
theorem times_fq (a b : Rat) : ((fq (Rat.divInt a.num b.den)).1 * (fq (Rat.divInt b.num a.den)).1, (fq (Rat.divInt a.num b.den)).2 * (fq (Rat.divInt b.num a.den)).2) = fq (a * b) := by
  rw [← frac_fq (den_ne b), ← frac_fq (den_ne a)]
  have ap := a.den_pos
  have bp := b.den_pos
  rw [frac_pos (by omega), frac_pos (by omega)]
  have h : a * b = Rat.mul a b := rfl
  rw [h]
  unfold Rat.mul fq
  simp only [Int.divExact_eq_tdiv, Nat.divExact_eq_div]
  have d1 : ((Nat.gcd a.num.natAbs b.den : Nat) : Int) ∣ a.num := Rat.normalize.dvd_num rfl
  have d2 : ((Nat.gcd b.num.natAbs a.den : Nat) : Int) ∣ b.num := Rat.normalize.dvd_num rfl
  refine Prod.ext ?_ ?_
  · show a.num / _ * (b.num / _) = a.num.tdiv _ * b.num.tdiv _
    rw [Int.tdiv_eq_ediv_of_dvd d1, Int.tdiv_eq_ediv_of_dvd d2]
    rfl
  · show (b.den : Int) / _ * ((a.den : Int) / _) = ((_ : Nat) : Int)
    rw [Int.mul_comm, Int.natCast_mul, Int.natCast_ediv, Int.natCast_ediv]
    rfl
theorem inv_fq (b : Rat) : Rat.divInt (b.den : Int) b.num = b⁻¹ := (Rat.inv_def b).symm
theorem below_iff (a b : Rat) : (a.num * (b.den : Int) < b.num * (a.den : Int)) ↔ a < b := (Rat.lt_iff a b).symm
end L2

set_option Elab.async false
set_option linter.all false
set_option maxRecDepth 100000
namespace L2
open PySem PySem.Spec PyProof.Rows
section
variable {α : Type} (st : α → St) (P : α → Prop) (μ : α → Nat) (H : Hp)
def WhW : Nat → St → Hp → Prop := fun m σ H' => ∃ a, σ = st a ∧ H' = H ∧ P a ∧ m = μ a
def WhN (m : Nat) : St → Hp → Prop := fun σ' H' => ∃ a', σ' = st a' ∧ H' = H ∧ P a' ∧ μ a' < m
end
section
variable {α : Type} {st : α → St} {P : α → Prop} {μ : α → Nat} {H : Hp} {c : TT} {tb : TS} {D : Ends} {σ : St}
/-- a while whose turns change names alone: the state by a letter, what holds, a number that falls -/
theorem r_while (st : α → St) (P : α → Prop) (μ : α → Nat) (a0 : α) (e : σ = st a0) (h0 : P a0)
    (hs : ∀ a, P a → c (st a) H fun b H1 => if b = true then ∃ N : St → Hp → Prop, (∀ σ' H', N σ' H' → ∃ m', m' < μ a ∧ WhW st P μ H m' σ' H') ∧ tb { D with nx := N, ct := N, bk := D.nx } (st a) H1 else D.nx (st a) H1) : tWhile c tb D σ H := by
  refine ⟨WhW st P μ H, ⟨_, a0, e, rfl, h0, rfl⟩, ?_⟩
  rintro m σ' H' ⟨a, rfl, rfl, p, rfl⟩
  exact hs a p
theorem r_turn {a : α} {m : Nat} {H1 : Hp} {rt : VK} {bk : St → Hp → Prop} (_ : m = μ a) (h : tb { nx := WhN st P μ H m, rt := rt, ct := WhN st P μ H m, bk := bk } σ H1) :
    ∃ N : St → Hp → Prop, (∀ σ' H', N σ' H' → ∃ m', m' < m ∧ WhW st P μ H m' σ' H') ∧ tb { nx := N, rt := rt, ct := N, bk := bk } σ H1 :=
  ⟨_, fun σ' H' ⟨a', e1, e2, p, l⟩ => ⟨_, l, a', e1, e2, p, rfl⟩, h⟩
theorem r_wend {m : Nat} {a' : α} {σ' : St} (e : σ' = st a') (p : P a') (l : μ a' < m) : WhN st P μ H m σ' H := ⟨a', e, rfl, p, l⟩
end
section
variable {K : PySem.W.Frag} {H : Hp} {Q : VK} {R : Hp → Addr → Prop}
theorem r_new {xs : List V} {R : Addr → Prop} (l : xs.length.ble 1000 = true) (h : ∀ p, H p = none → R p) : xs.length ≤ sizeLine ∧ ∀ p, H p = none → R p :=
  ⟨Nat.le_trans (Nat.le_of_ble_eq_true l) (by decide), h⟩
theorem r_ex1 {i : Int} {R : Int → Prop} (h : R i) : ∃ i', [V.int i] = [V.int i'] ∧ R i' := ⟨i, rfl, h⟩
theorem r_ex2 {i j : Int} {R : Int → Int → Prop} (h : R i j) : ∃ i' j', [V.int i, V.int j] = [V.int i', V.int j'] ∧ R i' j' := ⟨i, j, rfl, h⟩
theorem r_par2 {v w : V} {R : V → V → Prop} (h : R v w) : ∃ v' w', [v, w] = [v', w'] ∧ R v' w' := ⟨v, w, rfl, h⟩
theorem r_exb {b : Bool} {R : Bool → Prop} (h : R b) : ∃ k, V.bl b = .bl k ∧ R k := ⟨b, rfl, h⟩
theorem r_exi {i : Int} {R : Int → Prop} (h : R i) : ∃ j, V.int i = .int j ∧ R j := ⟨i, rfl, h⟩
theorem r_non {R : Prop} (h : R) : V.non = V.non ∧ R := ⟨rfl, h⟩
end
section
variable {σ : St} {H : Hp} {D : Ends} {wi : TI} {g : TG} {tb : TS}
theorem r_for (h : wi σ H fun J H1 => ∃ W : Nat → Nat → St → Hp → Prop, (∃ m, W 0 m σ H1) ∧ ∀ i m σ H, W i m σ H →
    (J.stop i H ∧ D.nx σ H) ∨ (J.go i H ∧ ∃ N : St → Hp → Prop, (∀ σ' H', N σ' H' → ∃ m', m' < m ∧ W (i + 1) m' σ' H') ∧ ∀ x H', J.yld i H x H' → g x σ H' fun σ2 H2 => tb { D with nx := N, ct := N, bk := D.nx } σ2 H2)) : tFor wi g tb D σ H := h
theorem r_rng1 {ta : TA} {R : It → Hp → Prop} (h : ta σ H fun vs H1 => ∃ j : Int, vs = [.int j] ∧ -(2 ^ 62) ≤ j ∧ j < 2 ^ 62 ∧ R (Itr 0 j.toNat) H1) : iRng1 ta σ H R := h
theorem r_rng2 {ta : TA} {R : It → Hp → Prop} (h : ta σ H fun vs H1 => ∃ i j : Int, vs = [.int i, .int j] ∧ (-(2 ^ 62) ≤ i ∧ i < 2 ^ 62 ∧ -(2 ^ 62) ≤ j ∧ j < 2 ^ 62) ∧ R (Itr i (j - i).toNat) H1) : iRng2 ta σ H R := h
theorem r_lc {tt : TT} {te : TE} {vs : List Nat} {Q : VK} (h : wi σ H fun J H1 => ∀ D, H1 D = none → ∃ W : Nat → Nat → Hp → Prop, (∃ m, W 0 m (upd H1 D (.lst []))) ∧ ∀ i m H, W i m H →
    (J.stop i H ∧ Q (.ref D) H) ∨ (J.go i H ∧ ∃ Nx : Hp → Prop, (∀ H', Nx H' → ∃ m', m' < m ∧ W (i + 1) m' H') ∧ ∀ x H', J.yld i H x H' → g x (wipe σ vs) H' fun σ2 H2 => wipe σ2 vs = wipe σ vs ∧ tt σ2 H2 fun b H3 =>
      if b = true then te σ2 H3 fun y H4 => ∃ acc, H4 D = some (.lst acc) ∧ acc.length < sizeLine ∧ Nx (upd H4 D (.lst (acc ++ [y]))) else Nx H3)) : tLc wi g tt te vs σ H Q := h
end
section
variable {K : PySem.W.Frag} {lo : Int} {n : Nat} {a : Addr} {xs : List V} {g : TG} {tb : TS} {σ : St} {H : Hp} {rt : VK} {nx0 : St → Hp → Prop}
theorem f_range (Pv : Nat → St → Hp → Prop) (h0 : Pv 0 σ H)
    (hs : ∀ i σ H, i < n → Pv i σ H → g (.int (lo + i)) σ H fun σ2 H2 => tb { nx := Pv (i + 1), rt := rt, ct := Pv (i + 1), bk := nx0 } σ2 H2) (hd : ∀ σ H, Pv n σ H → nx0 σ H) :
    ∃ W : Nat → Nat → St → Hp → Prop, (∃ m, W 0 m σ H) ∧ ∀ i m σ H, W i m σ H →
      ((Itr lo n).stop i H ∧ nx0 σ H) ∨ ((Itr lo n).go i H ∧ ∃ N : St → Hp → Prop, (∀ σ' H', N σ' H' → ∃ m', m' < m ∧ W (i + 1) m' σ' H') ∧ ∀ x H', (Itr lo n).yld i H x H' → g x σ H' fun σ2 H2 => tb { nx := N, rt := rt, ct := N, bk := nx0 } σ2 H2) :=
  for_range (D := { nx := nx0, rt := rt }) Pv h0 hs hd
theorem f_list (Pv : Nat → St → Hp → Prop) (h0 : Pv 0 σ H) (hl : ∀ i σ H, i ≤ xs.length → Pv i σ H → SqL K H a xs)
    (hs : ∀ i x σ H, xs[i]? = some x → Pv i σ H → g x σ H fun σ2 H2 => tb { nx := Pv (i + 1), rt := rt, ct := Pv (i + 1), bk := nx0 } σ2 H2) (hd : ∀ σ H, Pv xs.length σ H → nx0 σ H) :
    ∃ W : Nat → Nat → St → Hp → Prop, (∃ m, W 0 m σ H) ∧ ∀ i m σ H, W i m σ H →
      ((Itl K a).stop i H ∧ nx0 σ H) ∨ ((Itl K a).go i H ∧ ∃ N : St → Hp → Prop, (∀ σ' H', N σ' H' → ∃ m', m' < m ∧ W (i + 1) m' σ' H') ∧ ∀ x H', (Itl K a).yld i H x H' → g x σ H' fun σ2 H2 => tb { nx := N, rt := rt, ct := N, bk := nx0 } σ2 H2) :=
  for_list (D := { nx := nx0, rt := rt }) Pv h0 hl hs hd
theorem f_tup (Pv : Nat → St → Hp → Prop) (h0 : Pv 0 σ H) (hl : ∀ i σ H, i ≤ xs.length → Pv i σ H → SqT K H a xs)
    (hs : ∀ i x σ H, xs[i]? = some x → Pv i σ H → g x σ H fun σ2 H2 => tb { nx := Pv (i + 1), rt := rt, ct := Pv (i + 1), bk := nx0 } σ2 H2) (hd : ∀ σ H, Pv xs.length σ H → nx0 σ H) :
    ∃ W : Nat → Nat → St → Hp → Prop, (∃ m, W 0 m σ H) ∧ ∀ i m σ H, W i m σ H →
      ((Itt K a).stop i H ∧ nx0 σ H) ∨ ((Itt K a).go i H ∧ ∃ N : St → Hp → Prop, (∀ σ' H', N σ' H' → ∃ m', m' < m ∧ W (i + 1) m' σ' H') ∧ ∀ x H', (Itt K a).yld i H x H' → g x σ H' fun σ2 H2 => tb { nx := N, rt := rt, ct := N, bk := nx0 } σ2 H2) :=
  for_tup (D := { nx := nx0, rt := rt }) Pv h0 hl hs hd
end
theorem r_dT {c A B : Prop} [Decidable c] (h : c) (k : A) : if decide c = true then A else B := by rw [decide_eq_true h]; exact iteT k
theorem r_dF {c A B : Prop} [Decidable c] (h : ¬ c) (k : B) : if decide c = true then A else B := by rw [decide_eq_false h]; exact iteF k
theorem r_ndT {c A B : Prop} [Decidable c] (h : c) (k : B) : if (!decide c) = true then A else B := by rw [decide_eq_true h]; exact iteF k
theorem r_ndF {c A B : Prop} [Decidable c] (h : ¬ c) (k : A) : if (!decide c) = true then A else B := by rw [decide_eq_false h]; exact iteT k
theorem iteNT {A B : Prop} (k : B) : if (!true) = true then A else B := iteF k
theorem iteNF {A B : Prop} (k : A) : if (!false) = true then A else B := iteT k
theorem r_wipe {a b : St} {R : Prop} (e : a = b) (h : R) : a = b ∧ R := ⟨e, h⟩
theorem r_bm {K : PySem.W.Frag} {σ : St} {H : Hp} {Q : VK} {T : String} {r : V → List V → Hp → VK → Prop} {to : TE} {t : TA} (h : to σ H fun x H1 => tyV K T x H1 ∧ t σ H1 fun xs H2 => r x xs H2 Q) : tBM K T r to t σ H Q := h
theorem r_offs {i : Nat} {D : Ends} {σ : St} {H : Hp} (h : D.nx (σ.set i none) H) : (offs i D).nx σ H := h
theorem r_intB {k : Bool} {A : Int → Prop} {B : Bool → Prop} (h : B k) : (∃ i, [V.bl k] = [V.int i] ∧ A i) ∨ ∃ k', [V.bl k] = [V.bl k'] ∧ B k' := .inr ⟨k, rfl, h⟩
theorem r_iL {K : PySem.W.Frag} {tl : TE} {σ : St} {H : Hp} {R : It → Hp → Prop} (h : tl σ H fun x H1 => ∃ a, x = .ref a ∧ (∃ xs, SqL K H1 a xs) ∧ R (Itl K a) H1) : iSeq K tl σ H R := .inl h
theorem r_iT {K : PySem.W.Frag} {tl : TE} {σ : St} {H : Hp} {R : It → Hp → Prop} (h : tl σ H fun x H1 => ∃ a, x = .ref a ∧ (∃ xs, SqT K H1 a xs) ∧ R (Itt K a) H1) : iSeq K tl σ H R := .inr h
theorem r_gT {K : PySem.W.Frag} {n : Nat} {t : TGs} {a : Addr} {xs : List V} {σ : St} {H : Hp} {R : St → Hp → Prop} (s : SqT K H a xs) (l : xs.length = n) (h : t xs σ H R) : gSeq K n t (.ref a) σ H R := .inl ⟨a, xs, rfl, s, l, h⟩
theorem passE0 {P : Program} {w : World} {X : Cx} : Passes (CXE P w) X E0 := by
  rintro pins σ H s e s' I ⟨x, C, a0, B, H', _, _, _, _, _, _, _, _, _, _, q⟩
  exact q.elim
/-- a def that may be called within an except suite -/
structure CalQ (P : Program) (w : World) (K : PySem.W.Frag) (mg : Str → Option Value) (base : Heap) (x : Str) (k : Nat) (ps : List Str) (sp : Sp) : Prop where
  ex : ∃ f fd, FnOkQ P w K mg base k f fd ps sp ∧ mg x = some (.ref f) ∧ PySem.W.keepIn K (.ref f) = true ∧ Binds K fd ps []
/-- the classes of refusals, in the laws' order -/
structure Cls22 (mg : Str → Option Value) (cs : Nat → Addr) : Prop where
  NoNumber : mg "NoNumber" = some (.ref (cs 0))
  NoLiquor : mg "NoLiquor" = some (.ref (cs 1))
  NoStill : mg "NoStill" = some (.ref (cs 2))
  NoCut : mg "NoCut" = some (.ref (cs 3))
  NoPlan : mg "NoPlan" = some (.ref (cs 4))
  NoStep : mg "NoStep" = some (.ref (cs 5))
  NoCount : mg "NoCount" = some (.ref (cs 6))
  NoFine : mg "NoFine" = some (.ref (cs 7))
  NoCap : mg "NoCap" = some (.ref (cs 8))
  NoStrength : mg "NoStrength" = some (.ref (cs 9))
  NoHeads : mg "NoHeads" = some (.ref (cs 10))
  NoWeight : mg "NoWeight" = some (.ref (cs 11))
  NoDuty : mg "NoDuty" = some (.ref (cs 12))
  NoRules : mg "NoRules" = some (.ref (cs 13))
  NoDeed : mg "NoDeed" = some (.ref (cs 14))
  NoLedger : mg "NoLedger" = some (.ref (cs 15))
  NoTellings : mg "NoTellings" = some (.ref (cs 16))
  Fails : mg "Fails" = some (.ref (cs 17))
  NoDay : mg "NoDay" = some (.ref (cs 18))
  NoName : mg "NoName" = some (.ref (cs 19))
  NoEntry : mg "NoEntry" = some (.ref (cs 20))
  NoRow : mg "NoRow" = some (.ref (cs 21))
/-- what isinstance tells of the class of number i -/
structure One (K : PySem.W.Frag) (cs : Nat → Addr) (i : Nat) : Prop where
  exc : ExcC K (cs i)
  own : ∀ j, j < 22 → PySem.W.kitOne K (.ref (cs i)) (.ref (cs j)) = some (decide (j = i))
  ve : PySem.W.kitOne K (.ref (cs i)) (.type "ValueError") = some true
theorem r_isi {K : PySem.W.Frag} {H : Hp} {Q : VK} {x c : V} {t cv : Value} {b : Bool} (ty : TyE K H x t) (e : clsV c = some cv) (k : PySem.W.kitOne K t cv = some b) (h : Q (.bl b) H) : rIsi K [x, c] H Q := ⟨x, c, t, cv, b, rfl, ty, e, k, h⟩
theorem r_cat {K : PySem.W.Frag} {H : Hp} {Q : VK} {l b : Addr} {xs zs : List V} (e1 : H l = some (.lst xs)) (e2 : H b = some (.lst zs)) (hz : (xs.length + zs.length).ble 1000 = true) (h : ∀ p, H p = none → Q (.ref p) (upd H p (.lst (xs ++ zs)))) : rAddA K (.ref l) (.ref b) H Q :=
  .inr (.inl ⟨l, b, xs, zs, rfl, rfl, e1, e2, Nat.le_trans (Nat.le_of_ble_eq_true hz) (by decide), h⟩)
/-- plain data, at most n deep -/
inductive Pl : Nat → PyData → Prop
  | non (n : Nat) : Pl n .none
  | bool (n : Nat) (b : Bool) : Pl n (.bool b)
  | int (n : Nat) (i : Int) : Pl n (.int i)
  | str (n : Nat) (x : Str) : Pl n (.str x)
  | tup (n : Nat) (ds : List PyData) : ds.length ≤ 1000 → (∀ d ∈ ds, Pl n d) → Pl (n + 1) (.tuple ds)
theorem Same.lst {K : PySem.W.Frag} {H H' : Hp} {a : Addr} {xs : List V} (s : Same H H') (h : SqL K H a xs) : SqL K H' a xs := by
  rcases h with (r | ⟨o, r⟩) | r
  · exact .inl (.inl (s _ _ r))
  · exact .inl (.inr ⟨o, s _ _ r⟩)
  · exact .inr r
mutual
theorem Dp.same {K : PySem.W.Frag} {H H' : Hp} (s : Same H H') : ∀ (d : PyData) (v : V), Dp K H v d → Dp K H' v d
  | .none, _, h => by cases h; exact .non
  | .bool b, _, h => by cases h; exact .bl b
  | .int i, _, h => by cases h; exact .int i
  | .str x, _, h => by cases h; exact .str x
  | .list ds, _, h => by
    cases h with
    | lst q a => exact .lst (s.lst q) (DpAll.same s ds _ a)
  | .tuple ds, _, h => by
    cases h with
    | tup q a => exact .tup (s.tup q) (DpAll.same s ds _ a)
  | .dict _, _, h => by cases h
theorem DpAll.same {K : PySem.W.Frag} {H H' : Hp} (s : Same H H') : ∀ (ds : List PyData) (vs : List V), DpAll K H vs ds → DpAll K H' vs ds
  | [], _, h => by cases h; exact .nil
  | d :: ds, _, h => by
    cases h with
    | cons a b => exact .cons (Dp.same s d _ a) (DpAll.same s ds _ b)
end
theorem DpAll.length {K : PySem.W.Frag} {H : Hp} : ∀ {vs : List V} {ds : List PyData}, DpAll K H vs ds → vs.length = ds.length
  | _, _, .nil => rfl
  | _, _, .cons _ t => by rw [List.length_cons, List.length_cons, DpAll.length t]
theorem DpAll.at {K : PySem.W.Frag} {H : Hp} : ∀ {vs : List V} {ds : List PyData} (i : Nat), DpAll K H vs ds → i < ds.length → ∃ v d, vs[i]? = some v ∧ ds[i]? = some d ∧ d ∈ ds ∧ Dp K H v d
  | _, _, i, .nil, h => by simp at h
  | _, _, 0, .cons a t, h => ⟨_, _, rfl, rfl, List.mem_cons_self, a⟩
  | _, _, i + 1, .cons a t, h => by
    obtain ⟨v, d, e1, e2, m, q⟩ := DpAll.at i t (by simpa using h)
    exact ⟨v, d, by simpa using e1, by simpa using e2, List.mem_cons_of_mem _ m, q⟩
/-- an own class of exceptions -/
structure ExcK (K : PySem.W.Frag) (mg : Str → Option Value) (x : Str) (C : Addr) : Prop where
  mg : mg x = some (.ref C)
  ex : PySem.W.excIn K C veM "ValueError.__new__" = true
theorem isi_NoneType_bool {K : PySem.W.Frag} : PySem.W.kitOne K (.type "NoneType") (.type "bool") = some false := by kernel_rfl
theorem isi_NoneType_int {K : PySem.W.Frag} : PySem.W.kitOne K (.type "NoneType") (.type "int") = some false := by kernel_rfl
theorem isi_NoneType_str {K : PySem.W.Frag} : PySem.W.kitOne K (.type "NoneType") (.type "str") = some false := by kernel_rfl
theorem isi_NoneType_tuple {K : PySem.W.Frag} : PySem.W.kitOne K (.type "NoneType") (.type "tuple") = some false := by kernel_rfl
theorem isi_bool_bool {K : PySem.W.Frag} : PySem.W.kitOne K (.type "bool") (.type "bool") = some true := by kernel_rfl
theorem isi_bool_int {K : PySem.W.Frag} : PySem.W.kitOne K (.type "bool") (.type "int") = some true := by kernel_rfl
theorem isi_bool_str {K : PySem.W.Frag} : PySem.W.kitOne K (.type "bool") (.type "str") = some false := by kernel_rfl
theorem isi_bool_tuple {K : PySem.W.Frag} : PySem.W.kitOne K (.type "bool") (.type "tuple") = some false := by kernel_rfl
theorem isi_int_bool {K : PySem.W.Frag} : PySem.W.kitOne K (.type "int") (.type "bool") = some false := by kernel_rfl
theorem isi_int_int {K : PySem.W.Frag} : PySem.W.kitOne K (.type "int") (.type "int") = some true := by kernel_rfl
theorem isi_int_str {K : PySem.W.Frag} : PySem.W.kitOne K (.type "int") (.type "str") = some false := by kernel_rfl
theorem isi_int_list {K : PySem.W.Frag} : PySem.W.kitOne K (.type "int") (.type "list") = some false := by kernel_rfl
theorem isi_int_tuple {K : PySem.W.Frag} : PySem.W.kitOne K (.type "int") (.type "tuple") = some false := by kernel_rfl
theorem isi_str_bool {K : PySem.W.Frag} : PySem.W.kitOne K (.type "str") (.type "bool") = some false := by kernel_rfl
theorem isi_str_int {K : PySem.W.Frag} : PySem.W.kitOne K (.type "str") (.type "int") = some false := by kernel_rfl
theorem isi_str_str {K : PySem.W.Frag} : PySem.W.kitOne K (.type "str") (.type "str") = some true := by kernel_rfl
theorem isi_str_list {K : PySem.W.Frag} : PySem.W.kitOne K (.type "str") (.type "list") = some false := by kernel_rfl
theorem isi_str_tuple {K : PySem.W.Frag} : PySem.W.kitOne K (.type "str") (.type "tuple") = some false := by kernel_rfl
theorem isi_list_bool {K : PySem.W.Frag} : PySem.W.kitOne K (.type "list") (.type "bool") = some false := by kernel_rfl
theorem isi_list_int {K : PySem.W.Frag} : PySem.W.kitOne K (.type "list") (.type "int") = some false := by kernel_rfl
theorem isi_list_str {K : PySem.W.Frag} : PySem.W.kitOne K (.type "list") (.type "str") = some false := by kernel_rfl
theorem isi_list_list {K : PySem.W.Frag} : PySem.W.kitOne K (.type "list") (.type "list") = some true := by kernel_rfl
theorem isi_list_tuple {K : PySem.W.Frag} : PySem.W.kitOne K (.type "list") (.type "tuple") = some false := by kernel_rfl
theorem isi_tuple_bool {K : PySem.W.Frag} : PySem.W.kitOne K (.type "tuple") (.type "bool") = some false := by kernel_rfl
theorem isi_tuple_int {K : PySem.W.Frag} : PySem.W.kitOne K (.type "tuple") (.type "int") = some false := by kernel_rfl
theorem isi_tuple_str {K : PySem.W.Frag} : PySem.W.kitOne K (.type "tuple") (.type "str") = some false := by kernel_rfl
theorem isi_tuple_list {K : PySem.W.Frag} : PySem.W.kitOne K (.type "tuple") (.type "list") = some false := by kernel_rfl
theorem isi_tuple_tuple {K : PySem.W.Frag} : PySem.W.kitOne K (.type "tuple") (.type "tuple") = some true := by kernel_rfl
theorem isi_dict_bool {K : PySem.W.Frag} : PySem.W.kitOne K (.type "dict") (.type "bool") = some false := by kernel_rfl
theorem isi_dict_int {K : PySem.W.Frag} : PySem.W.kitOne K (.type "dict") (.type "int") = some false := by kernel_rfl
theorem isi_dict_str {K : PySem.W.Frag} : PySem.W.kitOne K (.type "dict") (.type "str") = some false := by kernel_rfl
theorem isi_dict_list {K : PySem.W.Frag} : PySem.W.kitOne K (.type "dict") (.type "list") = some false := by kernel_rfl
theorem isi_dict_tuple {K : PySem.W.Frag} : PySem.W.kitOne K (.type "dict") (.type "tuple") = some false := by kernel_rfl
def rLenA (K : PySem.W.Frag) : List V → Hp → VK → Prop := fun xs H Q => (∃ p ys, xs = [.ref p] ∧ (SqL K H p ys ∨ SqT K H p ys) ∧ Q (.int ys.length) H) ∨ ∃ z, xs = [.str z] ∧ z.length ≤ sizeLine ∧ Q (.int z.length) H
theorem callLen {X : Cx} : CallR X (.builtin "len") (rLenA X.K) := CallR.or call_len_seq call_len_str
theorem r_lenL {K : PySem.W.Frag} {H : Hp} {Q : VK} {a : Addr} {ys : List V} (s : SqL K H a ys) (h : Q (.int ys.length) H) : rLenA K [.ref a] H Q := .inl ⟨a, ys, rfl, .inl s, h⟩
theorem r_lenT {K : PySem.W.Frag} {H : Hp} {Q : VK} {a : Addr} {ys : List V} (s : SqT K H a ys) (h : Q (.int ys.length) H) : rLenA K [.ref a] H Q := .inl ⟨a, ys, rfl, .inr s, h⟩
theorem r_sl {σ : St} {H : Hp} {Q : VK} {r : V → Option Int → Option Int → Hp → VK → Prop} {te : TE} {tl th : TO} (h : te σ H fun x H1 => tl σ H1 fun l H2 => th σ H2 fun u H3 => r x l u H3 Q) : tSl r te tl th σ H Q := h
theorem r_nopart {σ : St} {H : Hp} {Q : Option Int → Hp → Prop} (h : Q none H) : tNoPart σ H Q := h
theorem r_part {σ : St} {H : Hp} {Q : Option Int → Hp → Prop} {t : TE} (h : t σ H fun x H1 => ∃ i, x = .int i ∧ Q (some i) H1) : tPart t σ H Q := h
theorem r_sum {K : PySem.W.Frag} {H : Hp} {Q : VK} {a : Addr} {ns : List Int} (s : SqL K H a (ns.map V.int)) (h : Q (.int ns.sum) H) : rSum K [.ref a] H Q := ⟨a, ns, rfl, s, h⟩
theorem r_pow {H : Hp} {Q : VK} {i j : Int} (c : CPow i j) (h : Q (.int (i ^ j.toNat)) H) : rI CPow (fun i j => .int (i ^ j.toNat)) (.int i) (.int j) H Q := ⟨i, j, rfl, rfl, c, h⟩
theorem cutV_ints (ns : List Int) (lo hi : Option Int) : ∃ ms : List Int, cutV (ns.map V.int) lo hi = ms.map V.int :=
  ⟨(ns.drop (HT.sIx ns.length 0 lo)).take (HT.sIx ns.length ns.length hi - HT.sIx ns.length 0 lo), by unfold cutV; simp [List.map_take, List.map_drop]⟩
/-! ### argument lists, by the first argument's kind (no unfolding where they are used) -/
section
variable {X : Cx} {es : List Expr} {te : TE} {t : TA}
theorem pa_Constant {c k p} (ha : PE X (.Constant c k p) te) (hr : PA X es t) : PA X (.Constant c k p :: es) (tCons te t) := pa_cons ha hr rfl
theorem pa_Name {c p} (ha : PE X (.Name c p) te) (hr : PA X es t) : PA X (.Name c p :: es) (tCons te t) := pa_cons ha hr rfl
theorem pa_Call {a b c p} (ha : PE X (.Call a b c p) te) (hr : PA X es t) : PA X (.Call a b c p :: es) (tCons te t) := pa_cons ha hr rfl
theorem pa_BinOp {a b c p} (ha : PE X (.BinOp a b c p) te) (hr : PA X es t) : PA X (.BinOp a b c p :: es) (tCons te t) := pa_cons ha hr rfl
theorem pa_Tuple {a b p} (ha : PE X (.Tuple a b p) te) (hr : PA X es t) : PA X (.Tuple a b p :: es) (tCons te t) := pa_cons ha hr rfl
theorem pa_List {a p} (ha : PE X (.List a p) te) (hr : PA X es t) : PA X (.List a p :: es) (tCons te t) := pa_cons ha hr rfl
theorem pa_Subscript {a b p} (ha : PE X (.Subscript a b p) te) (hr : PA X es t) : PA X (.Subscript a b p :: es) (tCons te t) := pa_cons ha hr rfl
theorem pa_ListComp {a b c p} (ha : PE X (.ListComp a b c p) te) (hr : PA X es t) : PA X (.ListComp a b c p :: es) (tCons te t) := pa_cons ha hr rfl
end
/-! ### a display of constants -/
def tK (vs : List V) : TA := fun _ H Q => Q vs H
theorem r_K {vs : List V} {σ : St} {H : Hp} {R : List V → Hp → Prop} (h : R vs H) : tK vs σ H R := h
/-! ### name = value, by the value's kind -/
section
variable {X : Cx} {te : TE} {i : Nat} {x : Str} {pos' pos : Pos}
theorem ps_set_Constant {c k p} (hN : X.N.Nodup) (hi : X.N[i]? = some x) (hx : Loc X.env.scope x) (ha : PE X (.Constant c k p) te) (hf : X.fn x = true ∨ X.env.scope.names.lookup x = some .local := by first | exact .inl rfl | exact .inr rfl | assumption) : PS X (.Assign [.Name x pos'] (.Constant c k p) pos) (tAsg te (gName i)) := ps_set hN hi hx ha rfl hf
theorem ps_set_Call {a b c p} (hN : X.N.Nodup) (hi : X.N[i]? = some x) (hx : Loc X.env.scope x) (ha : PE X (.Call a b c p) te) (hf : X.fn x = true ∨ X.env.scope.names.lookup x = some .local := by first | exact .inl rfl | exact .inr rfl | assumption) : PS X (.Assign [.Name x pos'] (.Call a b c p) pos) (tAsg te (gName i)) := ps_set hN hi hx ha rfl hf
theorem ps_set_BinOp {a b c p} (hN : X.N.Nodup) (hi : X.N[i]? = some x) (hx : Loc X.env.scope x) (ha : PE X (.BinOp a b c p) te) (hf : X.fn x = true ∨ X.env.scope.names.lookup x = some .local := by first | exact .inl rfl | exact .inr rfl | assumption) : PS X (.Assign [.Name x pos'] (.BinOp a b c p) pos) (tAsg te (gName i)) := ps_set hN hi hx ha rfl hf
theorem ps_set_UnaryOp {a b p} (hN : X.N.Nodup) (hi : X.N[i]? = some x) (hx : Loc X.env.scope x) (ha : PE X (.UnaryOp a b p) te) (hf : X.fn x = true ∨ X.env.scope.names.lookup x = some .local := by first | exact .inl rfl | exact .inr rfl | assumption) : PS X (.Assign [.Name x pos'] (.UnaryOp a b p) pos) (tAsg te (gName i)) := ps_set hN hi hx ha rfl hf
theorem ps_set_Tuple {a b p} (hN : X.N.Nodup) (hi : X.N[i]? = some x) (hx : Loc X.env.scope x) (ha : PE X (.Tuple a b p) te) (hf : X.fn x = true ∨ X.env.scope.names.lookup x = some .local := by first | exact .inl rfl | exact .inr rfl | assumption) : PS X (.Assign [.Name x pos'] (.Tuple a b p) pos) (tAsg te (gName i)) := ps_set hN hi hx ha rfl hf
theorem ps_set_List {a p} (hN : X.N.Nodup) (hi : X.N[i]? = some x) (hx : Loc X.env.scope x) (ha : PE X (.List a p) te) (hf : X.fn x = true ∨ X.env.scope.names.lookup x = some .local := by first | exact .inl rfl | exact .inr rfl | assumption) : PS X (.Assign [.Name x pos'] (.List a p) pos) (tAsg te (gName i)) := ps_set hN hi hx ha rfl hf
theorem ps_set_Subscript {a b p} (hN : X.N.Nodup) (hi : X.N[i]? = some x) (hx : Loc X.env.scope x) (ha : PE X (.Subscript a b p) te) (hf : X.fn x = true ∨ X.env.scope.names.lookup x = some .local := by first | exact .inl rfl | exact .inr rfl | assumption) : PS X (.Assign [.Name x pos'] (.Subscript a b p) pos) (tAsg te (gName i)) := ps_set hN hi hx ha rfl hf
end
/-! ### the same rules, over a named K (within comprehensions) -/
section
variable {X : Cx} {K : PySem.W.Frag}
theorem ixS (h : X.K = K := by rfl) : IxR X (rIx K) := by subst h; exact ix_seq
theorem opAddS (h : X.K = K := by rfl) : OpR X (binaryOp .Add) (rAddA K) := by subst h; exact opAdd
theorem opEqS (hu : X.A.units + 64 < cLine) (h : X.K = K := by rfl) : OpR X (compareOp .Eq) (rEqA K) := by subst h; exact opEq hu
theorem opNeS (hu : X.A.units + 64 < cLine) (h : X.K = K := by rfl) : OpR X (compareOp .NotEq) (rNeA K) := by subst h; exact opNe hu
theorem pg_seqS {es : List Expr} {k : Nat} {t : TGs} {n : Nat} {pos : Pos} (hc : X.calm = true) (hs : PGs X es t) (h : X.K = K := by rfl)
    (hn : (assignEach es X.env).length = n := by rfl) (hst : (assignEach es X.env).findIdx? (·.1) = none := by rfl) : PG X (.Tuple es k pos) (gSeq K n t) := by subst h; exact pg_seq hc hs hn hst
theorem pi_seqS {l tg : Expr} {tl : TE} (hl : PE X l tl) (h : X.K = K := by rfl) : PI X tg l (iSeq K tl) := by subst h; exact pi_seq hl
theorem callLenS (h : X.K = K := by rfl) : CallR X (.builtin "len") (rLenA K) := by subst h; exact callLen
theorem call_isiS (h : X.K = K := by rfl) : CallR X (.builtin "isinstance") (rIsi K) := by subst h; exact call_isi
theorem cr_allS (hc : X.calm = true) (h : X.K = K := by rfl) : CallR X (.builtin "all") (rAll K) := by subst h; exact cr_all hc
theorem cr_sumS (hc : X.calm = true) (h : X.K = K := by rfl) : CallR X (.builtin "sum") (rSum K) := by subst h; exact cr_sum hc
def rTupOf (K : PySem.W.Frag) : List V → Hp → VK → Prop := fun xs H Q => ∃ p ys, xs = [.ref p] ∧ ((SqL K H p ys ∧ ∀ l, H l = none → Q (.ref l) (upd H l (.tup ys))) ∨ (SqT K H p ys ∧ Q (.ref p) H))
theorem call_tupS (h : X.K = K := by rfl) : CallR X (.type "tuple") (rTupOf K) := by subst h; exact call_tuple_of
end
end L2

set_option Elab.async false
set_option linter.all false
set_option maxRecDepth 100000
namespace L2
open PySem PySem.Spec PyProof.Rows
/-! ### what stays: all but tables (they grow) and, if one is named, what stands at one place -/
def nt : HO → Bool
  | .tbl _ => false
  | _ => true
def isT : HO → Bool
  | .tup _ => true
  | .frz _ _ => true
  | _ => false
def stays : Option Addr → Addr → HO → Bool
  | none, _, o => nt o
  | some p, b, o => nt o && (b != p || isT o)
theorem nt_of {o : HO} (h : isT o = true) : nt o = true := by cases o <;> first | rfl | cases h
theorem stays_isT {q : Option Addr} {b : Addr} {o : HO} (h : isT o = true) : stays q b o = true := by
  cases q with
  | none => exact nt_of h
  | some p => show (nt o && (b != p || isT o)) = true; rw [nt_of h, h]; simp
theorem stays_nt {q : Option Addr} {b : Addr} {o : HO} (h : stays q b o = true) : nt o = true := by
  cases q with
  | none => exact h
  | some p => exact (Bool.and_eq_true _ _ ▸ h : _ ∧ _).1
theorem stays_ne {p b : Addr} {o : HO} (h : nt o = true) (hb : b ≠ p) : stays (some p) b o = true := by
  show (nt o && (b != p || isT o)) = true
  rw [h]; simp [hb]
def Ch (q : Option Addr) (H H' : Hp) : Prop := (∀ b o, H b = some o → stays q b o = true → H' b = some o) ∧ ∀ b, H' b = none → H b = none
theorem Ch.refl {q : Option Addr} (H : Hp) : Ch q H H := ⟨fun _ _ e _ => e, fun _ e => e⟩
theorem Ch.trans {q : Option Addr} {H H1 H2 : Hp} (a : Ch q H H1) (b : Ch q H1 H2) : Ch q H H2 := ⟨fun c o e s => b.1 c o (a.1 c o e s) s, fun c e => a.2 c (b.2 c e)⟩
theorem Ch.weak {q : Option Addr} {H H' : Hp} (a : Ch none H H') : Ch q H H' := ⟨fun b o e s => a.1 b o e (stays_nt s), a.2⟩
theorem Ch.new {q : Option Addr} {H : Hp} {p : Addr} {o : HO} (n : H p = none) : Ch q H (upd H p o) := ⟨fun b u e _ => by rw [upd_ne (ne_of_none e n)]; exact e, fun b e => by
  by_cases hb : b = p
  · subst hb; exact n
  · rw [upd_ne hb] at e; exact e⟩
theorem Ch.at {H : Hp} {p : Addr} {xs ys : List V} (e : H p = some (.lst xs)) : Ch (some p) H (upd H p (.lst ys)) := ⟨fun b u eb s => by
  by_cases hb : b = p
  · subst hb
    rw [e] at eb; cases eb
    simp [stays, nt, isT] at s
  · rw [upd_ne hb]; exact eb, fun b eb => by
  by_cases hb : b = p
  · subst hb; rw [upd_same] at eb; cases eb
  · rw [upd_ne hb] at eb; exact eb⟩
theorem Same.ch {q : Option Addr} {H H' : Hp} (s : Same H H') : Ch q H H' := ⟨fun b o e _ => s b o e, fun b e => by
  cases h : H b with
  | none => rfl
  | some o => rw [s b o h] at e; cases e⟩
theorem Ch.fr {q : Option Addr} {H H' : Hp} (a : Ch q H H') {b : Addr} (h : H' b = none) : H b = none := a.2 b h
/-- a place of the def's own is changed -/
theorem Ch.own {q : Option Addr} {H H1 H2 : Hp} {l : Addr} (b : Ch (some l) H1 H2) (n : H l = none) (a : Ch q H H1) : Ch q H H2 :=
  ⟨fun c o e s => b.1 c o (a.1 c o e s) (stays_ne (stays_nt s) (ne_of_none e n)), fun c e => a.2 c (b.2 c e)⟩
theorem Ch.step {q : Option Addr} {H H1 H2 : Hp} (b : Ch none H1 H2) (a : Ch q H H1) : Ch q H H2 := a.trans b.weak
theorem Ch.step' {q : Option Addr} {H H1 H2 : Hp} (b : Ch q H1 H2) (a : Ch q H H1) : Ch q H H2 := a.trans b
/-! ### data that never change -/
mutual
inductive Im (K : PySem.W.Frag) (H : Hp) : V → PyData → Prop
  | non : Im K H .non .none
  | bl (b : Bool) : Im K H (.bl b) (.bool b)
  | int (i : Int) : Im K H (.int i) (.int i)
  | str (x : Str) : Im K H (.str x) (.str x)
  | tup {a : Addr} {xs : List V} {ds : List PyData} : SqT K H a xs → ImAll K H xs ds → Im K H (.ref a) (.tuple ds)
  | lst {a : Addr} {o : Obj} {xs : List V} {ds : List PyData} : H a = some (.frz o (.lst xs)) → ImAll K H xs ds → Im K H (.ref a) (.list ds)
  | dct {a : Addr} {o : Obj} {kvs : List (Key × V)} {kds : List (PyData × PyData)} : H a = some (.frz o (.dK kvs)) → ImKv K H kvs kds → Im K H (.ref a) (.dict kds)
inductive ImAll (K : PySem.W.Frag) (H : Hp) : List V → List PyData → Prop
  | nil : ImAll K H [] []
  | cons {v : V} {vs : List V} {d : PyData} {ds : List PyData} : Im K H v d → ImAll K H vs ds → ImAll K H (v :: vs) (d :: ds)
inductive ImKv (K : PySem.W.Frag) (H : Hp) : List (Key × V) → List (PyData × PyData) → Prop
  | nil : ImKv K H [] []
  | cons {k : Key} {v : V} {kvs : List (Key × V)} {c d : PyData} {ds : List (PyData × PyData)} : Im K H (kV k) c → Im K H v d → ImKv K H kvs ds → ImKv K H ((k, v) :: kvs) ((c, d) :: ds)
end
section
variable {K : PySem.W.Frag} {H H' : Hp} {q : Option Addr}
theorem SqT.ch {a : Addr} {xs : List V} (c : Ch q H H') (h : SqT K H a xs) : SqT K H' a xs := by
  rcases h with (r | ⟨o, r⟩) | r
  · exact .inl (.inl (c.1 _ _ r (stays_isT rfl)))
  · exact .inl (.inr ⟨o, c.1 _ _ r (stays_isT rfl)⟩)
  · exact .inr r
theorem Ch.frz {a : Addr} {o : Obj} {u : HO} (c : Ch q H H') (e : H a = some (.frz o u)) : H' a = some (.frz o u) := c.1 _ _ e (stays_isT rfl)
mutual
theorem Im.chA (c : Ch q H H') : ∀ (d : PyData) (v : V), Im K H v d → Im K H' v d
  | _, _, .non => .non
  | _, _, .bl b => .bl b
  | _, _, .int b => .int b
  | _, _, .str b => .str b
  | _, _, .tup s a => .tup (s.ch c) (ImAll.chA c _ _ a)
  | _, _, .lst s a => .lst (c.frz s) (ImAll.chA c _ _ a)
  | _, _, .dct s a => .dct (c.frz s) (ImKv.chA c _ _ a)
theorem ImAll.chA (c : Ch q H H') : ∀ (ds : List PyData) (vs : List V), ImAll K H vs ds → ImAll K H' vs ds
  | _, _, .nil => .nil
  | _, _, .cons a b => .cons (Im.chA c _ _ a) (ImAll.chA c _ _ b)
theorem ImKv.chA (c : Ch q H H') : ∀ (ds : List (PyData × PyData)) (vs : List (Key × V)), ImKv K H vs ds → ImKv K H' vs ds
  | _, _, .nil => .nil
  | _, _, .cons k a b => .cons (Im.chA c _ _ k) (Im.chA c _ _ a) (ImKv.chA c _ _ b)
end
theorem Im.ch {v : V} {d : PyData} (c : Ch q H H') (h : Im K H v d) : Im K H' v d := Im.chA c d v h
theorem ImAll.ch {vs : List V} {ds : List PyData} (c : Ch q H H') (h : ImAll K H vs ds) : ImAll K H' vs ds := ImAll.chA c ds vs h
mutual
theorem Im.dpA : ∀ (d : PyData) (v : V), d.canLay0 = true → Im K H v d → Dp K H v d
  | _, _, _, .non => .non
  | _, _, _, .bl b => .bl b
  | _, _, _, .int b => .int b
  | _, _, _, .str b => .str b
  | _, _, z, .tup s a => .tup s (ImAll.dpA _ _ (by simpa [PyData.canLay0] using z) a)
  | _, _, z, .lst s a => .lst (.inl (.inr ⟨_, s⟩)) (ImAll.dpA _ _ (by simpa [PyData.canLay0] using z) a)
  | _, _, z, .dct s a => by simp [PyData.canLay0] at z
theorem ImAll.dpA : ∀ (ds : List PyData) (vs : List V), PyData.canLayAll0 ds = true → ImAll K H vs ds → DpAll K H vs ds
  | _, _, _, .nil => .nil
  | _, _, z, .cons a b => .cons (Im.dpA _ _ (by simp [PyData.canLayAll0] at z; exact z.1) a) (ImAll.dpA _ _ (by simp [PyData.canLayAll0] at z; exact z.2) b)
end
theorem Im.dp {v : V} {d : PyData} (h : Im K H v d) (z : d.canLay0 = true) : Dp K H v d := Im.dpA d v z h
theorem ImAll.length : ∀ {vs : List V} {ds : List PyData}, ImAll K H vs ds → vs.length = ds.length
  | _, _, .nil => rfl
  | _, _, .cons _ b => by rw [List.length_cons, List.length_cons, ImAll.length b]
theorem ImAll.at : ∀ {vs : List V} {ds : List PyData} {i : Nat} {d : PyData}, ImAll K H vs ds → ds[i]? = some d → ∃ v, vs[i]? = some v ∧ Im K H v d
  | _, _, 0, d, .cons a b, e => by cases e; exact ⟨_, rfl, a⟩
  | _, _, i + 1, d, .cons a b, e => ImAll.at b (i := i) e
theorem ImAll.append {vs us : List V} {ds es : List PyData} (h : ImAll K H vs ds) (h' : ImAll K H us es) : ImAll K H (vs ++ us) (ds ++ es) := by
  induction vs generalizing ds with
  | nil => cases h; exact h'
  | cons v vs ih => cases h with | cons a b => exact .cons a (ih b)
theorem ImAll.snoc {vs : List V} {ds : List PyData} {v : V} {d : PyData} (h : ImAll K H vs ds) (h' : Im K H v d) : ImAll K H (vs ++ [v]) (ds ++ [d]) := h.append (.cons h' .nil)
theorem ImAll.drop : ∀ {vs : List V} {ds : List PyData} (n : Nat), ImAll K H vs ds → ImAll K H (vs.drop n) (ds.drop n)
  | _, _, 0, h => h
  | _, _, _ + 1, .nil => .nil
  | _, _, n + 1, .cons _ b => ImAll.drop n b
theorem ImAll.take : ∀ {vs : List V} {ds : List PyData} (n : Nat), ImAll K H vs ds → ImAll K H (vs.take n) (ds.take n)
  | _, _, 0, _ => .nil
  | _, _, _ + 1, .nil => .nil
  | _, _, n + 1, .cons a b => .cons a (ImAll.take n b)
theorem ImAll.ints : ∀ (ns : List Int), ImAll K H (ns.map V.int) (ns.map PyData.int)
  | [] => .nil
  | n :: ns => .cons (.int n) (ImAll.ints ns)
theorem ImAll.mem : ∀ {vs : List V} {ds : List PyData} {v : V}, ImAll K H vs ds → v ∈ vs → ∃ d ∈ ds, Im K H v d
  | _, _, v, .cons a b, hv => by
    rcases List.mem_cons.mp hv with rfl | hv
    · exact ⟨_, List.mem_cons_self, a⟩
    · obtain ⟨d, hd, h⟩ := ImAll.mem b hv
      exact ⟨d, List.mem_cons_of_mem _ hd, h⟩
/-- the value itself, where the data tell it -/
def vOf : PyData → V → V
  | .none, _ => .non
  | .bool b, _ => .bl b
  | .int i, _ => .int i
  | .str x, _ => .str x
  | _, u => u
theorem Im.vOf {u : V} {d : PyData} (h : Im K H u d) : vOf d u = u := by cases h <;> rfl
theorem Im.vo {u : V} {d : PyData} (h : Im K H u d) : Im K H (L2.vOf d u) d := by rw [h.vOf]; exact h
theorem Im.int_eq {u : V} {i : Int} (h : Im K H u (.int i)) : u = .int i := by cases h; rfl
theorem Im.bool_eq {u : V} {i : Bool} (h : Im K H u (.bool i)) : u = .bl i := by cases h; rfl
theorem Im.ref {u : V} {ds : List PyData} (h : Im K H u (.tuple ds)) : ∃ a xs, u = .ref a ∧ SqT K H a xs ∧ ImAll K H xs ds := by cases h with | tup s a => exact ⟨_, _, rfl, s, a⟩
theorem Im.mk {p : Addr} {xs : List V} {ds : List PyData} (n : H p = none) (h : ImAll K H xs ds) : Im K (L2.upd H p (.tup xs)) (.ref p) (.tuple ds) := .tup (.inl (.inl upd_same)) (h.ch (Ch.new (q := none) n))
end
theorem ImAll.atI {K : PySem.W.Frag} {H : Hp} {vs : List V} {ds : List PyData} {i : Int} {d : PyData} (h : ImAll K H vs ds) (e : L2.atI ds i = some d) : ∃ v, L2.atI vs i = some v ∧ Im K H v d := by
  unfold L2.atI at *
  rw [h.length]
  cases hj : ixN ds.length i with
  | none => rw [hj] at e; cases e
  | some j => rw [hj] at e; exact h.at e
/-! ### readings over them -/
section
variable {K : PySem.W.Frag} {H : Hp} {Q : VK} {v : V} {ds : List PyData} {i : Int}
theorem i_ix {d : PyData} (h : Im K H v (.tuple ds)) (e : atI ds i = some d) (k : ∀ u, Im K H (vOf d u) d → Q (vOf d u) H) : rIx K v (.int i) H Q := by
  obtain ⟨a, xs, rfl, s, al⟩ := h.ref
  obtain ⟨u, e', hu⟩ := al.atI e
  refine r_ixT s e' ?_
  have := k u (by rw [hu.vOf]; exact hu)
  rwa [hu.vOf] at this
theorem i_len (h : Im K H v (.tuple ds)) (k : Q (.int ds.length) H) : rLenA K [v] H Q := by
  obtain ⟨a, xs, rfl, s, al⟩ := h.ref
  refine r_lenT s ?_
  rw [al.length]; exact k
def NewT (H : Hp) (xs : List V) (Q : VK) : Prop := ∀ p, H p = none → Q (.ref p) (upd H p (.tup xs))
def NewL (H : Hp) (xs : List V) (Q : VK) : Prop := ∀ p, H p = none → Q (.ref p) (upd H p (.lst xs))
theorem r_tupN {tl : TA} {σ : St} (h : tl σ H fun xs H1 => xs.length ≤ sizeLine ∧ NewT H1 xs Q) : tTup tl σ H Q := h
theorem r_lstN {tl : TA} {σ : St} (h : tl σ H fun xs H1 => xs.length ≤ sizeLine ∧ NewL H1 xs Q) : tLst tl σ H Q := h
theorem i_tup {x qual : Str} {st : Stmt} {f : Addr} {fd : FuncData} {xs : List V} (_ : Fun K x qual st f fd) (l : xs.length.ble 1000 = true) (h : ImAll K H xs ds) (k : ∀ p H', H p = none → Ch none H H' → Im K H' (.ref p) (.tuple ds) → Q (.ref p) H') : xs.length ≤ sizeLine ∧ NewT H xs Q :=
  ⟨Nat.le_trans (Nat.le_of_ble_eq_true l) (by decide), fun p hp => k p _ hp (Ch.new hp) (Im.mk hp h)⟩
theorem i_tupR {xs : List V} (l : xs.length.ble 1000 = true) (k : ∀ p H', H p = none → Ch none H H' → H' p = some (.tup xs) → Q (.ref p) H') : xs.length ≤ sizeLine ∧ NewT H xs Q :=
  ⟨Nat.le_trans (Nat.le_of_ble_eq_true l) (by decide), fun p hp => k p _ hp (Ch.new hp) upd_same⟩
theorem i_lst {xs : List V} (l : xs.length.ble 1000 = true) (k : ∀ p H', H p = none → Ch none H H' → H' p = some (.lst xs) → Q (.ref p) H') : xs.length ≤ sizeLine ∧ NewL H xs Q :=
  ⟨Nat.le_trans (Nat.le_of_ble_eq_true l) (by decide), fun p hp => k p _ hp (Ch.new hp) upd_same⟩
theorem i_gtup {n : Nat} {t : TGs} {σ : St} {R : St → Hp → Prop} (h : Im K H v (.tuple ds)) (hn : ds.length = n) (k : ∀ xs, ImAll K H xs ds → t xs σ H R) : gSeq K n t v σ H R := by
  obtain ⟨a, xs, rfl, s, al⟩ := h.ref
  exact .inl ⟨a, xs, rfl, s, by rw [al.length, hn], k xs al⟩
theorem i_gtup2 {n : Nat} {t : TGs} {σ : St} {R : St → Hp → Prop} {d1 d2 : PyData} (hn : n = 2) (h : Im K H v (.tuple [d1, d2])) (k : ∀ u1 u2, Im K H (vOf d1 u1) d1 → Im K H (vOf d2 u2) d2 → t [vOf d1 u1, vOf d2 u2] σ H R) : gSeq K n t v σ H R :=
  i_gtup h hn.symm fun xs al => by
    cases al with | cons a1 al => cases al with | cons a2 al => cases al; have := k _ _ a1.vo a2.vo; rwa [a1.vOf, a2.vOf] at this
theorem i_gtup3 {n : Nat} {t : TGs} {σ : St} {R : St → Hp → Prop} {d1 d2 d3 : PyData} (hn : n = 3) (h : Im K H v (.tuple [d1, d2, d3])) (k : ∀ u1 u2 u3, Im K H (vOf d1 u1) d1 → Im K H (vOf d2 u2) d2 → Im K H (vOf d3 u3) d3 → t [vOf d1 u1, vOf d2 u2, vOf d3 u3] σ H R) : gSeq K n t v σ H R :=
  i_gtup h hn.symm fun xs al => by
    cases al with | cons a1 al => cases al with | cons a2 al => cases al with | cons a3 al => cases al; have := k _ _ _ a1.vo a2.vo a3.vo; rwa [a1.vOf, a2.vOf, a3.vOf] at this
/-- what an Im is, for isinstance -/
def tyD : PyData → String
  | .none => "NoneType"
  | .bool _ => "bool"
  | .int _ => "int"
  | .str _ => "str"
  | .list _ => "list"
  | .tuple _ => "tuple"
  | .dict _ => "dict"
end
/-- a purse: three numbers, the second one from 0 on -/
theorem Purse.ch {H H' : Hp} {p : Addr} (c : Ch none H H') (h : Purse H p) : Purse H' p := let ⟨a, b, d, e, q⟩ := h; ⟨a, b, d, c.1 _ _ e rfl, q⟩
theorem Purse.chL {H H' : Hp} {p l : Addr} (c : Ch (some l) H H') (n : p ≠ l) (h : Purse H p) : Purse H' p := let ⟨a, b, d, e, q⟩ := h; ⟨a, b, d, c.1 _ _ e (stays_ne rfl n), q⟩
theorem Purse.ne {H : Hp} {p l : Addr} (h : Purse H p) (n : H l = none) : l ≠ p := fun z => by obtain ⟨ys, e⟩ := h.lst; rw [← z, n] at e; cases e
theorem Ch.ls {H H' : Hp} {l : Addr} {xs : List V} (c : Ch none H H') (e : H l = some (.lst xs)) : H' l = some (.lst xs) := c.1 _ _ e rfl
theorem Ch.lsP {H H' : Hp} {l p : Addr} {xs : List V} (c : Ch (some p) H H') (n : l ≠ p) (e : H l = some (.lst xs)) : H' l = some (.lst xs) := c.1 _ _ e (stays_ne rfl n)
theorem SqL.ch {K : PySem.W.Frag} {H H' : Hp} {a : Addr} {xs : List V} (c : Ch none H H') (h : SqL K H a xs) : SqL K H' a xs := by
  rcases h with (r | ⟨o, r⟩) | r
  · exact .inl (.inl (c.1 _ _ r rfl))
  · exact .inl (.inr ⟨o, c.1 _ _ r rfl⟩)
  · exact .inr r
/-! ### fractions, liquors as data -/
def dq (r : Rat) : PyData := .tuple [.int r.num, .int (r.den : Int)]
def dl (l : Rat × Rat) : PyData := .tuple [dq l.1, dq l.2]
theorem dq_of {p : Int × Int} {r : Rat} (h : p = fq r) : (PyData.tuple [.int p.1, .int p.2]) = dq r := by rw [h]; rfl
end L2

set_option Elab.async false
set_option linter.all false
set_option maxRecDepth 100000
namespace L2
open PySem PySem.Spec PyProof.Rows
theorem i_cat {K : PySem.W.Frag} {H : Hp} {Q : VK} {l b : Addr} {xs zs : List V} (e1 : H l = some (.lst xs)) (e2 : H b = some (.lst zs)) (hz : (xs.length + zs.length).ble 1000 = true) (h : ∀ p H', H p = none → Ch none H H' → H' p = some (.lst (xs ++ zs)) → Q (.ref p) H') : rAddA K (.ref l) (.ref b) H Q :=
  r_cat e1 e2 hz fun p hp => h p _ hp (Ch.new hp) upd_same
theorem atD_z {α : Type} {xs : List α} {i : Nat} {v : α} (h : xs[i]? = some v) : atI xs (0 + (i : Int)) = some v := by rw [Int.zero_add]; exact atI_nat h
theorem atD_int {α : Type} {xs : List α} {i : Int} (h0 : 0 ≤ i) (h1 : i < xs.length) : atI xs i = some (xs[i.toNat]'(by omega)) := by
  obtain ⟨j, rfl⟩ := Int.eq_ofNat_of_zero_le h0
  exact atI_nat (List.getElem?_eq_getElem (by omega))
section
variable {K : PySem.W.Frag} {H : Hp} {Q : VK} {E : XK}
/-! ### fractions -/
def spGcd : Sp := fun vs H Q _ => ∃ a b, vs = [.int a, .int b] ∧ Q (.int (Int.gcd a b : Nat)) H
theorem y_gcd {a b : Int} (h : Q (.int (Int.gcd a b : Nat)) H) : spGcd ([.int a, .int b] ++ []) H Q E := ⟨a, b, rfl, h⟩
def spFrac (K : PySem.W.Frag) (C : Addr) : Sp := fun vs H Q E => ∃ t b, vs = [.int t, .int b] ∧ Bd 400000 b ∧ (b = 0 → E (.ref C) none H) ∧ (b ≠ 0 → ∀ v H', Ch none H H' → Im K H' v (dq (Rat.divInt t b)) → Q v H')
theorem y_frac {C : Addr} {t b : Int} (hb : Bd 400000 b) (n : b ≠ 0) (k : ∀ v H', Ch none H H' → Im K H' v (dq (Rat.divInt t b)) → Q v H') : spFrac K C ([.int t, .int b] ++ []) H Q E := ⟨t, b, rfl, hb, fun z => absurd z n, fun _ => k⟩
def spAr (K : PySem.W.Frag) (g : Rat → Rat → Rat) : Sp := fun vs H Q _ => ∃ v1 v2 p q, vs = [v1, v2] ∧ Im K H v1 (dq p) ∧ Im K H v2 (dq q) ∧ FQ 400000 p ∧ FQ 400000 q ∧ ∀ v H', Ch none H H' → Im K H' v (dq (g p q)) → Q v H'
theorem y_ar {g : Rat → Rat → Rat} {v1 v2 : V} {p q : Rat} (h1 : Im K H v1 (dq p)) (h2 : Im K H v2 (dq q)) (f1 : FQ 400000 p) (f2 : FQ 400000 q) (k : ∀ v H', Ch none H H' → Im K H' v (dq (g p q)) → Q v H') : spAr K g ([v1, v2] ++ []) H Q E := ⟨v1, v2, p, q, rfl, h1, h2, f1, f2, k⟩
def spOver (K : PySem.W.Frag) (C : Addr) : Sp := fun vs H Q E => ∃ v1 v2 p q, vs = [v1, v2] ∧ Im K H v1 (dq p) ∧ Im K H v2 (dq q) ∧ FQ 400000 p ∧ FQ 400000 q ∧ (q = 0 → E (.ref C) none H) ∧ (q ≠ 0 → ∀ v H', Ch none H H' → Im K H' v (dq (p / q)) → Q v H')
theorem y_over {C : Addr} {v1 v2 : V} {p q : Rat} (h1 : Im K H v1 (dq p)) (h2 : Im K H v2 (dq q)) (f1 : FQ 400000 p) (f2 : FQ 400000 q) (n : q ≠ 0) (k : ∀ v H', Ch none H H' → Im K H' v (dq (p / q)) → Q v H') : spOver K C ([v1, v2] ++ []) H Q E := ⟨v1, v2, p, q, rfl, h1, h2, f1, f2, fun z => absurd z n, fun _ => k⟩
def spBelow (K : PySem.W.Frag) : Sp := fun vs H Q _ => ∃ v1 v2 p q, vs = [v1, v2] ∧ Im K H v1 (dq p) ∧ Im K H v2 (dq q) ∧ FQ 400000 p ∧ FQ 400000 q ∧ Q (.bl (decide (p < q))) H
theorem y_below {v1 v2 : V} {p q : Rat} (h1 : Im K H v1 (dq p)) (h2 : Im K H v2 (dq q)) (f1 : FQ 400000 p) (f2 : FQ 400000 q) (k : Q (.bl (decide (p < q))) H) : spBelow K ([v1, v2] ++ []) H Q E := ⟨v1, v2, p, q, rfl, h1, h2, f1, f2, k⟩
/-! ### the law's own -/
def spTake : Sp := fun vs H Q _ => ∃ p m, vs = [.ref p, .int m] ∧ Purse H p ∧ 0 < m ∧ m < 2 ^ 60 ∧ ∀ v H', 0 ≤ v → v < m → Ch (some p) H H' → Purse H' p → Q (.int v) H'
theorem y_take {p : Addr} {m : Int} (h : Purse H p) (m0 : 0 < m) (m1 : m < 2 ^ 60) (k : ∀ v H', 0 ≤ v → v < m → Ch (some p) H H' → Purse H' p → Q (.int v) H') : spTake ([.ref p, .int m] ++ []) H Q E := ⟨p, m, rfl, h, m0, m1, k⟩
def spCell (K : PySem.W.Frag) : Sp := fun vs H Q _ => ∃ (a : Addr) (ns : List Int) (k : Int), vs = [.ref a, .int k] ∧ SqL K H a (ns.map V.int) ∧ 0 ≤ k ∧ ∀ v H', Ch none H H' → Q (.int v) H'
def spPurse : Sp := fun vs H Q _ => ∃ c, vs = [.int c] ∧ ∀ p H', H p = none → Ch none H H' → Purse H' p → Q (.ref p) H'
def spLow (K : PySem.W.Frag) : Sp := fun vs H Q _ => ∃ t b, vs = [.int t, .int b] ∧ 0 < b ∧ Bd 400000 b ∧ ∀ v H', Ch none H H' → Im K H' v (dq (Rat.divInt t b)) → Q v H'
theorem y_low {t b : Int} (b0 : 0 < b) (hb : Bd 400000 b) (k : ∀ v H', Ch none H H' → Im K H' v (dq (Rat.divInt t b)) → Q v H') : spLow K ([.int t, .int b] ++ []) H Q E := ⟨t, b, rfl, b0, hb, k⟩
def spGreat : Sp := fun vs H Q _ => ∃ p g, vs = [.ref p, .int g] ∧ Purse H p ∧ 0 ≤ g ∧ g ≤ 20 ∧ ∀ n H', Bd 450 n → Ch (some p) H H' → Purse H' p → Q (.int n) H'
theorem y_great {p : Addr} {g : Int} (h : Purse H p) (g0 : 0 ≤ g) (g1 : g ≤ 20) (k : ∀ n H', Bd 450 n → Ch (some p) H H' → Purse H' p → Q (.int n) H') : spGreat ([.ref p, .int g] ++ []) H Q E := ⟨p, g, rfl, h, g0, g1, k⟩
def spP1 (b : Bool) : Sp := fun vs H Q _ => ∃ p, vs = [.ref p] ∧ Purse H p ∧ ∀ H', Ch (some p) H H' → Purse H' p → Q (.bl b) H'
theorem y_p1 {b : Bool} {p : Addr} (h : Purse H p) (k : ∀ H', Ch (some p) H H' → Purse H' p → Q (.bl b) H') : spP1 b ([.ref p] ++ []) H Q E := ⟨p, rfl, h, k⟩
def spLaw (K : PySem.W.Frag) : Sp := fun vs H Q _ => ∃ (a : Addr) (ns : List Int), vs = [.ref a] ∧ SqL K H a (ns.map V.int) ∧ ns.length ≤ 63 ∧ ∀ H', Q (.bl true) H'
end
/-! ### comprehensions, over data that never change -/
section
variable {K : PySem.W.Frag} {g : TG} {tt : TT} {te : TE} {vs : List Nat} {σ : St} {H1 : Hp} {D : Addr} {Qd : Hp → Prop}
/-- what a comprehension keeps: the list at D, what is changed (q), its data, how many -/
def CI (K : PySem.W.Frag) (q : Option Addr) (H1 : Hp) (D : Addr) (P : Nat → List PyData → Prop) (i : Nat) (H : Hp) : Prop :=
  ∃ us ds, H D = some (.lst us) ∧ ImAll K H us ds ∧ Ch q H1 H ∧ (∀ p, q = some p → Purse H p) ∧ ds.length = i ∧ P i ds
theorem CI.start {q : Option Addr} {P : Nat → List PyData → Prop} (hD : H1 D = none) (hp : ∀ p, q = some p → Purse H1 p) (h0 : P 0 []) : CI K q H1 D P 0 (upd H1 D (.lst [])) :=
  ⟨[], [], upd_same, .nil, Ch.new hD, fun p e => (hp p e).ch (Ch.new hD), rfl, h0⟩
/-- behind a turn -/
theorem CI.next {q : Option Addr} {P : Nat → List PyData → Prop} {i : Nat} {H H4 : Hp} {y : V} {d : PyData} {us : List V} {ds : List PyData} (hD : H1 D = none) (hp : ∀ p, q = some p → Purse H1 p) (hi : i < 1000)
    (e : H D = some (.lst us)) (al : ImAll K H us ds) (c : Ch q H1 H) (hl : ds.length = i) (c4 : Ch q H H4) (p4 : ∀ p, q = some p → Purse H4 p) (y4 : Im K H4 y d) (hP : P (i + 1) (ds ++ [d])) :
    ∃ acc, H4 D = some (.lst acc) ∧ acc.length < sizeLine ∧ CI K q H1 D P (i + 1) (upd H4 D (.lst (acc ++ [y]))) := by
  have ne : ∀ p, q = some p → D ≠ p := fun p e => (hp p e).ne hD
  have e4 : H4 D = some (.lst us) := by
    cases q with
    | none => exact c4.ls e
    | some p => exact c4.lsP (ne p rfl) e
  have ch : Ch (some D) H4 (upd H4 D (.lst (us ++ [y]))) := Ch.at e4
  refine ⟨us, e4, by rw [al.length, hl]; exact Nat.lt_trans hi (by decide), us ++ [y], ds ++ [d], upd_same, ((al.ch c4).snoc y4).ch ch, Ch.own ch hD (c.trans c4), fun p e => (p4 p e).chL ch (Ne.symm (ne p e)), by simp [hl], hP⟩
/-- one turn, whatever is walked -/
abbrev Turn1 (K : PySem.W.Frag) (g : TG) (tt : TT) (te : TE) (vs : List Nat) (σ : St) (q : Option Addr) (P : Nat → List PyData → Prop) (i : Nat) (H : Hp) (ds : List PyData) (x : V) : Prop :=
  ∀ (N : VK) (S : Hp → Prop), (∀ y H4 d, Im K H4 y d → Ch q H H4 → (∀ p, q = some p → Purse H4 p) → P (i + 1) (ds ++ [d]) → N y H4) →
    g x (wipe σ vs) H fun σ2 H2 => wipe σ2 vs = wipe σ vs ∧ tt σ2 H2 fun b H3 => if b = true then te σ2 H3 N else S H3
abbrev Turn0 (K : PySem.W.Frag) (g : TG) (tt : TT) (te : TE) (vs : List Nat) (σ : St) (P : Nat → List PyData → Prop) (i : Nat) (H : Hp) (ds : List PyData) (x : V) : Prop :=
  ∀ (N : VK) (S : Hp → Prop), (∀ y H4 d, Im K H4 y d → Ch none H H4 → P (i + 1) (ds ++ [d]) → N y H4) →
    g x (wipe σ vs) H fun σ2 H2 => wipe σ2 vs = wipe σ vs ∧ tt σ2 H2 fun b H3 => if b = true then te σ2 H3 N else S H3
abbrev TurnP (K : PySem.W.Frag) (g : TG) (tt : TT) (te : TE) (vs : List Nat) (σ : St) (p : Addr) (P : Nat → List PyData → Prop) (i : Nat) (H : Hp) (ds : List PyData) (x : V) : Prop :=
  ∀ (N : VK) (S : Hp → Prop), (∀ y H4 d, Im K H4 y d → Ch (some p) H H4 → Purse H4 p → P (i + 1) (ds ++ [d]) → N y H4) →
    g x (wipe σ vs) H fun σ2 H2 => wipe σ2 vs = wipe σ vs ∧ tt σ2 H2 fun b H3 => if b = true then te σ2 H3 N else S H3
theorem turn_step {q : Option Addr} {P : Nat → List PyData → Prop} {i : Nat} {H : Hp} {us : List V} {ds : List PyData} {x : V} (hD : H1 D = none) (hp : ∀ p, q = some p → Purse H1 p) (hi : i < 1000)
    (e : H D = some (.lst us)) (al : ImAll K H us ds) (c : Ch q H1 H) (hl : ds.length = i) (t : Turn1 K g tt te vs σ q P i H ds x) :
    g x (wipe σ vs) H fun σ2 H2 => wipe σ2 vs = wipe σ vs ∧ tt σ2 H2 fun b H3 => if b = true then te σ2 H3 fun y H4 => ∃ acc, H4 D = some (.lst acc) ∧ acc.length < sizeLine ∧ CI K q H1 D P (i + 1) (upd H4 D (.lst (acc ++ [y]))) else CI K q H1 D P (i + 1) H3 :=
  t _ _ fun _ _ _ y4 c4 p4 hP4 => CI.next hD hp hi e al c hl c4 p4 y4 hP4
def LcR (J : It) (g : TG) (tt : TT) (te : TE) (vs : List Nat) (σ : St) (H1 : Hp) (D : Addr) (Qd : Hp → Prop) : Prop :=
  ∃ W : Nat → Nat → Hp → Prop, (∃ m, W 0 m (upd H1 D (.lst []))) ∧ ∀ i m H, W i m H →
      (J.stop i H ∧ Qd H) ∨ (J.go i H ∧ ∃ Nx : Hp → Prop, (∀ H', Nx H' → ∃ m', m' < m ∧ W (i + 1) m' H') ∧ ∀ x H', J.yld i H x H' → g x (wipe σ vs) H' fun σ2 H2 => wipe σ2 vs = wipe σ vs ∧ tt σ2 H2 fun b H3 =>
        if b = true then te σ2 H3 fun y H4 => ∃ acc, H4 D = some (.lst acc) ∧ acc.length < sizeLine ∧ Nx (upd H4 D (.lst (acc ++ [y]))) else Nx H3)
theorem c_range {lo : Int} {n : Nat} (q : Option Addr) (P : Nat → List PyData → Prop) (hn : n ≤ 1000) (hD : H1 D = none) (hp : ∀ p, q = some p → Purse H1 p) (h0 : P 0 [])
    (hs : ∀ i H ds, i < n → Ch q H1 H → (∀ p, q = some p → Purse H p) → ds.length = i → P i ds → Turn1 K g tt te vs σ q P i H ds (.int (lo + i)))
    (hd : ∀ H us ds, H D = some (.lst us) → ImAll K H us ds → Ch q H1 H → (∀ p, q = some p → Purse H p) → ds.length = n → P n ds → Qd H) : LcR (Itr lo n) g tt te vs σ H1 D Qd := by
  refine lc_range (CI K q H1 D P) (CI.start hD hp h0) ?_ ?_
  · rintro i H hi ⟨us, ds, e, al, c, pp, hl, hP⟩
    exact turn_step hD hp (by omega) e al c hl (hs i H ds hi c pp hl hP)
  · rintro H ⟨us, ds, e, al, c, pp, hl, hP⟩
    exact hd H us ds e al c pp hl hP
theorem c_tup {a : Addr} {xs : List V} {es : List PyData} (q : Option Addr) (P : Nat → List PyData → Prop) (hn : es.length ≤ 1000) (sq : SqT K H1 a xs) (ax : ImAll K H1 xs es) (hD : H1 D = none) (hp : ∀ p, q = some p → Purse H1 p) (h0 : P 0 [])
    (hs : ∀ i H ds x d, es[i]? = some d → Im K H x d → Ch q H1 H → (∀ p, q = some p → Purse H p) → ds.length = i → P i ds → Turn1 K g tt te vs σ q P i H ds x)
    (hd : ∀ H us ds, H D = some (.lst us) → ImAll K H us ds → Ch q H1 H → (∀ p, q = some p → Purse H p) → ds.length = es.length → P es.length ds → Qd H) : LcR (Itt K a) g tt te vs σ H1 D Qd := by
  refine lc_tup (xs := xs) (CI K q H1 D P) (CI.start hD hp h0) (fun i H _ ⟨us, ds, e, al, c, pp, hl, hP⟩ => sq.ch c) ?_ ?_
  · rintro i x H hx ⟨us, ds, e, al, c, pp, hl, hP⟩
    have hi : i < es.length := by
      rw [← ax.length]
      exact (List.getElem?_eq_some_iff.mp hx).1
    obtain ⟨u, hu, iu⟩ := (ax.ch c).at (d := es[i]) (i := i) (by simp [hi])
    rw [hx] at hu; cases hu
    exact turn_step hD hp (by omega) e al c hl (hs i H ds x _ (by simp [hi]) iu c pp hl hP)
  · rintro H ⟨us, ds, e, al, c, pp, hl, hP⟩
    rw [ax.length] at hl hP
    exact hd H us ds e al c pp hl hP
theorem c_list {a : Addr} {xs : List V} {es : List PyData} (q : Option Addr) (P : Nat → List PyData → Prop) (hn : es.length ≤ 1000) (sq : H1 a = some (.lst xs)) (na : ∀ p, q = some p → a ≠ p) (ax : ImAll K H1 xs es) (hD : H1 D = none) (hp : ∀ p, q = some p → Purse H1 p) (h0 : P 0 [])
    (hs : ∀ i H ds x d, es[i]? = some d → Im K H x d → Ch q H1 H → (∀ p, q = some p → Purse H p) → ds.length = i → P i ds → Turn1 K g tt te vs σ q P i H ds x)
    (hd : ∀ H us ds, H D = some (.lst us) → ImAll K H us ds → Ch q H1 H → (∀ p, q = some p → Purse H p) → ds.length = es.length → P es.length ds → Qd H) : LcR (Itl K a) g tt te vs σ H1 D Qd := by
  have st : ∀ {H}, Ch q H1 H → H a = some (.lst xs) := fun {H} c => by
    cases q with
    | none => exact c.ls sq
    | some p => exact c.lsP (na p rfl) sq
  refine lc_list (xs := xs) (CI K q H1 D P) (CI.start hD hp h0) (fun i H _ ⟨us, ds, e, al, c, pp, hl, hP⟩ => .inl (.inl (st c))) ?_ ?_
  · rintro i x H hx ⟨us, ds, e, al, c, pp, hl, hP⟩
    have hi : i < es.length := by
      rw [← ax.length]
      exact (List.getElem?_eq_some_iff.mp hx).1
    obtain ⟨u, hu, iu⟩ := (ax.ch c).at (d := es[i]) (i := i) (by simp [hi])
    rw [hx] at hu; cases hu
    exact turn_step hD hp (by omega) e al c hl (hs i H ds x _ (by simp [hi]) iu c pp hl hP)
  · rintro H ⟨us, ds, e, al, c, pp, hl, hP⟩
    rw [ax.length] at hl hP
    exact hd H us ds e al c pp hl hP
/-! the two kinds: nothing is changed; a purse is -/
theorem no_purse {H : Hp} : ∀ p, (none : Option Addr) = some p → Purse H p := fun _ z => nomatch z
theorem one_purse {H : Hp} {p : Addr} (h : Purse H p) : ∀ p', some p = some p' → Purse H p' := fun _ z => by cases z; exact h
theorem c_range0 {lo : Int} {n : Nat} (P : Nat → List PyData → Prop) (hn : n ≤ 1000) (hD : H1 D = none) (h0 : P 0 [])
    (hs : ∀ i H ds, i < n → Ch none H1 H → ds.length = i → P i ds → Turn0 K g tt te vs σ P i H ds (.int (lo + i)))
    (hd : ∀ H us ds, H D = some (.lst us) → ImAll K H us ds → Ch none H1 H → ds.length = n → P n ds → Qd H) : LcR (Itr lo n) g tt te vs σ H1 D Qd :=
  c_range none P hn hD no_purse h0 (fun i H ds hi c _ hl hP N S k => hs i H ds hi c hl hP N S fun y H4 d a b e => k y H4 d a b no_purse e) fun H us ds a b c _ => hd H us ds a b c
theorem c_rangeP {lo : Int} {n : Nat} {p : Addr} (P : Nat → List PyData → Prop) (hn : n ≤ 1000) (hD : H1 D = none) (hp : Purse H1 p) (h0 : P 0 [])
    (hs : ∀ i H ds, i < n → Ch (some p) H1 H → Purse H p → ds.length = i → P i ds → TurnP K g tt te vs σ p P i H ds (.int (lo + i)))
    (hd : ∀ H us ds, H D = some (.lst us) → ImAll K H us ds → Ch (some p) H1 H → Purse H p → ds.length = n → P n ds → Qd H) : LcR (Itr lo n) g tt te vs σ H1 D Qd :=
  c_range (some p) P hn hD (one_purse hp) h0 (fun i H ds hi c pp hl hP N S k => hs i H ds hi c (pp p rfl) hl hP N S fun y H4 d a b e f => k y H4 d a b (one_purse e) f) fun H us ds a b c d => hd H us ds a b c (d p rfl)
theorem c_list0 {a : Addr} {xs : List V} {es : List PyData} (P : Nat → List PyData → Prop) (hn : es.length ≤ 1000) (sq : H1 a = some (.lst xs)) (ax : ImAll K H1 xs es) (hD : H1 D = none) (h0 : P 0 [])
    (hs : ∀ i H ds x d, es[i]? = some d → Im K H x d → Ch none H1 H → ds.length = i → P i ds → Turn0 K g tt te vs σ P i H ds x)
    (hd : ∀ H us ds, H D = some (.lst us) → ImAll K H us ds → Ch none H1 H → ds.length = es.length → P es.length ds → Qd H) : LcR (Itl K a) g tt te vs σ H1 D Qd :=
  c_list none P hn sq (fun _ z => nomatch z) ax hD no_purse h0 (fun i H ds x d hi e c _ hl hP N S k => hs i H ds x d hi e c hl hP N S fun y H4 d a b e => k y H4 d a b no_purse e) fun H us ds a b c _ => hd H us ds a b c
end
/-! ### what is made of such a list -/
section
variable {K : PySem.W.Frag} {H : Hp} {Q : VK} {D : Addr} {us : List V}
theorem ImAll.one {d1 : PyData} (h : ImAll K H us [d1]) : ∃ v1, us = [v1] ∧ Im K H v1 d1 := by
  cases h with
  | cons a1 h => cases h; exact ⟨_, rfl, a1⟩
theorem ImAll.two {d1 d2 : PyData} (h : ImAll K H us [d1, d2]) : ∃ v1 v2, us = [v1, v2] ∧ Im K H v1 d1 ∧ Im K H v2 d2 := by
  cases h with
  | cons a1 h =>
    obtain ⟨_, rfl, a2⟩ := h.one
    exact ⟨_, _, rfl, a1, a2⟩
theorem ImAll.three {d1 d2 d3 : PyData} (h : ImAll K H us [d1, d2, d3]) : ∃ v1 v2 v3, us = [v1, v2, v3] ∧ Im K H v1 d1 ∧ Im K H v2 d2 ∧ Im K H v3 d3 := by
  cases h with
  | cons a1 h =>
    obtain ⟨_, _, rfl, a2, a3⟩ := h.two
    exact ⟨_, _, _, rfl, a1, a2, a3⟩
theorem ImAll.bls : ∀ {us : List V} {bs : List Bool}, ImAll K H us (bs.map PyData.bool) → us = bs.map V.bl
  | _, [], .nil => rfl
  | _, b :: bs, .cons a c => by rw [a.bool_eq, ImAll.bls c]; rfl
theorem ImAll.nums : ∀ {us : List V} {ns : List Int}, ImAll K H us (ns.map PyData.int) → us = ns.map V.int
  | _, [], .nil => rfl
  | _, b :: bs, .cons a c => by rw [a.int_eq, ImAll.nums c]; rfl
theorem i_all {bs : List Bool} (e : H D = some (.lst us)) (al : ImAll K H us (bs.map PyData.bool)) (h : Q (.bl (bs.all id)) H) : rAll K [.ref D] H Q := ⟨D, bs, rfl, by rw [← al.bls]; exact .inl (.inl e), h⟩
theorem i_tupL {ds : List PyData} (e : H D = some (.lst us)) (al : ImAll K H us ds) (k : ∀ v H', Ch none H H' → Im K H' v (.tuple ds) → Q v H') : rTupOf K [.ref D] H Q :=
  ⟨D, us, rfl, .inl ⟨.inl (.inl e), fun l hl => k _ _ (Ch.new hl) (Im.mk hl al)⟩⟩
end
end L2

set_option Elab.async false
set_option linter.all false
set_option maxRecDepth 100000
namespace L2
open PySem PySem.Spec PyProof.Rows
section
variable {X : Cx}
/-- a def as Fun.ok proves it, its code object known -/
theorem Fun.okT {P : Program} {w : World} {K : PySem.W.Frag} {mg : Str → Option Value} {base : Heap} {x qual : Str} {st : Stmt} {f c : Addr} {fd : FuncData} {N ps : List Str} {k : Nat} {sp : Sp} (F : Fun K x qual st f fd) (hc : fd.code = .ref c)
    (S : FnScope N ps (defScope st)) (len : ∀ vs H Q E, sp vs H Q E → vs.length = ps.length)
    (hbody : ∀ (A : Around) (outer : List Env) (s : Shared) (H : Hp) (vs : List V) (Q : VK) (E : XK), Room k (A.deeper (envOfC qual (defScope st) s.heap.objs.size f (.ref c))) → sp vs H Q E →
      ∃ t, PSs (cxOf CX0 P w K mg base N qual (defScope st) f (.ref c) A outer s H E).nox (defBody st) t ∧ t { nx := fun _ H' => Q .non H', rt := Q } (start N vs) H) : FnOk P w K mg base CX0 (k + 1) f fd ps sp := by
  obtain ⟨oc, od, kV, doc, pm, an, cdv, ct, osl, rfl, lk, hcd⟩ := F.ex
  obtain rfl : cdv = .ref c := hc
  refine fn_of lk hcd S len fun A outer s H vs Q E hr hsp => ?_
  obtain ⟨t, h, q⟩ := hbody A outer s H vs Q E hr hsp
  exact ⟨t, h.nox, q⟩
/-- the tables grow, things are laid -/
def Gro (H H' : Hp) : Prop := (∀ b o, H b = some o → (∀ ps, o ≠ .tbl ps) → H' b = some o) ∧ ∀ b, H' b = none → H b = none
theorem Gro.refl (H : Hp) : Gro H H := ⟨fun _ _ e _ => e, fun _ e => e⟩
/-- a table has grown by a new code object, which is a frozen thing from now on -/
theorem Inv.grownC {pins : List (Addr × Obj)} {σ : List (Option V)} {H : Hp} {s : Shared} {h' : Heap} {t' : Nat} {P c' : Addr} {ps : Array Value} {a b : Value} {q : Str} (I : Inv X pins σ H s) (hP : H P = some (.tbl ps)) (ext : Heap.ExtBut P s.heap h')
    (new : h'.get? P = some { cls := .none, data := .fields (ps ++ #[a, b, .ref c']) }) (tr : TriplesOk (ps ++ #[a, b, .ref c']).toList) (hc : s.heap.objs.size ≤ c') (rec : h'.CodeRec (.ref c') q) (ha : ∃ i t, a = .int i t) (hb : ∃ i t, b = .int i t) :
    ∃ H', Gro H H' ∧ CdAt H' c' ∧ Inv X pins σ H' { s with heap := h', toks := t' } := by
  obtain ⟨c2, oc, vs, tq, e2, hoc, hd, hv⟩ := rec
  cases e2
  have lt : ∀ {b : Addr} {o : Obj}, s.heap.get? b = some o → b ≠ c' := fun e => Nat.ne_of_lt (Nat.lt_of_lt_of_le (Heap.lt_size e) hc)
  have nH : H c' = none := I.hok.fresh hc
  have nP : P ≠ c' := fun z => by rw [z, nH] at hP; cases hP
  have ne : ∀ b, H b = none → b ≠ P := fun b n z => by rw [z, hP] at n; cases n
  have nt : ∀ b u, H b = some u → (∀ ps, u ≠ .tbl ps) → b ≠ P := fun b u e k z => by rw [z, hP] at e; cases e; exact k _ rfl
  have nc : ∀ b u, H b = some u → b ≠ c' := fun b u e z => by rw [z, nH] at e; cases e
  obtain ⟨H', hH⟩ : ∃ H' : Hp, H' = upd (upd H P (.tbl (ps ++ #[a, b, .ref c']))) c' (.frz oc (.frz oc (.ext fun _ => True))) := ⟨_, rfl⟩
  have hc' : H' c' = some (.frz oc (.frz oc (.ext fun _ => True))) := by rw [hH]; exact upd_same
  have hP' : H' P = some (.tbl (ps ++ #[a, b, .ref c'])) := by rw [hH, upd_ne nP]; exact upd_same
  have ho : ∀ b, b ≠ P → b ≠ c' → H' b = H b := fun b h1 h2 => by rw [hH, upd_ne h2, upd_ne h1]
  have frzs : ∀ b o u, H b = some (.frz o u) → H' b = some (.frz o u) := fun b o u e => by rw [ho b (nt b _ e fun _ z => nomatch z) (nc b _ e)]; exact e
  have cat : CdAt H' c' := ⟨oc, vs, q, tq, hc', hd, hv⟩
  have gro : Gro H H' := ⟨fun b o e k => by rw [ho b (nt b _ e k) (nc b _ e)]; exact e, fun b e => by
    by_cases h1 : b = P
    · subst h1; rw [hP'] at e; cases e
    · by_cases h2 : b = c'
      · subst h2; rw [hc'] at e; cases e
      · rw [ho b h1 h2] at e; exact e⟩
  refine ⟨H', gro, cat, ?_⟩
  refine I.un ⟨fun b o e n _ _ => ext b o (ne b n) e, fun b o e n _ _ => ⟨o.slots, ext b o (ne b n) e⟩, fun b o e n _ => by rw [ho b (ne b n) (lt e)]; exact n, fun b o e _ => ?_,
    fun b xs e => by rw [ho b (nt b _ e fun _ z => nomatch z) (nc b _ e)]; exact e, frzs, fun d qs e => ?_⟩ fun b u e => ?_
  · by_cases hb : b = P
    · subst hb; exact ⟨_, new⟩
    · exact ⟨o, ext b o hb e⟩
  · by_cases hd' : d = P
    · subst hd'; rw [hP] at e; cases e
      obtain ⟨_, _, rfl⟩ := ha
      obtain ⟨_, _, rfl⟩ := hb
      exact ⟨_, hP', ⟨_, rfl, cat⟩, trivial⟩
    · exact ⟨#[], by rw [ho d hd' (nc d _ e), e]; simp, CdOk.nil⟩
  · by_cases hb : b = c'
    · subst hb
      rw [hc'] at e; cases e
      exact ⟨hoc, hoc, trivial, ⟨_, hoc⟩, fun _ _ _ _ => trivial⟩
    · by_cases hbP : b = P
      · subst hbP
        rw [hP'] at e; cases e
        exact ⟨new, tr⟩
      · rw [ho b hbP hb] at e
        refine (I.hok b u e).stay (fun d o hd q => ext d o ?_ q) (fun d q => by rw [ho d (nt d _ q fun _ z => nomatch z) (nc d _ q)]; exact q) fun d xs q => by rw [ho d (nt d _ q fun _ z => nomatch z) (nc d _ q)]; exact q
        rcases hd with rfl | q'
        · exact hbP
        · exact nt d _ q' fun _ z => nomatch z
/-- the code object of a generator expression -/
theorem code_ok {E : Value → Shared → Prop} {pins : List (Addr × Obj)} {σ : List (Option V)} {H : Hp} {s : Shared} {A : Around} {c P : Addr} {pos : Pos} {qualname : Str} {scope : Scope} {Q : Value → Shared → Prop}
    (I : Inv X pins σ H s) (hc : X.env.code = .ref c) (hq : (c, P) ∈ X.base.life.ids) (hd : PySem.W.CodeHd X.base c P)
    (h : ∀ code s' H', Gro H H' → s'.gens = s.gens → Inv X pins σ H' s' → Q code s') :
    wpAny (model X.prog X.w) A (genexprCode X.env pos qualname scope) Q E s := by
  obtain ⟨ps, hP, _⟩ := (I.ok.tb.un I.base) (c, P) hq
  obtain ⟨gP, tr⟩ := I.hok P _ hP
  have hd' := hd.keeps I.bk
  cases hf : codeAmong pos ps.toList with
  | some cv => exact wpAny_genexprCode_hit hc (hd'.code gP tr) hf (h cv s H (Gro.refl H) rfl I)
  | none =>
    refine wpAny_genexprCodeX hc (hd'.code gP tr) (hd'.tab gP) hf fun c' h' tk ext hsz _ ic hrec tab _ => ?_
    have tr' : TriplesOk (ps ++ #[rawInt pos.line, rawInt pos.col, .ref c']).toList := by
      obtain ⟨_, _, _, _, _, _, _, _, _, _, _, _, _, _, _, _, _, hop, hpd, htr, _⟩ := ic
      rw [tab.2] at hop
      cases hop
      cases hpd
      exact htr
    obtain ⟨H', gro, _, I'⟩ := I.grownC (t' := tk) hP ext tab.2 tr' hsz hrec ⟨_, _, rfl⟩ ⟨_, _, rfl⟩
    exact h _ _ H' gro rfl I'
end
end L2

set_option Elab.async false
set_option linter.all false
set_option maxRecDepth 100000
namespace L2
open PySem PySem.Spec PyProof.Rows
/-- where a generator expression's elements are read: A the place where it is woken, s the state ahead of its frame, z the state at this waking, pl the objects that stand still meanwhile -/
abbrev Cx.gen (X : Cx) (A : Around) (s z : Shared) (pl : List Addr) (H : Hp) (cenv : Env) (fp : List Addr) : Cx :=
  { X with A := A, s_0 := { s with gens := z.gens }, H_0 := H, env := cenv, outer := X.stack, stack := cenv :: X.stack, ex := fp, fn := fun _ => false, pn := pinsAt pl z.heap, xe := fun _ _ => False }
section
variable {X : Cx} {pins : List (Addr × Obj)} {σ : St} {H : Hp} {s : Shared}
theorem gen_start {scope : Scope} {own : List (Str × Nat)} {fp : List Addr} {A : Around} {code : Value} {m0 : Str → Option Value} {z : Shared} {cenv : Env}
    (I : Inv X pins σ H s) (ok : BlkOk X.N X.env.scope scope own) (hN : X.N.Nodup) (nocell : ∀ y ∈ scope.names, y.2 ≠ .cell) (hfp : ∀ b ∈ fp, FpOk X pins H b ∧ b < s.heap.objs.size)
    (hcenv : genEnv scope (cloFrom X.env.cells scope.names []) s.heap.objs.size code builtinsNs X.env = cenv) (fr : A.frames = some (cenv :: X.stack)) (hd : X.calm = true → A.handled = none)
    (ns : z.heap.Ns s.heap.objs.size m0) (kp : ∀ b o, s.heap.get? b = some o → z.heap.get? b = some o) (bare : AllBare z.gens) (hos : z.os = s.os) :
    Inv (X.gen A s z [] H cenv fp) [] (wipe σ (own.map (·.2))) H z := by
  have hL : cenv.locals = s.heap.objs.size := by rw [← hcenv]; rfl
  have hcl : cenv.cells = cloFrom X.env.cells scope.names [] := by rw [← hcenv]; rfl
  have hsc : cenv.scope = scope := by rw [← hcenv]; rfl
  have hfree : ∀ y ∈ scope.names, y.2 = .free → ∃ c, X.env.cells.lookup y.1 = some c := fun y hy e => by
    rcases ok.free y hy e with k | k
    · exact I.ok.has _ (.inl k)
    · exact I.ok.has _ (.inr k)
  have mem : ∀ {y c}, cenv.cells.lookup y = some c → X.env.cells.lookup y = some c ∧ c < s.heap.objs.size := fun {y c} e => by
    rw [hcl] at e
    rcases cloFrom_mem (PySem.mem_of_lookup e) with hm | ⟨h1, rfl⟩
    · cases hm
    · obtain ⟨c, hc⟩ := hfree _ h1 rfl
      rw [hc]
      obtain ⟨w, z⟩ := I.cell _ _ hc
      exact ⟨rfl, z.lt⟩
  have look : ∀ {y}, scope.names.lookup y = some .free → ∃ c, cenv.cells.lookup y = some c ∧ X.env.cells.lookup y = some c := fun {y} hl => by
    obtain ⟨c', e'⟩ := mem_lookup (cloFrom_has (cells := X.env.cells) (acc := []) (PySem.mem_of_lookup hl))
    rw [← hcl] at e'
    exact ⟨c', e', (mem e').1⟩
  have okB : (X.gen A s z [] H cenv fp).Ok := by
    refine ⟨I.ok.mod, by show cenv.scope.kind = _; rw [hsc]; exact ok.kind, by show cenv.globals = _; rw [← hcenv]; exact I.ok.glob, by show cenv.builtins = _; rw [← hcenv]; rfl, by show s.heap.objs.size ≤ cenv.locals; rw [hL]; exact Nat.le_refl _,
      fun y z c e1 e2 => I.ok.inj y z c (mem e1).1 (mem e2).1, fun y hy => ?_, fun y c z e => (by cases z), hd, fr, .inr ⟨rfl, by show cenv.frame = some cenv.locals; rw [← hcenv]; rfl⟩, fun b hb => ⟨?_, fun y c e => ?_⟩, I.bs, Nat.le_trans I.ok.bsz I.sz, fun b o e hb => ?_, fun b hb z => ?_, I.stack, I.stkFree, I.ok.tb.un I.base⟩
    · show ∃ c, cenv.cells.lookup y = some c
      have hy : cenv.scope.names.lookup y = some .cell ∨ cenv.scope.names.lookup y = some .free := hy
      rw [hsc] at hy
      rcases hy with hy | hy
      · exact absurd rfl (nocell _ (PySem.mem_of_lookup hy))
      · obtain ⟨c, h1, _⟩ := look hy
        exact ⟨c, h1⟩
    · show b ≠ cenv.locals
      rw [hL]; exact Nat.ne_of_lt (hfp b hb).2
    · exact (hfp b hb).1.2.2.2.2.1 y c (mem e).1
    · rcases (hfp b hb).1.2.2.2.1 with z | z
      · exact I.ok.noex b o e z
      · exact absurd (Nat.lt_of_lt_of_le (Heap.lt_size e) (Nat.le_trans I.ok.bsz z)) (Nat.lt_irrefl _)
    · rcases List.mem_cons.mp (I.stkSub b z) with z | z
      · exact (hfp b hb).1.2.1 z
      · exact (hfp b hb).1.2.2.1 z
  refine ⟨okB, hos, ⟨bare, GG.refl _⟩, Un.kept kp, ⟨m0, ?_, fun i y av e1 e2 e3 => ?_⟩, fun y c e => ?_, ?_, fun y c e => ?_, fun p hp => ?_, I.hok.kept kp, by rw [wipe_length]; exact I.len⟩
  · show Heap.Ns _ cenv.locals _
    rw [hL]; exact ns
  · obtain ⟨e2, hne⟩ := wipe_some e2
    have e3 : Vis cenv.scope y := e3
    rw [hsc] at e3
    have no : ∀ k, scope.names.lookup y = some k → ¬ (k = .local ∨ k = .cell) := fun k e hh => by
      rcases ok.own _ (PySem.mem_of_lookup e) hh with e' | e'
      · obtain ⟨p, hp, hpy⟩ := List.mem_map.mp e'
        have e4 := ok.ix p hp
        have : p.1 = y := hpy
        rw [this] at e4
        exact hne (List.mem_map.mpr ⟨p, hp, nodup_ix hN e4 e1⟩)
      · exact e' (List.mem_of_getElem? e1)
    have hf : scope.names.lookup y = some .free := by
      rcases e3 with e3 | e3 | e3
      · exact absurd (.inl rfl) (no _ e3)
      · exact absurd (.inr rfl) (no _ e3)
      · exact e3
    obtain ⟨m, hn, hl⟩ := I.loc
    have hvis : Vis X.env.scope y := (ok.free _ (PySem.mem_of_lookup hf) rfl).elim (fun k => .inr (.inl k)) (fun k => .inr (.inr k))
    obtain ⟨w, r, q⟩ := hl i y av e1 e2 hvis
    refine ⟨w, r, .inr ⟨.inr (by show cenv.scope.names.lookup y = _; rw [hsc]; exact hf), ?_⟩⟩
    obtain ⟨c, h1, h2⟩ := look hf
    rcases q with ⟨k, _⟩ | ⟨_, c', e', z⟩
    · have k : X.env.scope.names.lookup y = some .local := k
      rcases ok.free _ (PySem.mem_of_lookup hf) rfl with k' | k' <;> rw [show X.env.scope.names.lookup y = _ from k'] at k <;> cases k
    · rw [h2] at e'; cases e'
      exact ⟨c, h1, z.keeps kp⟩
  · obtain ⟨w, z⟩ := I.cell y c (mem e).1
    exact ⟨w, z.keeps kp⟩
  · show H cenv.locals = none
    rw [hL]; exact I.hok.fresh (Nat.le_refl _)
  · exact I.freeC y c (mem e).1
  · exact absurd (show p ∈ ([] : List (Addr × Obj)) ++ [] from hp) (by simp)
end
end L2

set_option Elab.async false
set_option linter.all false
set_option maxRecDepth 100000
namespace L2
open PySem PySem.Spec PyProof.Rows
section
variable {X : Cx} {A : Around} {s s1 z : Shared} {pl : List Addr} {H0 H : Hp} {cenv : Env} {fp : List Addr} {pins : List (Addr × Obj)} {σ : St}
theorem gen_ok {A' : Around} {z2 : Shared} {pl2 : List Addr} (ok : (X.gen A s z pl H0 cenv fp).Ok) (fr : A'.frames = some (cenv :: X.stack)) (hd : X.calm = true → A'.handled = none) : (X.gen A' s z2 pl2 H0 cenv fp).Ok :=
  ⟨ok.mod, ok.kind, ok.glob, ok.blt, ok.above, ok.inj, ok.has, ok.cab, hd, fr, ok.stk, ok.exf, ok.bs, ok.bsz, ok.noex, ok.exfs, ok.funs, ok.frf, ok.tb⟩
/-- while it sleeps: the consumer lays objects of its own, and writes them (sp); the next waking is at z2, and pl2 stands still then -/
theorem gen_move {A' : Around} {z2 : Shared} {pl2 sp : List Addr} (I : Inv (X.gen A s z pl H0 cenv fp) [] σ H s1) (fr : A'.frames = some (cenv :: X.stack)) (hd : X.calm = true → A'.handled = none) (hos : z2.os = s1.os) (bare : AllBare z2.gens)
    (hsp : ∀ b ∈ sp, s.heap.objs.size ≤ b ∧ H b = none ∧ b ≠ cenv.locals ∧ ∀ x c, cenv.cells.lookup x = some c → c ≠ b)
    (k : ∀ b o, b ∉ sp → s1.heap.get? b = some o → z2.heap.get? b = some o)
    (hpl : ∀ b ∈ pl2, H b = none ∧ b ≠ cenv.locals ∧ b ∉ frs X.stack ∧ ∀ o, z2.heap.get? b = some o → ∀ v, o.data ≠ .cell v) : Inv (X.gen A' s z2 pl2 H0 cenv fp) [] σ H z2 := by
  have I0 : Inv (X.gen A s z [] H0 cenv fp) [] σ H s1 := ⟨gen_ok I.ok I.ok.frames I.ok.hd, I.os, I.bare, I.base, I.loc, I.cell, I.free, I.freeC, fun p hp => absurd (show p ∈ ([] : List (Addr × Obj)) ++ [] from hp) (by simp), I.hok, I.len⟩
  have nsp : ∀ b u, H b = some u → b ∉ sp := fun b u e y => by rw [(hsp b y).2.1] at e; cases e
  have L : cenv.locals ∉ sp := fun y => (hsp _ y).2.2.1 rfl
  have J : Inv (X.gen A s z [] H0 cenv fp) [] σ H { s1 with heap := z2.heap, gens := s1.gens, drawn := s1.drawn, toks := s1.toks } := by
    refine I0.step (ch := sp) (fun b hb => ⟨.inr (hsp b hb).1, (hsp b hb).2.2.1, (hsp b hb).2.2.2, fun p hp => absurd (show p ∈ ([] : List (Addr × Obj)) ++ [] from hp) (by simp)⟩)
      (fun b o _ _ hb e _ => k b o hb e) (fun b o _ _ hb e _ => ⟨o.slots, k b o hb e⟩) (fun b o _ _ n => n) (fun b o hb e => ⟨o, k b o hb e⟩) (fun _ _ e => e) (fun _ _ _ e => e) (fun b ps e => ⟨#[], by rw [e]; simp, CdOk.nil⟩)
      (fun m ⟨o, es, ep, e, r⟩ => ⟨o, es, ep, k _ o L e, r⟩) (fun b u e => ?_) I0.bare
    refine (I0.hok b u e).stay (fun d o hd q => k d o ?_ q) (fun _ q => q) fun _ _ q => q
    rcases hd with rfl | q'
    · exact nsp _ _ e
    · exact nsp _ _ q'
  refine ⟨gen_ok J.ok fr hd, hos.trans J.os, ⟨bare, GG.refl _⟩, J.base, J.loc, J.cell, J.free, J.freeC, fun p hp => ?_, J.hok, J.len⟩
  have hp : p ∈ pinsAt pl2 z2.heap ++ [] := hp
  rw [List.append_nil] at hp
  obtain ⟨hb, e⟩ := of_pinsAt hp
  obtain ⟨q1, q2, q3, q4⟩ := hpl _ hb
  exact ⟨e, q1, q2, q3, q4 _ e⟩
/-- what stood still -/
theorem gen_still {b : Addr} {o : Obj} (I : Inv (X.gen A s z pl H0 cenv fp) pins σ H s1) (hb : b ∈ pl) (e : z.heap.get? b = some o) : s1.heap.get? b = some o ∧ H b = none :=
  let q := I.pin (b, o) (List.mem_append_left _ (mem_pinsAt hb e))
  ⟨q.1, q.2.1⟩
/-- back in the def -/
theorem gen_back {σ0 : St} {pins0 : List (Addr × Obj)} {s2 : Shared} (I0 : Inv X pins0 σ0 H0 s) (I : Inv (X.gen A s z pl H0 cenv fp) pins σ H s1) (hos : s2.os = s1.os) (gg : AllBare s2.gens ∧ GG s.gens s2.gens) (hfp : ∀ b ∈ fp, FpOk X pins0 H0 b)
    (k : ∀ b o, b < s.heap.objs.size → s1.heap.get? b = some o → s2.heap.get? b = some o) (hok : HOk X.prog X.w H s2.heap) : Inv X pins0 σ0 H s2 := by
  have lt : ∀ {b : Addr} {o : Obj}, s.heap.get? b = some o → b < s.heap.objs.size := fun e => Heap.lt_size e
  refine I0.call' (ch := fp) (hos.trans I.os) ⟨fun b o e n hb hx => k b o (lt e) (I.base.keep b o e n hb hx), fun b o e n hb hx => ?_, fun b o e n hx => I.base.free b o e n hx, fun b o e hx => ?_, I.base.tups, I.base.frzs, I.base.tbls⟩ hok gg
    fun b hb => ⟨(hfp b hb).2.2.2.1, (hfp b hb).2.1, (hfp b hb).2.2.2.2.1, (hfp b hb).2.2.2.2.2⟩
  · obtain ⟨sl, e1⟩ := I.base.slot b o e n hb hx
    exact ⟨sl, k b _ (lt e) e1⟩
  · obtain ⟨o', e1⟩ := I.base.there b o e hx
    exact ⟨o', k b o' (lt e) e1⟩
end
end L2

set_option Elab.async false
set_option linter.all false
set_option maxRecDepth 100000
namespace L2
open PySem PySem.Spec PyProof.Rows
/-- the reading of a generator expression's turns: W where it stands, Fin at its end, Yl what it hands out -/
def GenR (J : It) (g : TG) (tt : TT) (te : TE) (vs : List Nat) (σ : St) (W : Nat → Shared → Nat → Nat → Hp → Prop) (Fin : Nat → Shared → Hp → Prop) (Yl : Nat → Shared → Nat → Nat → V → Hp → Prop) : Prop :=
  ∀ c z i m H, W c z i m H → (J.stop i H ∧ Fin c z H) ∨ (0 < m ∧ J.go i H ∧ ∀ x H', J.yld i H x H' → g x (wipe σ vs) H' fun σ2 H2 => wipe σ2 vs = wipe σ vs ∧ tt σ2 H2 fun b H3 =>
    if b = true then te σ2 H3 fun y H4 => Yl c z i m y H4 else ∃ m', m' < m ∧ W c z (i + 1) m' H3)
section
variable {X : Cx} {A : Around} {s : Shared} {pl : List Addr} {H0 : Hp} {cenv : Env} {fp : List Addr} {σ : St}
/-- the end -/
def GFin (X : Cx) (A' : Around) (s : Shared) (pl : List Addr) (H0 : Hp) (cenv : Env) (fp : List Addr) (σ : St) (Fin : Nat → Shared → Hp → Prop) : Nat → Shared → Shared → Prop :=
  fun n s₀ s₁ => ∃ H', Inv (X.gen A' s s₀ pl H0 cenv fp) [] σ H' s₁ ∧ Fin n s₀ H'
/-- what is handed out, and how it goes on -/
def GYld (X : Cx) (A' : Around) (s : Shared) (pl : List Addr) (H0 : Hp) (cenv : Env) (fp : List Addr) (σ : St) (tn : Nat → Heap → Prop) (W : Nat → Shared → Nat → Nat → Hp → Prop) (Yl : Nat → Shared → Nat → Nat → V → Hp → Prop) : Protocol := fun n s₀ v s₁ kap =>
  ∃ i m y H1, Inv (X.gen A' s s₀ pl H0 cenv fp) [] σ H1 s₁ ∧ RelV y v ∧ tn (i + 1) s₁.heap ∧ (∀ b ∈ fp, H1 b = none) ∧ m ≤ n ∧ Yl (n + 1) s₀ i m y H1 ∧
    ∀ s2 H2 m2, m2 < n → W n s2 (i + 1) m2 H2 → Inv (X.gen A' s s2 pl H0 cenv fp) [] σ H2 s2 → tn (i + 1) s2.heap → (∀ b ∈ fp, H2 b = none) → kap (.send .none) s2
theorem gen_loop {elt tg iter : Expr} {ifs : List Expr} {scope : Scope} {pos : Pos} {it : Addr} {J : It} {tn : Nat → Heap → Prop} {g : TG} {tt : TT} {te : TE} {vs : List Nat} {W : Nat → Shared → Nat → Nat → Hp → Prop} {Fin : Nat → Shared → Hp → Prop} {Yl : Nat → Shared → Nat → Nat → V → Hp → Prop} {A' : Around}
    (hA : A.over (.compLoop (.GeneratorExp elt [⟨tg, iter, ifs, 0⟩] scope pos) 0 (.ref it) .none cenv) [] = A') (hc : X.calm = true) (T : Turn X.prog X.w X.K tg J fp it tn) (hco : cenv.scope.isCoroutine = false)
    (hpl : ∀ b ∈ fp, b ∉ pl)
    (hg : ∀ z, PG (X.gen A' s z pl H0 cenv fp) tg g) (ht : ∀ z, PTs (X.gen A' s z pl H0 cenv fp) ifs tt) (he : ∀ z, PE (X.gen A' s z pl H0 cenv fp) elt te)
    (rd : GenR J g tt te vs σ W Fin Yl) : ∀ (n m i : Nat) (H : Hp) (s₀ s' : Shared), m < n → W n s₀ i m H → Inv (X.gen A' s s₀ pl H0 cenv fp) [] (wipe σ vs) H s' → tn i s'.heap → (∀ b ∈ fp, H b = none) →
      Seg (model X.prog X.w) A (fun n s₀ r s₁ => r = .ok .next ∧ GFin X A' s pl H0 cenv fp (wipe σ vs) Fin n s₀ s₁) (GYld X A' s pl H0 cenv fp (wipe σ vs) tn W Yl) n s₀
        (.compLoop (.GeneratorExp elt [⟨tg, iter, ifs, 0⟩] scope pos) 0 (.ref it) .none cenv)
        ((model X.prog X.w).den (.compLoop (.GeneratorExp elt [⟨tg, iter, ifs, 0⟩] scope pos) 0 (.ref it) .none cenv)) [] s' := by
  subst hA
  have stat : ∀ {gs : Shared} {σ' : St} {H' : Hp} {s' : Shared}, Inv (X.gen (A.over (.compLoop (.GeneratorExp elt [⟨tg, iter, ifs, 0⟩] scope pos) 0 (.ref it) .none cenv) []) s gs pl H0 cenv fp) [] σ' H' s' → (∀ b ∈ fp, H' b = none) →
      ∀ b ∈ fp, FpOk (X.gen (A.over (.compLoop (.GeneratorExp elt [⟨tg, iter, ifs, 0⟩] scope pos) 0 (.ref it) .none cenv) []) s gs pl H0 cenv fp) [] H' b := fun {gs σ' H' s'} I' hn b hb =>
    ⟨hn b hb, (I'.ok.exf b hb).1, I'.ok.exfs b hb, .inl hb, fun x c e => (I'.ok.exf b hb).2 x c e, fun p hp e => by
      have hp : p ∈ pinsAt pl gs.heap ++ [] := hp
      rw [List.append_nil] at hp
      exact hpl b hb (e ▸ (of_pinsAt hp).1)⟩
  intro n
  induction n using Nat.strongRecOn with
  | ind n ihn =>
  intro m
  induction m using Nat.strongRecOn with
  | ind m ih =>
  intro i H s₀ s' hmn w I st hn
  show Seg _ A _ _ _ s₀ _ ((compTurn (.GeneratorExp elt [⟨tg, iter, ifs, 0⟩] scope pos) 0 (.ref it) .none cenv).onRaise (leaving cenv)) [] s'
  rw [compTurn_gen, Sem.onRaise_eq_wrap]
  refine seg_bind_wrap (wpAny_standAt ?_)
  rcases rd n s₀ i m H w with ⟨stop, fin⟩ | ⟨hm, go, step⟩
  · have td := T.done (X.gen _ s s₀ pl H0 cenv fp) rfl rfl rfl hc i [] s' _ H (fun _ _ => False) I (stat I hn) st stop
    refine seg_bind_wrap (thnF td fun r s6 ⟨hr, I6⟩ => ?_)
    subst hr
    exact seg_end (.ok .next) ⟨rfl, H, I6, fin⟩
  · have ti := T.item (X.gen _ s s₀ pl H0 cenv fp) rfl rfl rfl hc i [] s' _ H (fun _ _ => False) I (stat I hn) st go
    refine seg_bind_wrap (thnF ti fun r s6 ⟨u, hr, h6⟩ => ?_)
    subst hr
    refine seg_bind_wrap (thnF h6 fun _ s7 ⟨x, H7, I7, r7, y7, st7, n7⟩ => ?_)
    have I7' := I7.pinned (stat I7 n7) (T.obj _ _ st7)
    refine seg_bind_wrap (thnF (hg _ _ s7 _ H7 x u _ I7' r7 (step x H7 y7)) fun _ s8 ⟨σ8, H8, I8, hw8, q8⟩ => ?_)
    refine seg_bind_wrap (thnF (ht _ _ s8 σ8 H8 _ I8 q8) fun b s9 ⟨H9, I9, q9⟩ => ?_)
    have un : ∀ {s' : Shared} {H' : Hp}, Inv (X.gen (A.over (.compLoop (.GeneratorExp elt [⟨tg, iter, ifs, 0⟩] scope pos) 0 (.ref it) .none cenv) []) s s₀ pl H0 cenv fp) ([] ++ pinsAt fp s7.heap) σ8 H' s' →
        Inv (X.gen (A.over (.compLoop (.GeneratorExp elt [⟨tg, iter, ifs, 0⟩] scope pos) 0 (.ref it) .none cenv) []) s s₀ pl H0 cenv fp) [] (wipe σ vs) H' s' ∧ tn (i + 1) s'.heap ∧ ∀ b ∈ fp, H' b = none := fun {s' H'} I' => by
      have pin' : ∀ b ∈ fp, ∀ o, s7.heap.get? b = some o → s'.heap.get? b = some o ∧ H' b = none := fun b hb o e =>
        let z := I'.pin (b, o) (List.mem_append_right _ (List.mem_append_right _ (mem_pinsAt hb e)))
        ⟨z.1, z.2.1⟩
      have hl : (wipe σ vs).length = σ8.length := by rw [← hw8, wipe_length]
      refine ⟨(I'.unpinned (pins := [])).weak hl (fun j v e => ?_), T.keep _ _ _ st7 fun b hb o e => (pin' b hb o e).1, fun b hb => ?_⟩
      · rw [← hw8] at e
        exact (wipe_some e).1
      · obtain ⟨o, e, _⟩ := T.obj _ _ st7 b hb
        exact (pin' b hb o e).2
    cases b with
    | false =>
      simp only [Bool.false_eq_true, if_false] at q9 ⊢
      obtain ⟨m', hm', w'⟩ := q9
      obtain ⟨J1, J2, J3⟩ := un I9
      exact seg_again rfl (ih m' hm' (i + 1) H9 s₀ s9 (Nat.lt_trans hm' hmn) w' J1 J2 J3)
    | true =>
      simp only [if_true] at q9 ⊢
      have hy : ∀ v, yieldOut cenv v = yieldValue v := fun v => by simp only [yieldOut, hco, Bool.false_eq_true, if_false]
      simp only [hy]
      rw [Sem.bind_eq_wrap', Sem.bind_eq_wrap', Sem.wrap_wrap, Sem.wrap_wrap]
      refine seg_wrap (thnF (he _ _ s9 σ8 H9 _ I9 q9) fun z s10 ⟨yv, H10, I10, r10, yl⟩ => ?_)
      obtain ⟨J1, J2, J3⟩ := un I10
      obtain ⟨n', rfl⟩ : ∃ n', n = n' + 1 := ⟨n - 1, by omega⟩
      refine seg_at (seg_yield rfl rfl rfl ⟨i, m, yv, H10, J1, r10, J2, J3, Nat.le_of_lt_succ hmn, yl, fun s2 H2 m2 hm2 w2 I2 st2 n2 => ?_⟩)
      exact seg_again rfl (ihn n' (Nat.lt_succ_self _) m2 (i + 1) H2 s2 s2 hm2 w2 I2 st2 n2)
end
end L2

set_option Elab.async false
set_option linter.all false
set_option maxRecDepth 100000
namespace L2
open PySem PySem.Spec PyProof.Rows
section
variable {M : Model} {A : Around} {R : GenEnd} {Y : Protocol}
/-- the first waking -/
theorem gen_first {prog : Program} {w : World} {elt tg iter : Expr} {ifs : List Expr} {scope : Scope} {pos : Pos} {it : Addr} {cenv : Env} {n : Nat} {s₀ s : Shared}
    (self : ∀ (A : Around) (Q : Value → Shared → Prop) (E : Value → Shared → Prop), Q (.ref it) s → wpAny (model prog w) A (pyIter (.ref it)) Q E s)
    (loop : Seg (model prog w) A R Y n s₀ (.compLoop (.GeneratorExp elt [⟨tg, iter, ifs, 0⟩] scope pos) 0 (.ref it) .none cenv) ((model prog w).den (.compLoop (.GeneratorExp elt [⟨tg, iter, ifs, 0⟩] scope pos) 0 (.ref it) .none cenv)) [] s) :
    Seg (model prog w) A R Y n s₀ (.compStart (.GeneratorExp elt [⟨tg, iter, ifs, 0⟩] scope pos) 0 (.ref it) .none cenv) ((model prog w).den (.compStart (.GeneratorExp elt [⟨tg, iter, ifs, 0⟩] scope pos) 0 (.ref it) .none cenv)) [] s := by
  show Seg _ A _ _ _ s₀ _ ((compStart (.GeneratorExp elt [⟨tg, iter, ifs, 0⟩] scope pos) 0 (.ref it) .none cenv).onRaise (leaving cenv)) [] s
  unfold compStart
  rw [Sem.onRaise_eq_wrap]
  show Seg _ A _ _ _ s₀ _ ((ask >>= _).wrap _ _ _ _) [] s
  refine seg_bind_wrap (wpAny_askSetting ?_)
  split
  · exact seg_again rfl loop
  · first
      | exact seg_bind_wrap (wpAny_rule (seg_bind_wrap (wpAny_standAt (seg_bind_wrap (self _ _ _ (seg_again rfl loop))))))
      | (refine seg_bind_wrap (wpAny_rule ?_); show Seg _ A _ _ _ s₀ _ ((standAt iter.pos >>= _).wrap _ _ _ _) [] s; exact seg_bind_wrap (wpAny_standAt (seg_bind_wrap (self _ _ _ (seg_again rfl loop)))))
end
section
variable {X : Cx} {A : Around} {s : Shared} {pl : List Addr} {H0 : Hp} {cenv : Env} {fp : List Addr} {σ : St} {tn : Nat → Heap → Prop} {W : Nat → Shared → Nat → Nat → Hp → Prop} {Fin : Nat → Shared → Hp → Prop} {Yl : Nat → Shared → Nat → Nat → V → Hp → Prop} {A' : Around}
/-- how a generator stands: in state s' it goes on with n wakings at most -/
def GGo (X : Cx) (A A' : Around) (s : Shared) (pl : List Addr) (H0 : Hp) (cenv : Env) (fp : List Addr) (σ : St) (tn : Nat → Heap → Prop) (W : Nat → Shared → Nat → Nat → Hp → Prop) (Fin : Nat → Shared → Hp → Prop) (Yl : Nat → Shared → Nat → Nat → V → Hp → Prop) (n : Nat) (gs : GenState) (s' : Shared) : Prop :=
  gs.Goes (model X.prog X.w) A.in1 (fun n s₀ r s₁ => r = .ok .next ∧ GFin X A' s pl H0 cenv fp σ Fin n s₀ s₁) (GYld X A' s pl H0 cenv fp σ tn W Yl) n (.send .none) s'
/-- its next -/
theorem gen_next {E : Value → Shared → Prop} {a : Addr} {gi n : Nat} {gs : GenState} {s' : Shared} {Q : Option Value → Shared → Prop} (hh : A.handled = none) (hl : s'.heap.NoLimit) (room : A.depth < recursionLimit) (hg : s'.heap.IsGen a gi) (hgs : s'.gens[gi]? = some gs)
    (go : GGo X A A' s pl H0 cenv fp σ tn W Fin Yl (n + 1) gs (s'.setGen gi .running))
    (hY : ∀ v s1 gs' i m y H1, gs'.bare = true → Inv (X.gen A' s (s'.setGen gi .running) pl H0 cenv fp) [] σ H1 s1 → RelV y v → tn (i + 1) s1.heap → (∀ b ∈ fp, H1 b = none) → m ≤ n → Yl (n + 1) (s'.setGen gi .running) i m y H1 →
      (∀ s2 H2 m2, m2 < n → W n s2 (i + 1) m2 H2 → Inv (X.gen A' s s2 pl H0 cenv fp) [] σ H2 s2 → tn (i + 1) s2.heap → (∀ b ∈ fp, H2 b = none) → GGo X A A' s pl H0 cenv fp σ tn W Fin Yl n gs' s2) → Q (some v) (s1.setGen gi gs'))
    (hP : ∀ s1 H1, Inv (X.gen A' s (s'.setGen gi .running) pl H0 cenv fp) [] σ H1 s1 → Fin (n + 1) (s'.setGen gi .running) H1 → ∀ h', (∀ b o, s1.heap.get? b = some o → h'.get? b = some o) → Q none { s1.setGen gi .finished with heap := h' }) :
    wpAny (model X.prog X.w) A (pyNext (.ref a)) Q E s' := by
  refine wpAny_pyNext_genexpQ (P := GFin X A' s pl H0 cenv fp σ Fin) (Y := GYld X A' s pl H0 cenv fp σ tn W Yl) (n := n + 1) hh hl room hg hgs go (fun v s1 gs' hb ⟨i, m, y, H1, I, r, st, nf, hm, yl, k⟩ => ?_) (fun s1 ⟨H1, I, f⟩ h' kp => hP s1 H1 I f h' kp)
  exact hY v s1 gs' i m y H1 hb I r st nf hm yl fun s2 H2 m2 h1 h2 h3 h4 h5 => k s2 H2 m2 h1 h2 h3 h4 h5
end
end L2

set_option Elab.async false
set_option linter.all false
set_option maxRecDepth 100000
namespace L2
open PySem PySem.Spec PyProof.Rows
section
variable {A : Around} {elt : Expr} {gs : List Comprehension} {scope : Scope} {pos : Pos} {k : Nat} {it acc : Value} {cenv : Env}
theorem over_frames {l : List Env} (h : A.frames = some l) : (A.over (.compLoop (.GeneratorExp elt gs scope pos) 0 it acc cenv) []).frames = some (cenv :: l) := by
  show pushEnvs (Code.envs (.compLoop (.GeneratorExp elt gs scope pos) 0 it acc cenv)) (pushEnvs [] A.frames) = _
  rw [h]
  first | rfl | simp [pushEnvs, Code.envs, Code.isFrame, envsOf]
theorem over_handled (h : A.handled = none) : (A.over (.compLoop (.GeneratorExp elt gs scope pos) 0 it acc cenv) []).handled = none := h
theorem over_depth : (A.over (.compLoop (.GeneratorExp elt gs scope pos) 0 it acc cenv) []).depth ≤ A.depth + 1 := by
  show A.depth + frameCount [] + Code.weight (.compLoop (.GeneratorExp elt gs scope pos) 0 it acc cenv) ≤ _
  first | exact Nat.le_refl _ | (simp [frameCount, Code.weight]; done) | decide
theorem over_units : (A.over (.compLoop (.GeneratorExp elt gs scope pos) 0 it acc cenv) []).units ≤ A.units + 8 := by
  show A.units + unitsOf [] + Code.cUnits (.compLoop (.GeneratorExp elt gs scope pos) 0 it acc cenv) ≤ _
  first | (have : unitsOf [] = 0 := rfl; have : Code.cUnits (.compLoop (.GeneratorExp elt gs scope pos) 0 it acc cenv) ≤ 8 := by decide; omega) | (have : unitsOf [] = 0 := rfl; have e : Code.cUnits (.compLoop (.GeneratorExp elt gs scope pos) 0 it acc cenv) = 3 := rfl; omega)
theorem Room.gen (r : Room (k + 1) A) : Room k (A.over (.compLoop (.GeneratorExp elt gs scope pos) 0 it acc cenv) []) :=
  ⟨over_handled r.hd, by have := r.dp; have := over_depth (A := A) (elt := elt) (gs := gs) (scope := scope) (pos := pos) (it := it) (acc := acc) (cenv := cenv); omega,
    by have := r.un; have := over_units (A := A) (elt := elt) (gs := gs) (scope := scope) (pos := pos) (it := it) (acc := acc) (cenv := cenv); omega,
    by first | exact r.gd | simpa [Around.over, pushGuards, Code.guards, Code.isGuard, guardIds, guardsOf] using r.gd⟩
end
end L2

set_option Elab.async false
set_option linter.all false
set_option maxRecDepth 100000
namespace L2
open PySem PySem.Spec PyProof.Rows
/-- the builtins' module stands in the base -/
def BM (mg : Str → Option Value) (base : Heap) : Prop := (∃ bm ob, BMod base mainGlobals mg bm ob) ∧ base.NoSeer ∧ base.NoDigits
/-- what a def wants that makes generator expressions: its code object and that one's table -/
structure GX (X : Cx) (c P : Addr) : Prop where
  code : X.env.code = .ref c
  tab : (c, P) ∈ X.base.life.ids
  hd : PySem.W.CodeHd X.base c P
  bm : BM X.mg X.base
/-- a generator expression has been made: at a, its frame is cenv's, s4 the state ahead of the frame -/
structure Made (X : Cx) (pins : List (Addr × Obj)) (σ : St) (elt tg iter : Expr) (ifs : List Expr) (scope : Scope) (pos : Pos) (a it : Addr) (fp : List Addr) (tn : Nat → Heap → Prop) (J : It) (H4 : Hp) (cl : List (Str × Addr)) (code : Value) (s4 s5 : Shared) : Prop where
  turn : Turn X.prog X.w X.K tg J fp it tn
  st : tn 0 s4.heap
  inv : Inv X pins σ H4 s4
  fp : ∀ b ∈ fp, FpOk X pins H4 b ∧ b < s4.heap.objs.size
  hcl : cl = cloFrom X.env.cells scope.names []
  ns : s5.heap.Ns s4.heap.objs.size (fun y => if y = ".0" then some (.ref it) else none)
  kp : ∀ b o, s4.heap.get? b = some o → s5.heap.get? b = some o
  os : s5.os = s4.os
  gens : s5.gens = s4.gens.push (.fresh (.compStart (.GeneratorExp elt [⟨tg, iter, ifs, 0⟩] scope pos) 0 (.ref it) .none (genEnv scope cl s4.heap.objs.size code builtinsNs X.env)))
  gen : s5.heap.IsGen a s4.gens.size
  lt : s4.heap.objs.size < a
section
variable {X : Cx} {pins : List (Addr × Obj)} {σ : St} {H : Hp} {s : Shared}
theorem gen_make {elt tg iter : Expr} {ifs : List Expr} {scope : Scope} {own : List (Str × Nat)} {pos : Pos} {wi : TI} {c P : Addr} {R : It → Hp → Prop} {Q : Value → Shared → Prop}
    (I : Inv X pins σ H s) (hi : PI X tg iter wi) (ok : BlkOk X.N X.env.scope scope own) (hco : scope.isCoroutine = false) (nocell : ∀ y ∈ scope.names, y.2 ≠ .cell) (h0 : scope.names.lookup (".0" : Str) = some NameKind.local)
    (gx : GX X c P) (rm : X.A.depth < recursionLimit) (hs : ∀ x, genFold iter X.env x = pure x) (h : wi σ H R)
    (hQ : ∀ a it fp tn J H1 H2 cl code s4 s5, Gro H1 H2 → R J H1 → Made X pins σ elt tg iter ifs scope pos a it fp tn J H2 cl code s4 s5 → Q (.ref a) s5) :
    wpAny (model X.prog X.w) X.A (eval (.GeneratorExp elt [⟨tg, iter, ifs, 0⟩] scope pos) X.env) Q X.xe s := by
  have hfree : ∀ y ∈ scope.names, y.2 = .free → ∃ c, X.env.cells.lookup y.1 = some c := fun y hy e => by
    rcases ok.free y hy e with k | k
    · exact I.ok.has _ (.inl k)
    · exact I.ok.has _ (.inr k)
  refine wpAny_GeneratorExp_make hco (closure_ok hfree) nocell h0 ok.kind rm (thn (hi pins s σ H _ I h) fun xv s1 hx => thn hx fun itv s2 h2 => ?_) hs
  obtain ⟨it, fp, tn, J, H2, e, I2, T, st2, f2, q⟩ := h2
  subst e
  have I2' := I2.pinned f2 (T.obj _ _ st2)
  refine ⟨I2.nolimit, code_ok I2' gx.code gx.tab gx.hd fun code s3 H3 gro hg3 I3' => ?_⟩
  have I3 := I3'.unpinned (pins := pins)
  have fk : ∀ b ∈ fp, ∀ o, s2.heap.get? b = some o → s3.heap.get? b = some o := fun b hb o e => (I3'.pin (b, o) (List.mem_append_right _ (List.mem_append_right _ (mem_pinsAt hb e)))).1
  obtain ⟨bm, ob, M⟩ := gx.bm.1
  have M3 := M.keeps I3.bk
  rw [I.ok.glob]
  refine wpAny_builtinsFor M3.ns M3.name M3.ne M3.obj M3.cls M3.dict M3.data ?_
  intro h' hns hsb
  have keep' : ∀ b o, s3.heap.get? b = some o → h'.get? b = some o := fun b o e => by
    have hb : b ≠ s3.heap.objs.size := Nat.ne_of_lt (Heap.lt_size e)
    exact (hsb.2 b hb).trans (Heap.get?_push_of_some _ e)
  refine hQ h'.objs.size it fp tn J H2 H3 _ code s3 _ gro q ⟨T, T.keep _ _ _ st2 fk, I3, fun b hb => ?_, rfl, ?_, fun b o e => Heap.get?_push_of_some _ (keep' b o e), rfl, ?_, ?_, ?_⟩
  · obtain ⟨o, e, _⟩ := T.obj _ _ st2 b hb
    refine ⟨⟨?_, (f2 b hb).2⟩, Heap.lt_size (fk b hb o e)⟩
    exact (I3'.pin (b, o) (List.mem_append_right _ (List.mem_append_right _ (mem_pinsAt hb e)))).2.1
  · exact hns.keeps fun b o e => Heap.get?_push_of_some _ e
  · rfl
  · exact ⟨_, _, _, Heap.get?_push_size _ rfl, rfl, rfl, rfl⟩
  · exact hns.lt
end
end L2

set_option Elab.async false
set_option linter.all false
set_option maxRecDepth 100000
namespace L2
open PySem PySem.Spec PyProof.Rows
theorem AllBare.set {g : Array GenState} {i : Nat} {x : GenState} (h : AllBare g) (hx : x.bare = true) : AllBare (g.setIfInBounds i x) := fun y hy => by
  obtain ⟨k, hk, e⟩ := Array.getElem_of_mem hy
  rw [Array.getElem_setIfInBounds (by simpa using hk)] at e
  split at e
  · rw [← e]; exact hx
  · rw [← e]; exact h _ (Array.getElem_mem _)
theorem GG.set {g g' : Array GenState} {i : Nat} {x : GenState} (h : GG g g') (hi : g.size ≤ i) : GG g (g'.setIfInBounds i x) :=
  ⟨by rw [Array.size_setIfInBounds]; exact h.1, fun k hk => by
    rw [Array.getElem?_setIfInBounds_ne (by omega)]
    exact h.2 k hk⟩
/-- the place and the def of a generator expression -/
structure GB (X : Cx) (pins0 : List (Addr × Obj)) (σ0 : St) (A A' : Around) (s : Shared) (H0 : Hp) (cenv : Env) (fp : List Addr) : Prop where
  inv : Inv X pins0 σ0 H0 s
  fp : ∀ b ∈ fp, FpOk X pins0 H0 b ∧ b < s.heap.objs.size
  loc : cenv.locals = s.heap.objs.size
  cells : ∀ x c, cenv.cells.lookup x = some c → c < s.heap.objs.size
  fr : A'.frames = some (cenv :: X.stack)
  hd : X.calm = true → A'.handled = none
  calm : X.calm = true
  hA : A.handled = none
  room : A.depth < recursionLimit
/-- a generator asleep -/
structure Asl (X : Cx) (A A' : Around) (s : Shared) (pl : List Addr) (H0 : Hp) (cenv : Env) (fp : List Addr) (σ : St) (tn : Nat → Heap → Prop) (W : Nat → Shared → Nat → Nat → Hp → Prop) (Fin : Nat → Shared → Hp → Prop) (Yl : Nat → Shared → Nat → Nat → V → Hp → Prop) (a : Addr) (n i : Nat) (H : Hp) (s' : Shared) (gs : GenState) : Prop where
  gen : s'.heap.IsGen a s.gens.size
  st : s'.gens[s.gens.size]? = some gs
  bare : AllBare s'.gens
  gg : GG s.gens s'.gens
  inv : Inv (X.gen A' s s' [] H0 cenv fp) [] σ H s'
  at_ : tn i s'.heap
  fpn : ∀ b ∈ fp, H b = none
  go : ∀ s2 H2 m2, m2 < n → W n s2 i m2 H2 → Inv (X.gen A' s s2 pl H0 cenv fp) [] σ H2 s2 → tn i s2.heap → (∀ b ∈ fp, H2 b = none) → GGo X A A' s pl H0 cenv fp σ tn W Fin Yl n gs s2
section
variable {X : Cx} {pins0 : List (Addr × Obj)} {σ0 : St} {A A' : Around} {s : Shared} {pl : List Addr} {H0 : Hp} {cenv : Env} {fp : List Addr} {σ : St} {tn : Nat → Heap → Prop} {W : Nat → Shared → Nat → Nat → Hp → Prop} {Fin : Nat → Shared → Hp → Prop} {Yl : Nat → Shared → Nat → Nat → V → Hp → Prop} {a : Addr} {n i m : Nat} {H : Hp} {s' : Shared} {gs : GenState}
theorem GB.nofr (B : GB X pins0 σ0 A A' s H0 cenv fp) {b : Addr} (h : s.heap.objs.size < b) : b ∉ frs X.stack := fun hb => by
  rcases List.mem_cons.mp (B.inv.stkSub b hb) with z | z
  · exact absurd (z ▸ B.inv.lt) (Nat.not_lt.mpr (Nat.le_of_lt h))
  · exact B.inv.nofs (Nat.le_of_lt h) z
/-- the consumer's own objects -/
theorem Asl.wait {s2 : Shared} {sp : List Addr} (L : Asl X A A' s pl H0 cenv fp σ tn W Fin Yl a n i H s' gs) (B : GB X pins0 σ0 A A' s H0 cenv fp)
    (keep : ∀ h h' : Heap, tn i h → (∀ b ∈ fp, ∀ o, h.get? b = some o → h'.get? b = some o) → tn i h')
    (hsp : ∀ b ∈ sp, s.heap.objs.size < b ∧ H b = none) (ha : a ∉ sp) (k : ∀ b o, b ∉ sp → s'.heap.get? b = some o → s2.heap.get? b = some o) (hg : s2.gens = s'.gens) (ho : s2.os = s'.os) :
    Asl X A A' s pl H0 cenv fp σ tn W Fin Yl a n i H s2 gs := by
  refine ⟨?_, by rw [hg]; exact L.st, by rw [hg]; exact L.bare, by rw [hg]; exact L.gg, ?_, keep _ _ L.at_ fun b hb o e => k b o (fun z => ?_) e, L.fpn, L.go⟩
  · obtain ⟨o, nm, qn, e, r⟩ := L.gen
    exact ⟨o, nm, qn, k a o ha e, r⟩
  · refine gen_move (sp := sp) L.inv B.fr B.hd ho (by rw [hg]; exact L.bare) (fun b hb => ⟨Nat.le_of_lt (hsp b hb).1, (hsp b hb).2, by rw [B.loc]; exact Nat.ne_of_gt (hsp b hb).1, fun x c e z => ?_⟩) k (fun b hb => nomatch hb)
    exact absurd (z ▸ B.cells x c e) (Nat.not_lt.mpr (Nat.le_of_lt (hsp b hb).1))
  · exact absurd (B.fp b hb).2 (Nat.not_lt.mpr (Nat.le_of_lt (hsp b z).1))
/-- back in the def, the generator asleep -/
theorem Asl.back {s2 : Shared} (L : Asl X A A' s pl H0 cenv fp σ tn W Fin Yl a n i H s' gs) (B : GB X pins0 σ0 A A' s H0 cenv fp) (k : ∀ b o, s'.heap.get? b = some o → s2.heap.get? b = some o) (hg : s2.gens = s'.gens) (ho : s2.os = s'.os) : Inv X pins0 σ0 H s2 :=
  gen_back B.inv L.inv ho (by rw [hg]; exact ⟨L.bare, L.gg⟩) (fun b hb => (B.fp b hb).1) (fun b o _ e => k b o e) (L.inv.hok.kept k)
theorem Asl.next {E : Value → Shared → Prop} {Q : Option Value → Shared → Prop} (L : Asl X A A' s pl H0 cenv fp σ tn W Fin Yl a n i H s' gs) (B : GB X pins0 σ0 A A' s H0 cenv fp) (hm : m < n) (w : W n (s'.setGen s.gens.size .running) i m H) (ha : a ∈ pl)
    (hpl : ∀ b ∈ pl, s.heap.objs.size < b ∧ H b = none ∧ ∀ o, s'.heap.get? b = some o → ∀ v, o.data ≠ .cell v)
    (hY : ∀ (v : Value) (y : V) (s1 : Shared) (gs' : GenState) (i' m' : Nat) (H1 : Hp), m' < n → RelV y v → Yl n (s'.setGen s.gens.size .running) i' m' y H1 → Asl X A A' s pl H0 cenv fp σ tn W Fin Yl a (n - 1) (i' + 1) H1 (s1.setGen s.gens.size gs') gs' → (∀ b ∈ pl, ∀ o, s'.heap.get? b = some o → s1.heap.get? b = some o ∧ H1 b = none) → Q (some v) (s1.setGen s.gens.size gs'))
    (hP : ∀ (s1 : Shared) (H1 : Hp), Fin n (s'.setGen s.gens.size .running) H1 → Inv X pins0 σ0 H1 s1 → (∀ b ∈ pl, ∀ o, s'.heap.get? b = some o → s1.heap.get? b = some o ∧ H1 b = none) → Q none s1) :
    wpAny (model X.prog X.w) A (pyNext (.ref a)) Q E s' := by
  obtain ⟨k, rfl⟩ : ∃ k, n = k + 1 := ⟨n - 1, by omega⟩
  have bz : AllBare (s'.setGen s.gens.size .running).gens := AllBare.set L.bare rfl
  have Iz : Inv (X.gen A' s (s'.setGen s.gens.size .running) pl H0 cenv fp) [] σ H (s'.setGen s.gens.size .running) :=
    gen_move (sp := []) L.inv B.fr B.hd rfl bz (fun b hb => nomatch hb) (fun b o _ e => e) fun b hb => ⟨(hpl b hb).2.1, by rw [B.loc]; exact Nat.ne_of_gt (hpl b hb).1, B.nofr (hpl b hb).1, (hpl b hb).2.2⟩
  have gz : GG s.gens (s'.setGen s.gens.size .running).gens := GG.set L.gg (Nat.le_refl _)
  have lt : s.gens.size < s'.gens.size := by
    have := L.st
    rcases Nat.lt_or_ge s.gens.size s'.gens.size with z | z
    · exact z
    · rw [Array.getElem?_eq_none z] at this; cases this
  have still : ∀ {s1 : Shared} {H1 : Hp}, Inv (X.gen A' s (s'.setGen s.gens.size .running) pl H0 cenv fp) [] σ H1 s1 → ∀ b ∈ pl, ∀ o, s'.heap.get? b = some o → s1.heap.get? b = some o ∧ H1 b = none := fun I1 b hb o e => gen_still I1 hb e
  refine gen_next (n := k) B.hA L.inv.nolimit B.room L.gen L.st (L.go _ H m hm w Iz L.at_ L.fpn) (fun v s1 gs' i' m' y H1 hb I1 r t1 f1 hm1 yl go => ?_) fun s1 H1 I1 fin h' kp => ?_
  · have gg1 : GG s.gens s1.gens := gz.trans I1.bare.2
    have lt1 : s.gens.size < s1.gens.size := Nat.lt_of_lt_of_le lt (by have := I1.bare.2.1; exact Nat.le_trans (by show s'.gens.size ≤ (s'.gens.setIfInBounds _ _).size; rw [Array.size_setIfInBounds]; exact Nat.le_refl _) this)
    have b1 : AllBare (s1.setGen s.gens.size gs').gens := AllBare.set I1.bare.1 hb
    refine hY v y s1 gs' i' m' H1 (by omega) r yl ⟨?_, ?_, b1, GG.set gg1 (Nat.le_refl _), ?_, t1, f1, go⟩ (still I1)
    · obtain ⟨o, nm, qn, e, r'⟩ := L.gen
      exact ⟨o, nm, qn, (still I1 a ha o e).1, r'⟩
    · show (s1.gens.setIfInBounds s.gens.size gs')[s.gens.size]? = some gs'
      rw [Array.getElem?_setIfInBounds_self_of_lt lt1]
    · exact gen_move (sp := []) I1 B.fr B.hd rfl b1 (fun b hb => nomatch hb) (fun b o _ e => e) fun b hb => nomatch hb
  · refine hP _ H1 fin (gen_back B.inv I1 rfl ⟨AllBare.set I1.bare.1 rfl, GG.set (gz.trans I1.bare.2) (Nat.le_refl _)⟩ (fun b hb => (B.fp b hb).1) (fun b o _ e => kp b o e) (I1.hok.kept kp)) fun b hb o e => ⟨kp b o (still I1 b hb o e).1, (still I1 b hb o e).2⟩
end
end L2

set_option Elab.async false
set_option linter.all false
set_option maxRecDepth 100000
namespace L2
open PySem PySem.Spec PyProof.Rows
section
variable {X : Cx} {pins : List (Addr × Obj)} {σ : St} {elt tg iter : Expr} {ifs : List Expr} {scope : Scope} {own : List (Str × Nat)} {pos : Pos} {a it : Addr} {fp : List Addr} {tn : Nat → Heap → Prop} {J : It} {H4 : Hp} {cl : List (Str × Addr)} {code : Value} {s4 s5 : Shared} {A : Around} {cenv : Env}
theorem Made.place (M : Made X pins σ elt tg iter ifs scope pos a it fp tn J H4 cl code s4 s5) (ok : BlkOk X.N X.env.scope scope own) (hcenv : genEnv scope cl s4.heap.objs.size code builtinsNs X.env = cenv) (hc : X.calm = true) (fr : A.frames = some X.stack) (hA : A.handled = none) (room : A.depth < recursionLimit) :
    GB X pins σ A (A.in1.over (.compLoop (.GeneratorExp elt [⟨tg, iter, ifs, 0⟩] scope pos) 0 (.ref it) .none cenv) []) s4 H4 cenv fp := by
  refine ⟨M.inv, M.fp, by rw [← hcenv]; rfl, fun x c e => ?_, over_frames fr, fun _ => over_handled hA, hc, hA, room⟩
  have hcl : cenv.cells = cloFrom X.env.cells scope.names [] := by rw [← hcenv, ← M.hcl]; rfl
  rw [hcl] at e
  rcases cloFrom_mem (PySem.mem_of_lookup e) with hm | ⟨h1, rfl⟩
  · cases hm
  · obtain ⟨c, hc⟩ : ∃ c, X.env.cells.lookup x = some c := by
      rcases ok.free _ h1 rfl with k | k
      · exact M.inv.ok.has _ (.inl k)
      · exact M.inv.ok.has _ (.inr k)
    rw [hc]
    obtain ⟨w, z⟩ := M.inv.cell _ _ hc
    exact z.lt
theorem Made.asleep {n : Nat} {pl : List Addr} {g : TG} {tt : TT} {te : TE} {W : Nat → Shared → Nat → Nat → Hp → Prop} {Fin : Nat → Shared → Hp → Prop} {Yl : Nat → Shared → Nat → Nat → V → Hp → Prop}
    (M : Made X pins σ elt tg iter ifs scope pos a it fp tn J H4 cl code s4 s5) (ok : BlkOk X.N X.env.scope scope own) (hN : X.N.Nodup) (nocell : ∀ y ∈ scope.names, y.2 ≠ .cell) (hco : scope.isCoroutine = false)
    (hcenv : genEnv scope cl s4.heap.objs.size code builtinsNs X.env = cenv) (hc : X.calm = true) (fr : A.frames = some X.stack) (hA : A.handled = none) (hpl : ∀ b ∈ pl, s4.heap.objs.size < b)
    (hg : ∀ z, PG (X.gen (A.in1.over (.compLoop (.GeneratorExp elt [⟨tg, iter, ifs, 0⟩] scope pos) 0 (.ref it) .none cenv) []) s4 z pl H4 cenv fp) tg g)
    (ht : ∀ z, PTs (X.gen (A.in1.over (.compLoop (.GeneratorExp elt [⟨tg, iter, ifs, 0⟩] scope pos) 0 (.ref it) .none cenv) []) s4 z pl H4 cenv fp) ifs tt)
    (he : ∀ z, PE (X.gen (A.in1.over (.compLoop (.GeneratorExp elt [⟨tg, iter, ifs, 0⟩] scope pos) 0 (.ref it) .none cenv) []) s4 z pl H4 cenv fp) elt te)
    (rd : GenR J g tt te (own.map (·.2)) σ W Fin Yl) :
    Asl X A (A.in1.over (.compLoop (.GeneratorExp elt [⟨tg, iter, ifs, 0⟩] scope pos) 0 (.ref it) .none cenv) []) s4 pl H4 cenv fp (wipe σ (own.map (·.2))) tn W Fin Yl a n 0 H4 s5
      (.fresh (.compStart (.GeneratorExp elt [⟨tg, iter, ifs, 0⟩] scope pos) 0 (.ref it) .none cenv)) := by
  have bare5 : AllBare s5.gens := by
    rw [M.gens]
    intro y hy
    rcases Array.mem_push.mp hy with hy | hy
    · exact M.inv.bare.1 y hy
    · subst hy; rfl
  have I5 := gen_start (A := A.in1.over (.compLoop (.GeneratorExp elt [⟨tg, iter, ifs, 0⟩] scope pos) 0 (.ref it) .none cenv) []) (cenv := cenv) M.inv ok hN nocell M.fp (by rw [← M.hcl]; exact hcenv) (over_frames fr) (fun _ => over_handled hA) M.ns M.kp bare5 M.os
  refine ⟨M.gen, ?_, bare5, ?_, I5, M.turn.keep _ _ _ M.st fun b hb o e => M.kp b o e, fun b hb => (M.fp b hb).1.1, fun s2 H2 m2 hm2 w2 I2 t2 f2 => ?_⟩
  · rw [M.gens, hcenv]; simp
  · rw [M.gens]
    exact ⟨by simp, fun i hi => by rw [Array.getElem?_push]; simp [Nat.ne_of_lt hi]⟩
  · refine ⟨rfl, gen_first (fun B Q E hq => M.turn.self B 0 s2 Q E t2 hq) ?_⟩
    refine gen_loop rfl hc M.turn (by rw [← hcenv]; exact hco) (fun b hb hp => ?_) hg ht he rd n m2 0 H2 s2 s2 hm2 w2 I2 t2 f2
    exact absurd (hpl b hp) (Nat.not_lt.mpr (Nat.le_of_lt (M.fp b hb).2))
end
/-! ### all(..), any(..) -/
section
variable {X : Cx} {pins0 : List (Addr × Obj)} {σ0 : St} {A A' : Around} {s : Shared} {H0 : Hp} {cenv : Env} {fp : List Addr} {σ : St} {tn : Nat → Heap → Prop} {a : Addr} {Q : VK} {R : Result → Shared → Prop}
theorem gen_nocell {s' : Shared} {a : Addr} {g : Nat} (h : s'.heap.IsGen a g) : ∀ o, s'.heap.get? a = some o → ∀ v, o.data ≠ .cell v := fun o e v z => by
  obtain ⟨o', nm, qn, e', r⟩ := h
  rw [e] at e'; cases e'
  rw [z] at r
  first | exact (nomatch r.2) | (obtain ⟨_, h2, _⟩ := r; cases h2) | (simp at r)
abbrev YAll (Q : VK) (b : Bool) (Wr : Nat → Nat → Hp → Prop) : Nat → Shared → Nat → Nat → V → Hp → Prop := fun _ _ i m y H => (y = .bl b ∧ Q (.bl b) H) ∨ (y = .bl (!b) ∧ ∃ m', m' < m ∧ Wr (i + 1) m' H)
theorem all_loop {Wr : Nat → Nat → Hp → Prop} (B : GB X pins0 σ0 A.in1 A' s H0 cenv fp) (la : s.heap.objs.size < a) (hR : ∀ u s2, EP X pins0 σ0 Q u s2 → R (.ok (.ret u)) s2) :
    ∀ (n m i : Nat) (H : Hp) (s' : Shared) (gs : GenState), m < n → Wr i m H → H a = none →
      Asl X A.in1 A' s [a] H0 cenv fp σ tn (fun _ _ => Wr) (fun _ _ H => Q (.bl true) H) (YAll Q false Wr) a n i H s' gs → codeAny (model X.prog X.w) A (.builtin "all.loop" ⟨[.ref a], []⟩) R s' := by
  intro n
  induction n with
  | zero => intro m i H s' gs hm; omega
  | succ n ih =>
    intro m i H s' gs hm w hH L
    refine codeAny_builtin F.entry_all_loop (by
      rw [Around.under_plainId F.plain_all_loop _]
      show wpAny (model X.prog X.w) A.in1 (pyNext (.ref a) >>= _) _ _ s'
      refine wpAny_bind (L.next B hm w (List.mem_singleton.mpr rfl) (fun b hb => ?_) (fun v y s1 gs' i' m' H1 hm' r yl L1 st => ?_) fun s1 H1 fin I1 st => ?_)
      · obtain rfl := List.mem_singleton.mp hb
        exact ⟨la, hH, gen_nocell L.gen⟩
      · rcases yl with ⟨rfl, q⟩ | ⟨rfl, m2, hm2, w2⟩
        · obtain rfl : v = Value.bool false := r
          refine wpAny_bind (wpAny_holding (wpAny_truthy_bool (wpAny_bind (wpAny_letGo ?_))))
          simp only [Bool.false_eq_true, if_false]
          exact wpAny_bind (wpAny_rule (wpAny_pure (hR _ _ ⟨.bl false, H1, L1.back B (fun _ _ e => e) rfl rfl, rfl, q⟩)))
        · obtain rfl : v = Value.bool true := r
          refine wpAny_bind (wpAny_holding (wpAny_truthy_bool (wpAny_bind (wpAny_letGo ?_))))
          simp only [if_true]
          obtain ⟨o, nm, qn, eo, _⟩ := L.gen
          exact wpAny_pure ⟨plainId_quiet F.plain_all_loop _, ih m2 (i' + 1) H1 _ gs' (by omega) w2 (st a (List.mem_singleton.mpr rfl) o eo).2 L1⟩
      · exact wpAny_bind (wpAny_rule (wpAny_pure (hR _ _ ⟨.bl true, H1, I1, rfl, fin⟩))))
end
end L2

set_option Elab.async false
set_option linter.all false
set_option maxRecDepth 100000
namespace L2
open PySem PySem.Spec PyProof.Rows
/-- a consumer's own list -/
abbrev lstO (us : Array Value) (c : Nat) : Obj := { cls := .type "list", dict := none, data := .seq us c, slots := #[] }
section
variable {X : Cx} {pins0 : List (Addr × Obj)} {σ0 : St} {A A' : Around} {s : Shared} {H0 : Hp} {cenv : Env} {fp : List Addr} {σ : St} {tn : Nat → Heap → Prop} {a S : Addr} {Q : VK} {R : Result → Shared → Prop}
/-! ### sum(..) of whole numbers -/
abbrev WSum (S : Addr) (Wr : Int → Nat → Nat → Hp → Prop) : Nat → Shared → Nat → Nat → Hp → Prop := fun _ z i m H => ∃ t k c, z.heap.get? S = some (lstO #[.int t k] c) ∧ Wr t i m H
abbrev FSum (S : Addr) (Q : VK) : Nat → Shared → Hp → Prop := fun _ z H => ∃ t k c, z.heap.get? S = some (lstO #[.int t k] c) ∧ Q (.int t) H
abbrev YSum (S : Addr) (Wr : Int → Nat → Nat → Hp → Prop) : Nat → Shared → Nat → Nat → V → Hp → Prop := fun _ z i m y H => ∃ t k c j, z.heap.get? S = some (lstO #[.int t k] c) ∧ y = .int j ∧ InLong j ∧ InLong (t + j) ∧ ∃ m', m' < m ∧ Wr (t + j) (i + 1) m' H
theorem sum_loop {Wr : Int → Nat → Nat → Hp → Prop} (B : GB X pins0 σ0 A.in1 A' s H0 cenv fp) (la : s.heap.objs.size < a) (lS : s.heap.objs.size < S) (aS : a ≠ S) (kp : ∀ i h h', tn i h → (∀ b ∈ fp, ∀ o, h.get? b = some o → h'.get? b = some o) → tn i h')
    (hR : ∀ u s2, EP X pins0 σ0 Q u s2 → R (.ok (.ret u)) s2) :
    ∀ (n m i : Nat) (t : Int) (k : Tok) (c : Nat) (H : Hp) (s' : Shared) (gs : GenState), m < n → Wr t i m H → H a = none → H S = none → s'.heap.get? S = some (lstO #[.int t k] c) →
      Asl X A.in1 A' s [a, S] H0 cenv fp σ tn (WSum S Wr) (FSum S Q) (YSum S Wr) a n i H s' gs → codeAny (model X.prog X.w) A (.builtin "sum.loop" ⟨[.ref a, .ref S, rawInt 0, rawInt 0], []⟩) R s' := by
  intro n
  induction n with
  | zero => intro m i t k c H s' gs hm; omega
  | succ n ih =>
    intro m i t k c H s' gs hm w hH hHS hS L
    refine codeAny_builtin F.entry_sum_loop (by
      rw [Around.under_plainId F.plain_sum_loop _]
      show wpAny (model X.prog X.w) A.in1 (seqItems? (.ref S) >>= _) _ _ s'
      refine wpAny_bind (wpAny_seqItems hS rfl ?_)
      show wpAny (model X.prog X.w) A.in1 (tryCatch (pyNext (.ref a)) _ >>= _) _ _ s'
      refine wpAny_bind (wpAny_tryCatch (L.next B hm ⟨t, k, c, hS, w⟩ (List.mem_cons_self ..) (fun b hb => ?_) (fun v y s1 gs' i' m' H1 hm' r yl L1 st => ?_) fun s1 H1 fin I1 st => ?_))
      · rcases List.mem_cons.mp hb with rfl | hb
        · exact ⟨la, hH, gen_nocell L.gen⟩
        · obtain rfl := List.mem_singleton.mp hb
          exact ⟨lS, hHS, fun o e v z => by rw [hS] at e; cases e; cases z⟩
      · obtain ⟨t', k', c', j, e, rfl, f1, f2, m2, hm2, w2⟩ := yl
        have e : s'.heap.get? S = some (lstO #[.int t' k'] c') := e
        rw [hS] at e
        injection e with e
        injection e with _ _ e _
        injection e with e _
        have e := congrArg (fun x => x.toList) e
        injection e with e _
        injection e with e _
        subst e
        obtain ⟨kt, rfl⟩ := r
        have hS1 := (st S (List.mem_cons_of_mem _ (List.mem_singleton.mpr rfl)) _ hS).1
        have hc : ((decide (-(2 ^ 63) ≤ j) && decide (j < 2 ^ 63)) && (decide (-(2 ^ 63) ≤ t + j) && decide (t + j < 2 ^ 63))) = true := by
          simp only [Bool.and_eq_true, decide_eq_true_eq]
          exact ⟨f1, f2⟩
        show wpAny (model X.prog X.w) A.in1 (if (_ : Bool) = true then (mkInt (t + j) >>= _) else _) _ _ _
        split
        · refine wpAny_bind (wpAny_mkInt ?_)
          show wpAny (model X.prog X.w) A.in1 (updateSeq S (fun _ => #[.int (t + j) s1.toks]) >>= _) _ _ _
          refine wpAny_bind (wpAny_updateSeq hS1 rfl (wpAny_pure ⟨plainId_quiet F.plain_sum_loop _, ?_⟩))
          obtain ⟨o, nm, qn, eo, _⟩ := L.gen
          have s1S := (st S (List.mem_cons_of_mem _ (List.mem_singleton.mpr rfl)) _ hS).2
          refine ih m2 (i' + 1) (t + j) s1.toks _ H1 _ gs' (by omega) w2 (st a (List.mem_cons_self ..) o eo).2 s1S (Heap.get?_update_self _ hS1 rfl) ?_
          refine L1.wait (sp := [S]) B (kp _) (fun b hb => ?_) (fun z => aS (List.mem_singleton.mp z)) (fun b o hb eb => ?_) rfl rfl
          · obtain rfl := List.mem_singleton.mp hb
            exact ⟨lS, s1S⟩
          · exact (Heap.get?_update_other _ _ (fun z : S = b => hb (List.mem_singleton.mpr z.symm))).trans eb
        · rename_i hneg
          exact absurd hc hneg
      · obtain ⟨t', k', c', e, q⟩ := fin
        have e : s'.heap.get? S = some (lstO #[.int t' k'] c') := e
        rw [hS] at e
        injection e with e
        injection e with _ _ e _
        injection e with e _
        have e := congrArg (fun x => x.toList) e
        injection e with e _
        injection e with e _
        subst e
        exact wpAny_pure (hR _ _ ⟨.int t, H1, I1, ⟨_, rfl⟩, q⟩))
/-! ### a list is made of what comes -/
abbrev WCol (S : Addr) (Wr : List V → Nat → Nat → Hp → Prop) : Nat → Shared → Nat → Nat → Hp → Prop := fun _ z i m H => ∃ us c vs, z.heap.get? S = some (lstO us c) ∧ Vals vs us.toList ∧ Wr vs i m H
abbrev FCol (S : Addr) (Qf : List V → Hp → Prop) : Nat → Shared → Hp → Prop := fun _ z H => ∃ us c vs, z.heap.get? S = some (lstO us c) ∧ Vals vs us.toList ∧ Qf vs H
abbrev YCol (S : Addr) (Wr : List V → Nat → Nat → Hp → Prop) : Nat → Shared → Nat → Nat → V → Hp → Prop := fun _ z i m y H => ∃ us c vs, z.heap.get? S = some (lstO us c) ∧ Vals vs us.toList ∧ vs.length < sizeLine ∧ ∃ m', m' < m ∧ Wr (vs ++ [y]) (i + 1) m' H
theorem col_loop {Wr : List V → Nat → Nat → Hp → Prop} {Qf : List V → Hp → Prop} {res : Value} (B : GB X pins0 σ0 A.in1 A' s H0 cenv fp) (la : s.heap.objs.size < a) (lS : s.heap.objs.size < S) (aS : a ≠ S) (kp : ∀ i h h', tn i h → (∀ b ∈ fp, ∀ o, h.get? b = some o → h'.get? b = some o) → tn i h')
    (hR : ∀ s2 us c vs H2, Inv X pins0 σ0 H2 s2 → s2.heap.get? S = some (lstO us c) → Vals vs us.toList → Qf vs H2 → R (.ok (.ret res)) s2) :
    ∀ (n m i : Nat) (us : Array Value) (vs : List V) (c : Nat) (H : Hp) (s' : Shared) (gs : GenState), m < n → Wr vs i m H → H a = none → H S = none → s'.heap.get? S = some (lstO us c) → Vals vs us.toList →
      Asl X A.in1 A' s [a, S] H0 cenv fp σ tn (WCol S Wr) (FCol S Qf) (YCol S Wr) a n i H s' gs → codeAny (model X.prog X.w) A (.builtin "list.extend.loop" ⟨[.ref S, .ref a, res], []⟩) R s' := by
  intro n
  induction n with
  | zero => intro m i us vs c H s' gs hm; omega
  | succ n ih =>
    intro m i us vs c H s' gs hm w hH hHS hS hV L
    have same : ∀ {us' : Array Value} {c' : Nat} {vs' : List V}, s'.heap.get? S = some (lstO us' c') → Vals vs' us'.toList → vs' = vs := fun {us' c' vs'} e hv => by
      rw [hS] at e
      injection e with e
      injection e with _ _ e _
      injection e with e _
      rw [← e] at hv
      exact hv.inj hV
    refine codeAny_builtin F.entry_extend_loop (by
      rw [Around.under_plainId F.plain_extend_loop _]
      show wpAny (model X.prog X.w) A.in1 (pyNext (.ref a) >>= _) _ _ s'
      refine wpAny_bind (L.next B hm ⟨us, c, vs, hS, hV, w⟩ (List.mem_cons_self ..) (fun b hb => ?_) (fun v y s1 gs' i' m' H1 hm' r yl L1 st => ?_) fun s1 H1 fin I1 st => ?_)
      · rcases List.mem_cons.mp hb with rfl | hb
        · exact ⟨la, hH, gen_nocell L.gen⟩
        · obtain rfl := List.mem_singleton.mp hb
          exact ⟨lS, hHS, fun o e v z => by rw [hS] at e; cases e; cases z⟩
      · obtain ⟨us', c', vs', e, hv, hl, m2, hm2, w2⟩ := yl
        obtain rfl := same e hv
        have hS1 := (st S (List.mem_cons_of_mem _ (List.mem_singleton.mpr rfl)) _ hS).1
        have s1S := (st S (List.mem_cons_of_mem _ (List.mem_singleton.mpr rfl)) _ hS).2
        obtain ⟨o, nm, qn, eo, _⟩ := L.gen
        have hsz : us.size < sizeLine := by
          have h1 := hV.length
          have h2 : us.toList.length = us.size := by simp
          omega
        show wpAny (model X.prog X.w) A.in1 (updateSeq S (·.push v) >>= _) _ _ _
        refine wpAny_bind (wpAny_updateSeq hS1 rfl (wpAny_pure ⟨plainId_quiet F.plain_extend_loop _, ?_⟩) (by show us.size ≤ sizeLine; omega) (by show (us.push v).size ≤ sizeLine + 1; rw [Array.size_push]; omega))
        refine ih m2 (i' + 1) (us.push v) _ _ H1 _ gs' (by omega) w2 (st a (List.mem_cons_self ..) o eo).2 s1S (Heap.get?_update_self _ hS1 rfl) (by rw [Array.toList_push]; exact hV.append (.cons r .nil)) ?_
        refine L1.wait (sp := [S]) B (kp _) (fun b hb => ?_) (fun z => aS (List.mem_singleton.mp z)) (fun b o hb eb => ?_) rfl rfl
        · obtain rfl := List.mem_singleton.mp hb
          exact ⟨lS, s1S⟩
        · exact (Heap.get?_update_other _ _ (fun z : S = b => hb (List.mem_singleton.mpr z.symm))).trans eb
      · obtain ⟨us', c', vs', e, hv, q⟩ := fin
        obtain rfl := same e hv
        exact wpAny_pure (hR _ us c _ H1 I1 (st S (List.mem_cons_of_mem _ (List.mem_singleton.mpr rfl)) _ hS).1 hV q))
end
end L2

set_option Elab.async false
set_option linter.all false
set_option maxRecDepth 100000
namespace L2
open PySem PySem.Spec PyProof.Rows
/-- a turn: N what is handed out, S where the test says no -/
abbrev GT (g : TG) (tt : TT) (te : TE) (vs : List Nat) (σ : St) (x : V) (H' : Hp) (N : VK) (S : Hp → Prop) : Prop :=
  g x (wipe σ vs) H' fun σ2 H2 => wipe σ2 vs = wipe σ vs ∧ tt σ2 H2 fun b H3 => if b = true then te σ2 H3 N else S H3
def GAll (J : It) (g : TG) (tt : TT) (te : TE) (vs : List Nat) (σ : St) (b : Bool) (H1 : Hp) (Q : VK) : Prop :=
  ∃ Wr : Nat → Nat → Hp → Prop, (∃ m, Wr 0 m H1) ∧ ∀ i m H, Wr i m H → (J.stop i H ∧ Q (.bl (!b)) H) ∨ (0 < m ∧ J.go i H ∧ ∀ x H', J.yld i H x H' → ∀ (N : VK) (S : Hp → Prop),
    (∀ H4, Q (.bl b) H4 → N (.bl b) H4) → (∀ H4, (∃ m', m' < m ∧ Wr (i + 1) m' H4) → N (.bl (!b)) H4) → (∀ H3, (∃ m', m' < m ∧ Wr (i + 1) m' H3) → S H3) → GT g tt te vs σ x H' N S)
def GSum (J : It) (g : TG) (tt : TT) (te : TE) (vs : List Nat) (σ : St) (H1 : Hp) (Q : VK) : Prop :=
  ∃ Wr : Int → Nat → Nat → Hp → Prop, (∃ m, Wr 0 0 m H1) ∧ ∀ t i m H, Wr t i m H → (J.stop i H ∧ Q (.int t) H) ∨ (0 < m ∧ J.go i H ∧ ∀ x H', J.yld i H x H' → ∀ (N : VK) (S : Hp → Prop),
    (∀ j H4, InLong j → InLong (t + j) → (∃ m', m' < m ∧ Wr (t + j) (i + 1) m' H4) → N (.int j) H4) → (∀ H3, (∃ m', m' < m ∧ Wr t (i + 1) m' H3) → S H3) → GT g tt te vs σ x H' N S)
def GCol (J : It) (g : TG) (tt : TT) (te : TE) (vs : List Nat) (σ : St) (H1 : Hp) (Q : VK) : Prop :=
  ∃ Wr : List V → Nat → Nat → Hp → Prop, (∃ m, Wr [] 0 m H1) ∧ ∀ us i m H, Wr us i m H → (J.stop i H ∧ us.length ≤ sizeLine ∧ NewT H us Q) ∨ (0 < m ∧ us.length < sizeLine ∧ J.go i H ∧ ∀ x H', J.yld i H x H' → ∀ (N : VK) (S : Hp → Prop),
    (∀ y H4, (∃ m', m' < m ∧ Wr (us ++ [y]) (i + 1) m' H4) → N y H4) → (∀ H3, (∃ m', m' < m ∧ Wr us (i + 1) m' H3) → S H3) → GT g tt te vs σ x H' N S)
/-- of a generator expression as an argument -/
def tG (r : It → Hp → VK → Prop) (wi : TI) (σ : St) : Hp → VK → Prop := fun H Q => wi σ H fun J H1 => ∀ H2, Ch none H1 H2 → r J H2 Q
def tAllG (b : Bool) (wi : TI) (g : TG) (tt : TT) (te : TE) (vs : List Nat) : TE := fun σ => tG (fun J => GAll J g tt te vs σ b) wi σ
def tSumG (wi : TI) (g : TG) (tt : TT) (te : TE) (vs : List Nat) : TE := fun σ => tG (fun J => GSum J g tt te vs σ) wi σ
def tTupG (wi : TI) (g : TG) (tt : TT) (te : TE) (vs : List Nat) : TE := fun σ => tG (fun J => GCol J g tt te vs σ) wi σ
section
variable {X : Cx} {elt tg iter : Expr} {ifs : List Expr} {scope : Scope} {own : List (Str × Nat)} {q p pos : Pos} {wi : TI} {g : TG} {tt : TT} {te : TE} {c P : Addr} {k : Nat}
theorem grown_ch {H H' : Hp} (g : Gro H H') : Ch none H H' := ⟨fun b o e s => g.1 b o e fun ps z => by subst z; exact absurd s Bool.false_ne_true, g.2⟩
theorem room_gen {A : Around} {elt : Expr} {gs : List Comprehension} {scope : Scope} {pos : Pos} {it acc : Value} {cenv : Env} (hr : Room (k + 7) A) : Room k (A.in1.in1.over (.compLoop (.GeneratorExp elt gs scope pos) 0 it acc cenv) []) :=
  Room.gen ((hr.mono (j := k + 3) (by omega)).in1.in1)
theorem pe_allG (hr : Room (k + 7) X.A) (gx : GX X c P) (hc : X.calm = true) (hgl : Gl X "all") (hm : X.mg "all" = none) (hN : X.N.Nodup) (hi : PI X tg iter wi) (ok : BlkOk X.N X.env.scope scope own)
    (hg : ∀ A' s z pl H cl L code fp, Room k A' → PG (X.gen A' s z pl H (genEnv scope cl L code builtinsNs X.env) fp) tg g) (ht : ∀ A' s z pl H cl L code fp, Room k A' → PTs (X.gen A' s z pl H (genEnv scope cl L code builtinsNs X.env) fp) ifs tt) (he : ∀ A' s z pl H cl L code fp, Room k A' → PE (X.gen A' s z pl H (genEnv scope cl L code builtinsNs X.env) fp) elt te)
    (hco : scope.isCoroutine = false := by rfl) (nocell : ∀ y ∈ scope.names, y.2 ≠ .cell := by decide +kernel) (h0 : scope.names.lookup (".0" : Str) = some NameKind.local := by rfl) (hs : ∀ x, genFold iter X.env x = pure x := by intro _; rfl) :
    PE X (.Call (.Name "all" p) [.GeneratorExp elt [⟨tg, iter, ifs, 0⟩] scope q] [] pos) (tAllG false wi g tt te (own.map (·.2))) := by
  intro pins s σ H Q I h
  refine wpAny_Call_Name_kw (ld_blt I hgl hm (show bootBuiltins "all" = some (.builtin "all") by decide +kernel) ?_ (by decide) (by decide))
  refine PyProof.Rows.callWith_builtin1 (Calls.spliced_cons (gen_make I hi ok hco nocell h0 gx (by have := hr.dp; omega) hs h fun a it fp tn J H1 H2 cl code s4 s5 hP hq M => ?_)) rfl rfl
  obtain ⟨Wr, ⟨m, w0⟩, step⟩ := hq _ (grown_ch hP)
  refine Calls.spliced_nil ?_
  refine call_function_tree F.kind_all F.plain_all F.entry_all (F.args_all1 _) ?_
  show wpAny (model X.prog X.w) X.A.in1 (oneArg "all" _ >>= _) _ _ s5
  refine wpAny_bind (m := oneArg "all" _) (wpAny_pure (wpAny_bind (wpAny_pyIter_gen M.gen (wpAny_pure ⟨plainId_quiet F.plain_all_loop _, ?_⟩))))
  have B := M.place (A := X.A.in1) ok rfl hc I.ok.frames hr.hd (by show X.A.depth < _; have := hr.dp; omega)
  have L := M.asleep (A := X.A.in1) (n := m + 1) (pl := [a]) (W := fun _ _ => Wr) (Fin := fun _ _ H => Q (.bl true) H) (Yl := YAll Q false Wr) ok hN nocell hco rfl hc I.ok.frames hr.hd (fun b hb => by obtain rfl := List.mem_singleton.mp hb; exact M.lt)
    (fun z => hg _ _ _ _ _ _ _ _ _ (room_gen hr)) (fun z => ht _ _ _ _ _ _ _ _ _ (room_gen hr)) (fun z => he _ _ _ _ _ _ _ _ _ (room_gen hr)) (fun _ z i m H w => ?_)
  · exact all_loop B M.lt (fun u s2 z => z) (m + 1) m 0 _ s5 _ (Nat.lt_succ_self _) w0 (M.inv.hok.fresh (Nat.le_of_lt M.lt)) L
  · rcases step i m H w with ⟨a1, a2⟩ | ⟨a1, a2, a3⟩
    · exact .inl ⟨a1, a2⟩
    · exact .inr ⟨a1, a2, fun x H' y => a3 x H' y _ _ (fun H4 z => .inl ⟨rfl, z⟩) (fun H4 z => .inr ⟨rfl, z⟩) fun H3 z => z⟩
end
end L2

set_option Elab.async false
set_option linter.all false
set_option maxRecDepth 100000
namespace L2
open PySem PySem.Spec PyProof.Rows
section
variable {X : Cx} {elt tg iter : Expr} {ifs : List Expr} {scope : Scope} {own : List (Str × Nat)} {q p pos : Pos} {wi : TI} {g : TG} {tt : TT} {te : TE} {c P : Addr} {k : Nat}
theorem pe_sumG (hr : Room (k + 7) X.A) (gx : GX X c P) (hc : X.calm = true) (hgl : Gl X "sum") (hm : X.mg "sum" = none) (hN : X.N.Nodup) (hi : PI X tg iter wi) (ok : BlkOk X.N X.env.scope scope own)
    (hg : ∀ A' s z pl H cl L code fp, Room k A' → PG (X.gen A' s z pl H (genEnv scope cl L code builtinsNs X.env) fp) tg g) (ht : ∀ A' s z pl H cl L code fp, Room k A' → PTs (X.gen A' s z pl H (genEnv scope cl L code builtinsNs X.env) fp) ifs tt) (he : ∀ A' s z pl H cl L code fp, Room k A' → PE (X.gen A' s z pl H (genEnv scope cl L code builtinsNs X.env) fp) elt te)
    (hco : scope.isCoroutine = false := by rfl) (nocell : ∀ y ∈ scope.names, y.2 ≠ .cell := by decide +kernel) (h0 : scope.names.lookup (".0" : Str) = some NameKind.local := by rfl) (hs : ∀ x, genFold iter X.env x = pure x := by intro _; rfl) :
    PE X (.Call (.Name "sum" p) [.GeneratorExp elt [⟨tg, iter, ifs, 0⟩] scope q] [] pos) (tSumG wi g tt te (own.map (·.2))) := by
  intro pins s σ H Q I h
  refine wpAny_Call_Name_kw (ld_blt I hgl hm (show bootBuiltins "sum" = some (.builtin "sum") by decide +kernel) ?_ (by decide) (by decide))
  refine PyProof.Rows.callWith_builtin1 (Calls.spliced_cons (gen_make I hi ok hco nocell h0 gx (by have := hr.dp; omega) hs h fun a it fp tn J H1 H2 cl code s4 s5 hP hq M => ?_)) rfl rfl
  obtain ⟨Wr, ⟨m, w0⟩, step⟩ := hq _ (grown_ch hP)
  refine Calls.spliced_nil ?_
  refine call_function_tree F.kind_sum F.plain_sum F.entry_sum (F.args_sum1 _) ?_
  unfold Builtin.«sum»
  simp only [List.length_cons, List.length_nil]
  rw [if_neg (by decide)]
  refine wpAny_bind (wpAny_of_eq (show Builtin.Builtins.bindParams "sum" ["start"] 0 { } = pure [none] from rfl) (wpAny_bind (wpAny_pyIter_gen M.gen (wpAny_bind (wpAny_mkInt (wpAny_bind (wpAny_pure ?_)))))))
  simp only [List.forIn_cons, List.forIn_nil]
  refine wpAny_bind (wpAny_bind (wpAny_bind (wpAny_isInstance (T := "int") (b := false) (typeIs_int _ _ _) PySem.sub_int_str ?_))); simp only [Bool.false_eq_true, if_false]
  refine wpAny_pure (wpAny_bind (wpAny_bind (wpAny_isInstance (T := "int") (b := false) (typeIs_int _ _ _) PySem.sub_int_bytes ?_))); simp only [Bool.false_eq_true, if_false]
  refine wpAny_pure (wpAny_bind (wpAny_bind (wpAny_isInstance (T := "int") (b := false) (typeIs_int _ _ _) PySem.sub_int_bytearray ?_))); simp only [Bool.false_eq_true, if_false]
  refine wpAny_pure (wpAny_pure (wpAny_bind (wpAny_newObj_type (wpAny_pure ⟨plainId_quiet F.plain_sum_loop _, ?_⟩))))
  have aS : a < s5.heap.objs.size := by obtain ⟨o, nm, qn, e, _⟩ := M.gen; exact Heap.lt_size e
  have lS : s4.heap.objs.size < s5.heap.objs.size := Nat.lt_trans M.lt aS
  have B := M.place (A := X.A.in1) ok rfl hc I.ok.frames hr.hd (by show X.A.depth < _; have := hr.dp; omega)
  have L := M.asleep (A := X.A.in1) (n := m + 1) (pl := [a, s5.heap.objs.size]) (W := WSum s5.heap.objs.size Wr) (Fin := FSum s5.heap.objs.size Q) (Yl := YSum s5.heap.objs.size Wr) ok hN nocell hco rfl hc I.ok.frames hr.hd
    (fun b hb => by
      rcases List.mem_cons.mp hb with rfl | hb
      · exact M.lt
      · obtain rfl := List.mem_singleton.mp hb; exact lS)
    (fun z => hg _ _ _ _ _ _ _ _ _ (room_gen hr)) (fun z => ht _ _ _ _ _ _ _ _ _ (room_gen hr)) (fun z => he _ _ _ _ _ _ _ _ _ (room_gen hr)) (fun _ z i m H w => ?_)
  · exact sum_loop B M.lt lS (Nat.ne_of_lt aS) M.turn.keep (fun u s2 z => z) (m + 1) m 0 0 _ _ _ _ _ (Nat.lt_succ_self _) w0 (M.inv.hok.fresh (Nat.le_of_lt M.lt)) (M.inv.hok.fresh (Nat.le_of_lt lS)) (Heap.get?_push_size _ rfl)
      (L.wait (sp := []) B (M.turn.keep _) (fun b hb => nomatch hb) (fun hb => nomatch hb) (fun b o _ e => Heap.get?_push_of_some _ e) rfl rfl)
  · obtain ⟨t, tk, c', eS, w⟩ := w
    rcases step t i m H w with ⟨a1, a2⟩ | ⟨a1, a2, a3⟩
    · exact .inl ⟨a1, t, tk, c', eS, a2⟩
    · exact .inr ⟨a1, a2, fun x H' y => a3 x H' y _ _ (fun j H4 f1 f2 z => ⟨t, tk, c', j, eS, rfl, f1, f2, z⟩) fun H3 ⟨m', hm', z⟩ => ⟨m', hm', t, tk, c', eS, z⟩⟩
theorem room_genT {A : Around} {elt : Expr} {gs : List Comprehension} {scope : Scope} {pos : Pos} {it acc : Value} {cenv : Env} (hr : Room (k + 7) A) : Room k (A.in1.in1.in1.in1.over (.compLoop (.GeneratorExp elt gs scope pos) 0 it acc cenv) []) :=
  Room.gen ((hr.mono (j := k + 6) (by omega)).in1.in1.in1.in1 |>.mono (by omega))
theorem pe_tupG (hr : Room (k + 7) X.A) (gx : GX X c P) (hc : X.calm = true) (hgl : Gl X "tuple") (hm : X.mg "tuple" = none) (hN : X.N.Nodup) (hi : PI X tg iter wi) (ok : BlkOk X.N X.env.scope scope own)
    (hg : ∀ A' s z pl H cl L code fp, Room k A' → PG (X.gen A' s z pl H (genEnv scope cl L code builtinsNs X.env) fp) tg g) (ht : ∀ A' s z pl H cl L code fp, Room k A' → PTs (X.gen A' s z pl H (genEnv scope cl L code builtinsNs X.env) fp) ifs tt) (he : ∀ A' s z pl H cl L code fp, Room k A' → PE (X.gen A' s z pl H (genEnv scope cl L code builtinsNs X.env) fp) elt te)
    (hco : scope.isCoroutine = false := by rfl) (nocell : ∀ y ∈ scope.names, y.2 ≠ .cell := by decide +kernel) (h0 : scope.names.lookup (".0" : Str) = some NameKind.local := by rfl) (hs : ∀ x, genFold iter X.env x = pure x := by intro _; rfl) :
    PE X (.Call (.Name "tuple" p) [.GeneratorExp elt [⟨tg, iter, ifs, 0⟩] scope q] [] pos) (tTupG wi g tt te (own.map (·.2))) := by
  intro pins s σ H Q I h
  refine wpAny_Call_Name_kw (ld_blt I hgl hm (show bootBuiltins "tuple" = some (.type "tuple") by decide +kernel) ?_ (by decide) (by decide))
  refine PyProof.Rows.callWith_type1 (Calls.spliced_cons (gen_make I hi ok hco nocell h0 gx (by have := hr.dp; omega) hs h fun a it fp tn J H1 H2 cl code s4 s5 hP hq M => ?_)) rfl rfl
  obtain ⟨Wr, ⟨m, w0⟩, step⟩ := hq _ (grown_ch hP)
  refine Calls.spliced_nil ?_
  refine callType_codes (Q₁ := fun obj s₁ => s₁.TypeIs obj "tuple" ∧ EP X pins σ Q obj s₁) F.called_tuple (F.typeCall_tuple_1 _) F.entry_object_init ?_ fun obj s₁ h₁ =>
    ⟨h₁.1, F.args_object_init_2 obj _, object_init_meets F.called_tuple.init.lookup F.called_tuple.made (by decide) X.prog X.w X.A.in1 _ s₁ ⟨h₁.1, rfl, h₁.2⟩⟩
  have hTI : s5.TypeIs (.ref a) "generator" := by
    obtain ⟨o, nm, qn, e, r, _⟩ := M.gen
    exact ⟨o, e, r⟩
  refine codeAny_of_tree (by
    show wpAny _ _ (do checkBuiltinCall "tuple.__new__" ⟨[.type "tuple", .ref a], []⟩; again (.builtin "tuple.__new__" ⟨[.type "tuple", .ref a], []⟩)) _ _ s5
    refine wpAny_bind (wpAny_of_eq (F.newCall_tuple_1 _) (wpAny_pure ⟨plainId_quiet F.plain_tuple_new _, codeAny_builtin F.entry_tuple_new ?_⟩))
    rw [Around.under_plainId F.plain_tuple_new _]
    have hsub := sub_tuple_self
    have hinit := init_tuple_lookup
    have hmh := madeHere_tuple
    wp_walk using wpAny_typeOf hTI
    refine codeAny_builtin F.entry_proto_collect ?_
    rw [Around.under_plainId F.plain_proto_collect _]
    show wpAny (model X.prog X.w) X.A.in1.in1.in1 (newList [] >>= fun l => again (.builtin "list.__iadd__" ⟨[l, .ref a], []⟩)) _ _ s5
    refine wpAny_bind (wpAny_newObj_type (wpAny_pure ⟨plainId_quiet F.plain_list_iadd _, codeAny_builtin F.entry_list_iadd ?_⟩))
    rw [Around.under_plainId F.plain_list_iadd _]
    have aS : a < s5.heap.objs.size := by obtain ⟨o, nm, qn, e, _⟩ := M.gen; exact Heap.lt_size e
    have lS : s4.heap.objs.size < s5.heap.objs.size := Nat.lt_trans M.lt aS
    have hT6 : ({ s5 with heap := s5.heap.push { cls := .type "list", data := .seq ([] : List Value).toArray } } : Shared).TypeIs (.ref a) "generator" := by
      obtain ⟨o, e, r⟩ := hTI
      exact ⟨o, Heap.get?_push_of_some _ e, r⟩
    show wpAny (model X.prog X.w) X.A.in1.in1.in1 (Builtin.List.listExtendWith (.ref s5.heap.objs.size) (.ref a) (.ref s5.heap.objs.size)) _ _ _
    unfold Builtin.List.listExtendWith
    refine wpAny_bind (wpAny_typeOf hT6 ?_)
    have h1 : Builtin.List.listSameRef (.ref s5.heap.objs.size) (.ref a) = false := by simp [Builtin.List.listSameRef, Nat.ne_of_gt aS]
    have h2 : (Value.type "generator" == Value.type "list") = false := by decide
    have h3 : (Value.type "generator" == Value.type "tuple") = false := by decide
    simp only [h1, h2, h3, Bool.or_false, Bool.false_eq_true, if_false]
    have hG6 : (s5.heap.push { cls := .type "list", data := .seq ([] : List Value).toArray }).IsGen a s4.gens.size := by
      obtain ⟨o, nm, qn, e, r⟩ := M.gen
      exact ⟨o, nm, qn, Heap.get?_push_of_some _ e, r⟩
    refine wpAny_bind (wpAny_pyIter_gen hG6 (wpAny_bind (wpAny_holding ?_)))
    unfold Builtin.List.listLengthHint
    refine wpAny_bind (wpAny_specialOf hT6 F.gen_no_len ?_)
    show wpAny (model X.prog X.w) X.A.in1.in1.in1 (specialOf (Value.ref a) (Str.ofString "__length_hint__") >>= _) _ _ _
    refine wpAny_bind (wpAny_specialOf hT6 F.gen_no_hint (wpAny_pure ?_))
    show wpAny (model X.prog X.w) X.A.in1.in1.in1 (rule "list.extend.makes-room" >>= fun _ => Builtin.List.listTouch (.ref s5.heap.objs.size) >>= fun _ => again (.builtin "list.extend.loop" ⟨[.ref s5.heap.objs.size, .ref a, .ref s5.heap.objs.size], []⟩)) _ _ _
    refine wpAny_bind (wpAny_rule ?_)
    have hS1 : (s5.heap.push { cls := .type "list", data := .seq ([] : List Value).toArray }).get? s5.heap.objs.size = some { cls := .type "list", data := .seq ([] : List Value).toArray } := Heap.get?_push_size _ rfl
    refine wpAny_bind ?_
    show wpAny (model X.prog X.w) X.A.in1.in1.in1 (updateSeq s5.heap.objs.size (·.push .none) >>= fun _ => updateSeq s5.heap.objs.size (·.pop)) _ _ _
    refine wpAny_bind (wpAny_updateSeq hS1 rfl ?_)
    have hS2 := Heap.get?_update_self (Obj.mapSeq (·.push Value.none)) hS1 rfl
    refine wpAny_updateSeq hS2 rfl ?_
    have hS3 := Heap.get?_update_self (Obj.mapSeq (·.pop)) hS2 rfl
    refine wpAny_pure ⟨plainId_quiet F.plain_extend_loop _, ?_⟩
    have B := M.place (A := X.A.in1.in1.in1) ok rfl hc I.ok.frames hr.hd (by show X.A.depth < _; have := hr.dp; omega)
    have L := M.asleep (A := X.A.in1.in1.in1) (n := m + 1) (pl := [a, s5.heap.objs.size]) (W := WCol s5.heap.objs.size Wr) (Fin := FCol s5.heap.objs.size (fun us H => us.length ≤ sizeLine ∧ NewT H us Q)) (Yl := YCol s5.heap.objs.size Wr) ok hN nocell hco rfl hc I.ok.frames hr.hd
      (fun b hb => by
        rcases List.mem_cons.mp hb with rfl | hb
        · exact M.lt
        · obtain rfl := List.mem_singleton.mp hb; exact lS)
      (fun z => hg _ _ _ _ _ _ _ _ _ (room_genT hr)) (fun z => ht _ _ _ _ _ _ _ _ _ (room_genT hr)) (fun z => he _ _ _ _ _ _ _ _ _ (room_genT hr)) (fun _ z i m H w => ?_)
    · refine col_loop B M.lt lS (Nat.ne_of_lt aS) M.turn.keep (fun s2 us c2 vs H2 I2 e2 v2 q2 => ?_) (m + 1) m 0 #[] [] _ _ _ _ (Nat.lt_succ_self _) w0 (M.inv.hok.fresh (Nat.le_of_lt M.lt)) (M.inv.hok.fresh (Nat.le_of_lt lS)) hS3 .nil
          (L.wait (sp := [s5.heap.objs.size]) B (M.turn.keep _) (fun b hb => by obtain rfl := List.mem_singleton.mp hb; exact ⟨lS, M.inv.hok.fresh (Nat.le_of_lt lS)⟩) (fun hb => Nat.ne_of_lt aS (List.mem_singleton.mp hb)) (fun b o hb e => ?_) rfl rfl)
      · refine wpAny_bind (wpAny_load e2 (wpAny_pure (wpAny_bind (wpAny_pure ?_))))
        unfold Builtin.Tuple.tupleExact
        have hlen : us.size ≤ sizeLine := by
          have h1 := v2.length
          have h2 : us.toList.length = us.size := by simp
          have := q2.1
          omega
        refine wpAny_bind (wpAny_newObj_type (wpAny_pure ?_) (by show us.toList.toArray.size ≤ sizeLine; simpa using hlen))
        have hf : H2 s2.heap.objs.size = none := I2.hok.fresh (Nat.le_refl _)
        refine ⟨⟨_, Heap.get?_push_size _ rfl, rfl⟩, .ref s2.heap.objs.size, upd H2 s2.heap.objs.size (.tup vs), I2.laid (t' := s2.toks) (fun b u e => Heap.get?_push_of_some _ e) (Nat.le_refl _) ?_, rfl, q2.2 _ hf⟩
        exact ⟨q2.1, us.toList, v2, ⟨_, Heap.get?_push_size _ rfl, rfl, _, rfl⟩⟩
      · have nb : s5.heap.objs.size ≠ b := fun z => hb (List.mem_singleton.mpr z.symm)
        exact (Heap.get?_update_other _ _ nb).trans ((Heap.get?_update_other _ _ nb).trans (Heap.get?_push_of_some _ e))
    · obtain ⟨us, c', vs, eS, hv, w⟩ := w
      rcases step vs i m H w with ⟨a1, a2⟩ | ⟨a1, a0, a2, a3⟩
      · exact .inl ⟨a1, us, c', vs, eS, hv, a2⟩
      · exact .inr ⟨a1, a2, fun x H' y => a3 x H' y _ _ (fun u H4 z => ⟨us, c', vs, eS, hv, a0, z⟩) fun H3 ⟨m', hm', z⟩ => ⟨m', hm', us, c', vs, eS, hv, z⟩⟩)
end
end L2

set_option Elab.async false
set_option linter.all false
set_option maxRecDepth 100000
namespace L2
open PySem PySem.Spec PyProof.Rows
/-! ### zip(tuple, tuple) -/
section
variable {prog : Program} {w : World} {A : Around} {E : Value → Shared → Prop} {s : Shared}
theorem nextT_item {it t : Addr} {k : Nat} {xs : Array Value} {x : Value} {Q : Value → Shared → Prop} (st : s.heap.IsTupleIter it t k) (src : s.heap.IsTuple t xs) (hx : xs[k]? = some x)
    (go : ∀ h', h'.IsTupleIter it t (k + 1) → Heap.SameBut it s.heap h' → Q x { s with heap := h' }) : wpAny (model prog w) A (Builtin.SmallTypes.nextOf (.ref it)) Q E s := by
  obtain ⟨ob, eo, co, da⟩ := id st
  obtain ⟨ot, et, _, ne, dt⟩ := src
  unfold Builtin.SmallTypes.nextOf
  refine wpAny_bind (wpAny_callSpecial?_slot (name := Str.ofString "__next__") st.typeIs F.slot_tuple_iterator_next (wpAny_call_entry F.slot_tuple_iterator_next st.typeIs F.entry_tuple_iterator_next ?_ (F.args_tuple_iterator_next_1 _)))
  show wpAny (model prog w) _ (field (.ref it) 0 >>= _) _ _ s
  refine wpAny_bind (wpAny_field eo da (x := .ref t) rfl ?_)
  show wpAny (model prog w) _ (if (Value.ref t == Value.none) = true then _ else _) _ _ s
  rw [if_neg (show ¬ ((Value.ref t == Value.none) = true) from Bool.false_ne_true)]
  show wpAny (model prog w) _ (field (.ref it) 1 >>= _) _ _ s
  refine wpAny_bind (wpAny_field eo da (x := .int k 0) rfl ?_)
  show wpAny (model prog w) _ (seqItems? (.ref t) >>= _) _ _ s
  refine wpAny_bind (wpAny_seqItems et dt ?_)
  simp only [hx, Int.toNat_natCast]
  refine wpAny_bind (wpAny_setField eo da (by simp) (wpAny_pure ⟨x, rfl, wpAny_pure (go _ ⟨_, Heap.get?_update_self _ eo (Obj.isFreed_of_fields (Obj.data_mapFields da _)), (Obj.cls_mapFields ..).trans co, ?_⟩ (Heap.SameBut.update ..))⟩))
  rw [Obj.data_mapFields da]; simp [rawInt]
theorem nextT_end {it t : Addr} {k : Nat} {xs : Array Value} {Q : Value → Shared → Prop} (hh : A.handled = none) (st : s.heap.IsTupleIter it t k) (src : s.heap.IsTuple t xs) (hx : xs[k]? = none)
    (go : ∀ h' e, Heap.ExtBut it s.heap h' → (∃ o, h'.get? e = some o ∧ o.cls = .type "StopIteration") → E (.ref e) { s with heap := h' }) : wpAny (model prog w) A (Builtin.SmallTypes.nextOf (.ref it)) Q E s := by
  obtain ⟨ob, eo, co, da⟩ := id st
  obtain ⟨ot, et, _, ne, dt⟩ := src
  unfold Builtin.SmallTypes.nextOf
  refine wpAny_bind (wpAny_callSpecial?_slot (name := Str.ofString "__next__") st.typeIs F.slot_tuple_iterator_next (wpAny_call_entry F.slot_tuple_iterator_next st.typeIs F.entry_tuple_iterator_next ?_ (F.args_tuple_iterator_next_1 _)))
  show wpAny (model prog w) _ (field (.ref it) 0 >>= _) _ _ s
  refine wpAny_bind (wpAny_field eo da (x := .ref t) rfl ?_)
  show wpAny (model prog w) _ (if (Value.ref t == Value.none) = true then _ else _) _ _ s
  rw [if_neg (show ¬ ((Value.ref t == Value.none) = true) from Bool.false_ne_true)]
  show wpAny (model prog w) _ (field (.ref it) 1 >>= _) _ _ s
  refine wpAny_bind (wpAny_field eo da (x := .int k 0) rfl ?_)
  show wpAny (model prog w) _ (seqItems? (.ref t) >>= _) _ _ s
  refine wpAny_bind (wpAny_seqItems et dt ?_)
  simp only [hx, Int.toNat_natCast]
  refine wpAny_bind (wpAny_rule (wpAny_bind (wpAny_setField eo da (by simp) ?_)))
  show wpAny (model prog w) _ (newExc (.type "StopIteration") [] >>= _) _ _ _
  refine wpAny_bind ?_
  simp only [newTuple, newExc]
  refine wpAny_bind (wpAny_newObj_type (wpAny_bind (m := firstArgMember _ _) (wpAny_of_eq (a := Value.none) (by first | rfl | (simp only [firstArgMember]; rfl)) (wpAny_newObj_type ?_ (by size_fits)))) (by size_fits))
  simp only [raiseNew]
  refine wpAny_bind (wpAny_handled ?_)
  rw [show A.in1.handled = none from hh]
  exact wpAny_bind (wpAny_pure (wpAny_throw (go _ _ (((Heap.SameBut.update ..).extBut.push _).push _) ⟨_, Heap.get?_push_size _ rfl, rfl⟩)))
/-- the next pair of two tuples -/
theorem zipT_item {z TI TO i1 i2 l1 l2 : Addr} {k1 k2 : Nat} {xs ys : Array Value} {x y a b : Value} {Q : Value → Shared → Prop} (D : ZipApart z TI TO i1 i2 l1 l2)
    (kz : IsZip s.heap z TI TO .none) (kI : IsPair s.heap TI (.ref i1) (.ref i2)) (kO : IsPair s.heap TO a b)
    (u1 : s.heap.IsTupleIter i1 l1 k1) (u2 : s.heap.IsTupleIter i2 l2 k2) (c1 : s.heap.IsTuple l1 xs) (c2 : s.heap.IsTuple l2 ys) (hx : xs[k1]? = some x) (hy : ys[k2]? = some y)
    (go : ∀ h', IsZip h' z TI TO (rawInt s.heap.objs.size) → IsPair h' TO x y → h'.IsTupleIter i1 l1 (k1 + 1) → h'.IsTupleIter i2 l2 (k2 + 1) → IsPair h' s.heap.objs.size x y → h'.objs.size = s.heap.objs.size + 1 →
      (∀ c o, c ≠ z → c ≠ TO → c ≠ i1 → c ≠ i2 → s.heap.get? c = some o → h'.get? c = some o) → Q (.ref s.heap.objs.size) { s with heap := h' }) :
    wpAny (model prog w) A (Builtin.«zip.__next__» ⟨[.ref z], []⟩) (fun fin s' => ∃ v, fin = .done (.ret v) ∧ Q v s') E s := by
  show wpAny (model prog w) _ (field (.ref z) 2 >>= _) _ _ _
  refine wpAny_bind (wpAny_field kz rfl (x := .bool false) rfl ?_)
  show wpAny (model prog w) _ (field (.ref z) 3 >>= _) _ _ _
  refine wpAny_bind (wpAny_field kz rfl (x := .ref TI) rfl (wpAny_bind (wpAny_seqItems kI rfl ?_)))
  show wpAny (model prog w) _ (Builtin.SmallTypes.ownedTupleIsFree (.ref z) >>= _) _ _ _
  refine wpAny_bind (by
    unfold Builtin.SmallTypes.ownedTupleIsFree
    refine wpAny_bind (wpAny_field kz rfl (x := .none) rfl (wpAny_pure ?_))
    simp only [if_true]
    refine wpAny_bind (wpAny_rule (wpAny_bind (wpAny_field kz rfl (x := .ref TO) rfl (wpAny_bind (wpAny_setField_rec kz (by simp) fun g1 z1 e1 => ?_)))))
    have z1 : IsZip g1 z TI TO .ellipsis := z1
    refine wpAny_bind ?_
    simp only [List.forIn_cons, List.forIn_nil, List.zipIdx_cons, List.zipIdx_nil]
    refine wpAny_bind (wpAny_bind (wpAny_onRaise ?_))
    show wpAny (model prog w) _ (Builtin.SmallTypes.nextOf (.ref i1) >>= _) _ _ _
    refine wpAny_bind (nextT_item (u1.extBut e1.extBut D.i1z) (c1.extBut e1.extBut D.l1z) hx fun g2 v2 e2 => wpAny_pure ?_)
    have o2 : IsPair g2 TO a b := e2.extBut _ _ D.TOi1 (e1.extBut _ _ D.TOz kO)
    refine wpAny_bind (wpAny_seqItems o2 rfl (wpAny_bind (wpAny_updateSeq_pair o2 fun g3 o3 e3 => ?_)))
    have o3 : IsPair g3 TO x b := o3
    refine wpAny_bind (wpAny_letGo (wpAny_pure (wpAny_bind (wpAny_bind (wpAny_onRaise ?_)))))
    show wpAny (model prog w) _ (Builtin.SmallTypes.nextOf (.ref i2) >>= _) _ _ _
    refine wpAny_bind (nextT_item (((u2.extBut e1.extBut D.i2z).extBut e2.extBut D.i12.symm).extBut e3.extBut D.TOi2.symm) (((c2.extBut e1.extBut D.l2z).extBut e2.extBut D.l2i1).extBut e3.extBut D.l2TO) hy fun g4 v4 e4 => wpAny_pure ?_)
    have o4 : IsPair g4 TO x b := e4.extBut _ _ D.TOi2 o3
    refine wpAny_bind (wpAny_seqItems o4 rfl (wpAny_bind (wpAny_updateSeq_pair o4 fun g5 o5 e5 => ?_)))
    have o5 : IsPair g5 TO x y := o5
    refine wpAny_bind (wpAny_letGo (wpAny_pure (wpAny_pure (wpAny_bind (wpAny_seqItems o5 rfl (wpAny_bind (wpAny_newTuple ?_)))))))
    have hsz : g5.objs.size = s.heap.objs.size := by rw [e5.1, e4.1, e3.1, e2.1, e1.1]
    have z5 : IsZip g5 z TI TO .ellipsis := e5.extBut _ _ D.TOz.symm (e4.extBut _ _ D.i2z.symm (e3.extBut _ _ D.TOz.symm (e2.extBut _ _ D.i1z.symm z1)))
    have k5 : ∀ c o, c ≠ z → c ≠ TO → c ≠ i1 → c ≠ i2 → s.heap.get? c = some o → g5.get? c = some o := fun c o p1 p2 p3 p4 e => e5.extBut _ _ p2 (e4.extBut _ _ p4 (e3.extBut _ _ p2 (e2.extBut _ _ p3 (e1.extBut _ _ p1 e))))
    have v5 : g5.IsTupleIter i1 l1 (k1 + 1) := ((v2.extBut e3.extBut D.TOi1.symm).extBut e4.extBut D.i12).extBut e5.extBut D.TOi1.symm
    have w5 : g5.IsTupleIter i2 l2 (k2 + 1) := v4.extBut e5.extBut D.TOi2.symm
    have zlt : z < g5.objs.size := Heap.lt_size z5
    show wpAny (model prog w) _ (Builtin.SmallTypes.ownedTupleHandOut (.ref z) (.ref g5.objs.size) >>= _) _ _ _
    refine wpAny_bind (by
      unfold Builtin.SmallTypes.ownedTupleHandOut
      have z6 : IsZip (g5.push { cls := .type "tuple", data := .seq #[x, y] }) z TI TO .ellipsis := Heap.get?_push_of_some _ z5
      refine wpAny_bind (wpAny_setField_rec z6 (by simp) fun g7 z7 e7 => ?_)
      have z7 : IsZip g7 z TI TO (rawInt g5.objs.size) := z7
      refine wpAny_setField_rec z7 (by simp) fun g8 z8 e8 => ?_
      have z8 : IsZip g8 z TI TO (rawInt g5.objs.size) := z8
      have up : ∀ c o, c ≠ z → g5.get? c = some o → g8.get? c = some o := fun c o p1 e => e8.extBut _ _ p1 (e7.extBut _ _ p1 (Heap.get?_push_of_some _ e))
      have t8 : IsPair g8 g5.objs.size x y := e8.extBut _ _ (Nat.ne_of_gt zlt) (e7.extBut _ _ (Nat.ne_of_gt zlt) (Heap.get?_push_size _ rfl))
      have n8 : g8.objs.size = g5.objs.size + 1 := by rw [e8.1, e7.1, Heap.size_push]
      rw [hsz] at z8 t8 n8
      refine wpAny_pure ⟨_, rfl, ?_⟩
      show Q (.ref g5.objs.size) _
      rw [hsz]
      exact go g8 z8 (up _ _ D.TOz o5) (v5.at fun o e => up _ o D.i1z e) (w5.at fun o e => up _ o D.i2z e) t8 n8 fun c o p1 p2 p3 p4 e => up c o p1 (k5 c o p1 p2 p3 p4 e)))
theorem zipT_end {z TI TO i1 i2 l1 l2 : Addr} {k1 k2 : Nat} {xs ys : Array Value} {a b : Value} {Q : Fin → Shared → Prop} (hh : A.handled = none) (D : ZipApart z TI TO i1 i2 l1 l2)
    (kz : IsZip s.heap z TI TO .none) (kI : IsPair s.heap TI (.ref i1) (.ref i2)) (kO : IsPair s.heap TO a b)
    (u1 : s.heap.IsTupleIter i1 l1 k1) (u2 : s.heap.IsTupleIter i2 l2 k2) (c1 : s.heap.IsTuple l1 xs) (c2 : s.heap.IsTuple l2 ys) (over : xs[k1]? = none ∨ ys[k2]? = none)
    (go : ∀ h' e, (∀ c o, c ≠ z → c ≠ TO → c ≠ i1 → c ≠ i2 → s.heap.get? c = some o → h'.get? c = some o) → (∃ o, h'.get? e = some o ∧ o.cls = .type "StopIteration") → E (.ref e) { s with heap := h' }) :
    wpAny (model prog w) A (Builtin.«zip.__next__» ⟨[.ref z], []⟩) Q E s := by
  show wpAny (model prog w) _ (field (.ref z) 2 >>= _) _ _ _
  refine wpAny_bind (wpAny_field kz rfl (x := .bool false) rfl ?_)
  show wpAny (model prog w) _ (field (.ref z) 3 >>= _) _ _ _
  refine wpAny_bind (wpAny_field kz rfl (x := .ref TI) rfl (wpAny_bind (wpAny_seqItems kI rfl ?_)))
  show wpAny (model prog w) _ (Builtin.SmallTypes.ownedTupleIsFree (.ref z) >>= _) _ _ _
  refine wpAny_bind (by
    unfold Builtin.SmallTypes.ownedTupleIsFree
    refine wpAny_bind (wpAny_field kz rfl (x := .none) rfl (wpAny_pure ?_))
    simp only [if_true]
    refine wpAny_bind (wpAny_rule (wpAny_bind (wpAny_field kz rfl (x := .ref TO) rfl (wpAny_bind (wpAny_setField_rec kz (by simp) fun g1 z1 e1 => ?_)))))
    have z1 : IsZip g1 z TI TO .ellipsis := z1
    refine wpAny_bind ?_
    simp only [List.forIn_cons, List.forIn_nil, List.zipIdx_cons, List.zipIdx_nil]
    refine wpAny_bind (wpAny_bind (wpAny_onRaise ?_))
    show wpAny (model prog w) _ (Builtin.SmallTypes.nextOf (.ref i1) >>= _) _ _ _
    cases hx : xs[k1]? with
    | none =>
      refine wpAny_bind (nextT_end hh (u1.extBut e1.extBut D.i1z) (c1.extBut e1.extBut D.l1z) hx fun g2 e e2 he => ?_)
      obtain ⟨oe, hoe, hce⟩ := he
      have z2 : IsZip g2 z TI TO .ellipsis := e2 _ _ D.i1z.symm z1
      have ez : e ≠ z := fun q => by subst q; rw [z2] at hoe; cases hoe; simp at hce
      exact wpAny_setField_rec z2 (by simp) fun g3 _ e3 => go g3 e (fun c o p1 _ p3 _ q => e3.extBut _ _ p1 (e2 _ _ p3 (e1.extBut _ _ p1 q))) ⟨oe, e3.extBut _ _ ez hoe, hce⟩
    | some x =>
      have hy : ys[k2]? = none := by rcases over with h | h; rw [hx] at h; cases h; exact h
      refine wpAny_bind (nextT_item (u1.extBut e1.extBut D.i1z) (c1.extBut e1.extBut D.l1z) hx fun g2 v2 e2 => wpAny_pure ?_)
      have o2 : IsPair g2 TO a b := e2.extBut _ _ D.TOi1 (e1.extBut _ _ D.TOz kO)
      refine wpAny_bind (wpAny_seqItems o2 rfl (wpAny_bind (wpAny_updateSeq_pair o2 fun g3 o3 e3 => wpAny_bind (wpAny_letGo (wpAny_pure (wpAny_bind (wpAny_bind (wpAny_onRaise ?_))))))))
      show wpAny (model prog w) _ (Builtin.SmallTypes.nextOf (.ref i2) >>= _) _ _ _
      refine wpAny_bind (nextT_end hh (((u2.extBut e1.extBut D.i2z).extBut e2.extBut D.i12.symm).extBut e3.extBut D.TOi2.symm) (((c2.extBut e1.extBut D.l2z).extBut e2.extBut D.l2i1).extBut e3.extBut D.l2TO) hy fun g4 e e4 he => ?_)
      obtain ⟨oe, hoe, hce⟩ := he
      have z4 : IsZip g4 z TI TO .ellipsis := e4 _ _ D.i2z.symm (e3.extBut _ _ D.TOz.symm (e2.extBut _ _ D.i1z.symm z1))
      have ez : e ≠ z := fun q => by subst q; rw [z4] at hoe; cases hoe; simp at hce
      exact wpAny_setField_rec z4 (by simp) fun g5 _ e5 => go g5 e (fun c o p1 p2 p3 p4 q => e5.extBut _ _ p1 (e4 _ _ p4 (e3.extBut _ _ p2 (e2.extBut _ _ p3 (e1.extBut _ _ p1 q))))) ⟨oe, e5.extBut _ _ ez hoe, hce⟩)
end
abbrev zT1 (h : Heap) (l1 : Addr) : Heap := h.push { cls := .type "tuple_iterator", data := .fields #[.ref l1, .int 0 0] }
abbrev zT2 (h : Heap) (l1 l2 : Addr) : Heap := (zT1 h l1).push { cls := .type "tuple_iterator", data := .fields #[.ref l2, .int 0 0] }
abbrev zT3 (h : Heap) (l1 l2 : Addr) : Heap := (zT2 h l1 l2).push { cls := .type "tuple", data := .seq #[.ref h.objs.size, .ref (zT1 h l1).objs.size] }
abbrev zT4 (h : Heap) (l1 l2 : Addr) : Heap := (zT3 h l1 l2).push { cls := .type "tuple", data := .seq #[.none, .none] }
abbrev zT5 (h : Heap) (l1 l2 : Addr) : Heap := (zT4 h l1 l2).push { cls := .type "zip", data := .fields #[.none, .bool false, .bool false, .ref (zT2 h l1 l2).objs.size, .ref (zT3 h l1 l2).objs.size] }
theorem zipT_made (l1 l2 : Addr) (xs ys : Array Value) :
    Meets (Builtin.«zip.__new__» ⟨[.type "zip", .ref l1, .ref l2], []⟩) (fun _ R s => s.heap.IsTuple l1 xs ∧ s.heap.IsTuple l2 ys ∧ R (.ok (.ret (.ref (zT4 s.heap l1 l2).objs.size))) { s with heap := zT5 s.heap l1 l2 }) :=
  .of_wp fun prog w A R s h => by
    obtain ⟨hp, g, d, tk, os⟩ := s; obtain ⟨q1, q2, h⟩ := h
    have hsub := sub_zip
    have p1 : Heap.IsTuple (Shared.heap ⟨hp, g, d, tk, os⟩) l1 xs := q1
    have p2 : Heap.IsTuple (Shared.heap ⟨hp.push { cls := .type "tuple_iterator", data := .fields #[.ref l1, .int 0 0] }, g, d, tk, os⟩) l2 ys := Heap.IsTuple.push q2 _
    wp_walk using wpAny_pyIter_tuple p1, wpAny_pyIter_tuple p2
    exact ⟨_, rfl, h⟩
section
variable {prog : Program} {w : World} {A : Around} {E : Value → Shared → Prop} {s : Shared}
theorem call_zipT {l1 l2 : Addr} {xs ys : Array Value} {Q : Value → Shared → Prop} (q1 : s.heap.IsTuple l1 xs) (q2 : s.heap.IsTuple l2 ys)
    (h : ∀ h', IsZip h' (s.heap.objs.size + 4) (s.heap.objs.size + 2) (s.heap.objs.size + 3) .none → IsPair h' (s.heap.objs.size + 2) (.ref s.heap.objs.size) (.ref (s.heap.objs.size + 1)) →
      IsPair h' (s.heap.objs.size + 3) .none .none → h'.IsTupleIter s.heap.objs.size l1 0 → h'.IsTupleIter (s.heap.objs.size + 1) l2 0 → h'.objs.size = s.heap.objs.size + 5 →
      (∀ c o, s.heap.get? c = some o → h'.get? c = some o) → Q (.ref (s.heap.objs.size + 4)) { s with heap := h' }) :
    wpAny (model prog w) A (call (.type "zip") [.ref l1, .ref l2]) Q E s := by
  refine callType_new F.called_zip (by decide) (F.typeCall_zip_2 _ _) (F.newCall_zip_2 _ _) (fun obj => F.args_object_init_3 obj _ _) F.entry_zip_new (zipT_made l1 l2 xs ys) ⟨q1, q2, ?_⟩
  have z1 : (zT1 s.heap l1).objs.size = s.heap.objs.size + 1 := Heap.size_push ..
  have z2 : (zT2 s.heap l1 l2).objs.size = s.heap.objs.size + 2 := by rw [Heap.size_push, z1]
  have z3 : (zT3 s.heap l1 l2).objs.size = s.heap.objs.size + 3 := by rw [Heap.size_push, z2]
  have z4 : (zT4 s.heap l1 l2).objs.size = s.heap.objs.size + 4 := by rw [Heap.size_push, z3]
  have z5 : (zT5 s.heap l1 l2).objs.size = s.heap.objs.size + 5 := by rw [Heap.size_push, z4]
  have g5 : (zT5 s.heap l1 l2).get? (zT4 s.heap l1 l2).objs.size = some _ := Heap.get?_push_size _ rfl
  have g4 : (zT5 s.heap l1 l2).get? (zT3 s.heap l1 l2).objs.size = some _ := Heap.get?_push_of_some _ (Heap.get?_push_size _ rfl)
  have g3 : (zT5 s.heap l1 l2).get? (zT2 s.heap l1 l2).objs.size = some _ := Heap.get?_push_of_some _ (Heap.get?_push_of_some _ (Heap.get?_push_size _ rfl))
  have g2 : (zT5 s.heap l1 l2).get? (zT1 s.heap l1).objs.size = some _ := Heap.get?_push_of_some _ (Heap.get?_push_of_some _ (Heap.get?_push_of_some _ (Heap.get?_push_size _ rfl)))
  have g1 : (zT5 s.heap l1 l2).get? s.heap.objs.size = some _ := Heap.get?_push_of_some _ (Heap.get?_push_of_some _ (Heap.get?_push_of_some _ (Heap.get?_push_of_some _ (Heap.get?_push_size _ rfl))))
  show _ ∧ _
  rw [z2, z3, z4] at g5; rw [z1, z2] at g3; rw [z3] at g4; rw [z1] at g2; rw [z4]
  exact ⟨⟨_, g5, rfl⟩, h _ g5 g3 g4 ⟨_, g1, rfl, rfl⟩ ⟨_, g2, rfl, rfl⟩ z5 fun c o x => Heap.get?_push_of_some _ (Heap.get?_push_of_some _ (Heap.get?_push_of_some _ (Heap.get?_push_of_some _ (Heap.get?_push_of_some _ x))))⟩
end
/-- the tuples at a and b, the items in new pairs -/
def ItzT (K : PySem.W.Frag) (a b : Addr) : It :=
  ⟨fun i H => ∃ (xs ys : List V) (x y : V), SqT K H a xs ∧ SqT K H b ys ∧ xs[i]? = some x ∧ ys[i]? = some y,
    fun i H v H' => ∃ T x y, v = .ref T ∧ H T = none ∧ H' = upd H T (.tup [x, y]) ∧ (∀ xs, SqT K H a xs → xs[i]? = some x) ∧ ∀ ys, SqT K H b ys → ys[i]? = some y,
    fun i H => ∃ xs ys : List V, SqT K H a xs ∧ SqT K H b ys ∧ (xs.length ≤ i ∨ ys.length ≤ i)⟩
theorem turn_zipT {P : Program} {w : World} {K : PySem.W.Frag} {elts : List Expr} {kk : Nat} {tpos : Pos} {a b z TI TO i1 i2 : Addr} (D : ZipApart z TI TO i1 i2 a b) :
    Turn P w K (.Tuple elts kk tpos) (ItzT K a b) [z, TI, TO, i1, i2] z (fun i h => IsZip h z TI TO .none ∧ IsPair h TI (.ref i1) (.ref i2) ∧ (∃ x y, IsPair h TO x y) ∧ h.IsTupleIter i1 a i ∧ h.IsTupleIter i2 b i) where
  mem := by simp
  obj := fun i h st c hc => by
    obtain ⟨kz, kI, ⟨x, y, kO⟩, ⟨o1, e1, _, d1⟩, ⟨o2, e2, _, d2⟩⟩ := st
    have e' : c = z ∨ c = TI ∨ c = TO ∨ c = i1 ∨ c = i2 := by simpa using hc
    rcases e' with rfl | rfl | rfl | rfl | rfl
    · exact ⟨_, kz, fun v q => nomatch q⟩
    · exact ⟨_, kI, fun v q => nomatch q⟩
    · exact ⟨_, kO, fun v q => nomatch q⟩
    · exact ⟨o1, e1, fun v q => by rw [d1] at q; cases q⟩
    · exact ⟨o2, e2, fun v q => by rw [d2] at q; cases q⟩
  keep := fun i h h' st k => by
    obtain ⟨kz, kI, ⟨x, y, kO⟩, u1, u2⟩ := st
    exact ⟨k z (by simp) _ kz, k TI (by simp) _ kI, ⟨x, y, k TO (by simp) _ kO⟩, u1.at fun o q => k i1 (by simp) o q, u2.at fun o q => k i2 (by simp) o q⟩
  item := by
    intro X hP hw hK hc i pins s σ H E I hf st hg
    subst hP hw hK
    obtain ⟨kz, kI, ⟨x0, y0, kO⟩, u1, u2⟩ := st
    obtain ⟨xs, ys, x, y, qx, qy, hx, hy⟩ := hg
    obtain ⟨its, rv, p, _⟩ := I.tuple qx
    obtain ⟨its2, rv2, p2, _⟩ := I.tuple qy
    obtain ⟨u, hu, ru⟩ := rv.get hx
    obtain ⟨v, hv, rv'⟩ := rv2.get hy
    have zl : z < s.heap.objs.size := Heap.lt_size kz
    have hT : s.TypeIs (.ref z) "zip" := ⟨_, kz, rfl⟩
    unfold pyNext
    refine wpAny_bind (wpAny_attempt (wpAny_callSpecial?_slot (name := Str.ofString "__next__") hT F.slot_zip_next (wpAny_call_entry F.slot_zip_next hT F.entry_zip_next
      (zipT_item D kz kI kO u1 u2 (show s.heap.IsTuple a its.toArray from p) (show s.heap.IsTuple b its2.toArray from p2) (x := u) (y := v) (by simpa using hu) (by simpa using hv) fun h' z' TO' v1 v2 hT hsz hk => wpAny_pure ?_) (F.args_zip_next_1 _))))
    refine ⟨_, rfl, wpAny_letOwnedTupleGo_zip (s := { s with heap := h' }) z' fun h'' z'' sb => ?_⟩
    have hT2 : h''.get? s.heap.objs.size = some { cls := .type "tuple", data := .seq #[u, v] } := (sb.2 _ (Nat.ne_of_gt zl)).trans hT
    have new : ObjOk X.prog X.w (upd H s.heap.objs.size (.tup [x, y])) h'' s.heap.objs.size (.tup [x, y]) := ⟨by show 2 ≤ sizeLine; decide, [u, v], .cons ru (.cons rv' .nil), ⟨_, hT2, rfl, _, rfl⟩⟩
    have I1 : Inv X pins σ (upd H s.heap.objs.size (.tup [x, y])) { s with heap := h'' } :=
      I.turnedNew (t' := s.toks) (ch := [z, TI, TO, i1, i2]) (fun c o hb q => (sb.2 c (fun q' => hb (by simp [q']))).trans (hk c o (fun q' => hb (by simp [q'])) (fun q' => hb (by simp [q'])) (fun q' => hb (by simp [q'])) (fun q' => hb (by simp [q'])) q)) hf (Nat.le_refl _) new
    refine ⟨.ref s.heap.objs.size, _, I1, rfl, ⟨_, x, y, rfl, I.hok.fresh (Nat.le_refl _), rfl, fun l hl => by rw [I.tuple_inj hl qx]; exact hx, fun l hl => by rw [I.tuple_inj hl qy]; exact hy⟩, ⟨z'', ?_, ⟨u, v, ?_⟩, ?_, ?_⟩, fun c hcm => ?_⟩
    · exact (sb.2 _ D.TIz).trans (hk _ _ D.TIz D.TITO D.TIi1 D.TIi2 kI)
    · exact (sb.2 _ D.TOz).trans TO'
    · exact v1.at fun o q => (sb.2 _ D.i1z).trans q
    · exact v2.at fun o q => (sb.2 _ D.i2z).trans q
    · have hlt : c < s.heap.objs.size := by
        have e' : c = z ∨ c = TI ∨ c = TO ∨ c = i1 ∨ c = i2 := by simpa using hcm
        rcases e' with rfl | rfl | rfl | rfl | rfl
        · exact zl
        · exact Heap.lt_size kI
        · exact Heap.lt_size kO
        · obtain ⟨_, e1, _⟩ := u1; exact Heap.lt_size e1
        · obtain ⟨_, e2, _⟩ := u2; exact Heap.lt_size e2
      rw [upd_ne (Nat.ne_of_lt hlt)]
      exact (hf c hcm).1
  done := by
    intro X hP hw hK hc i pins s σ H E I hf st hg
    subst hP hw hK
    obtain ⟨kz, kI, ⟨x0, y0, kO⟩, u1, u2⟩ := st
    obtain ⟨xs, ys, qx, qy, hend⟩ := hg
    obtain ⟨its, rv, p, _⟩ := I.tuple qx
    obtain ⟨its2, rv2, p2, _⟩ := I.tuple qy
    have l1 := rv.length
    have l2 := rv2.length
    have he : its.toArray[i]? = none ∨ its2.toArray[i]? = none := by
      rcases hend with q | q
      · exact .inl (by simp; omega)
      · exact .inr (by simp; omega)
    have hT : s.TypeIs (.ref z) "zip" := ⟨_, kz, rfl⟩
    unfold pyNext
    refine wpAny_bind (wpAny_attempt (wpAny_callSpecial?_slot (name := Str.ofString "__next__") hT F.slot_zip_next (wpAny_call_entry F.slot_zip_next hT F.entry_zip_next
      (zipT_end (I.ok.hd hc) D kz kI kO u1 u2 (show s.heap.IsTuple a its.toArray from p) (show s.heap.IsTuple b its2.toArray from p2) he fun h' e hk he => ?_) (F.args_zip_next_1 _))))
    obtain ⟨o, ho, hcl⟩ := he
    refine wpAny_bind (wpAny_isInstance (T := "StopIteration") (b := true) ⟨o, ho, hcl⟩ isSubtype_stop (wpAny_pure ⟨rfl, I.turnedL (t' := s.toks) (ch := [z, TI, TO, i1, i2]) (fun c o hb q =>
      hk c o (fun q' => hb (by simp [q'])) (fun q' => hb (by simp [q'])) (fun q' => hb (by simp [q'])) (fun q' => hb (by simp [q'])) q) hf⟩))
  self := fun A i s Q E st h => wpAny_pyIter_zip st.1 h
def iZipT (K : PySem.W.Frag) (ta : TA) : TI := fun σ H R => ta σ H fun vs H1 => ∃ a b xs ys, vs = [.ref a, .ref b] ∧ SqT K H1 a xs ∧ SqT K H1 b ys ∧ R (ItzT K a b) H1
theorem pi_zipT {X : Cx} {K : PySem.W.Frag} {e e2 : Expr} {ta : TA} {p pos tpos : Pos} {elts : List Expr} {kk : Nat} (hg : Gl X "zip") (hm : X.mg "zip" = none) (ha : PA X [e, e2] ta) (hK : X.K = K := by rfl)
    (hs : starEach [e, e2] X.env = (false, eval e X.env) :: starEach [e2] X.env := by rfl) (hpl : (backTo pos (starEach [e2] X.env)).any (·.1) = false := by rfl) :
    PI X (.Tuple elts kk tpos) (.Call (.Name "zip" p) [e, e2] [] pos) (iZipT K ta) := by
  subst hK
  intro pins s σ H R I h
  refine Call_ (ld_blt I hg hm boot_zip5 (PyProof.Rows.callWith_type1 (thn (ha pos pins s σ H _ I h) fun us s1 ⟨vs, H1, I1, r1, q1⟩ => ?_) hs hpl))
  obtain ⟨a, b, xs, ys, ex, qx, qy, q⟩ := q1
  subst ex
  obtain ⟨u, v, rfl, r, r'⟩ := r1.two
  obtain rfl : u = .ref a := r
  obtain rfl : v = .ref b := r'
  obtain ⟨its, rv, p1, _⟩ := I1.tuple qx
  obtain ⟨its2, rv2, p2, _⟩ := I1.tuple qy
  have la : a < s1.heap.objs.size := by obtain ⟨_, e, _⟩ := p1; exact Heap.lt_size e
  have lb : b < s1.heap.objs.size := by obtain ⟨_, e, _⟩ := p2; exact Heap.lt_size e
  refine call_zipT (show s1.heap.IsTuple a its.toArray from p1) (show s1.heap.IsTuple b its2.toArray from p2) fun h' kz kI kO u1 u2 hsz hk => wpAny_pyIter_zip kz ?_
  have I2 : Inv X pins σ H1 { s1 with heap := h' } := I1.kept (t' := s1.toks) hk
  refine ⟨s1.heap.objs.size + 4, [s1.heap.objs.size + 4, s1.heap.objs.size + 2, s1.heap.objs.size + 3, s1.heap.objs.size, s1.heap.objs.size + 1], _, _, H1, rfl, I2, turn_zipT (PySem.W.ktu_apart s1.heap.objs.size a b la lb), ⟨kz, kI, ⟨_, _, kO⟩, u1, u2⟩, fun c hcm => ?_, q⟩
  have hle : s1.heap.objs.size ≤ c := by
    have e' : c = s1.heap.objs.size + 4 ∨ c = s1.heap.objs.size + 2 ∨ c = s1.heap.objs.size + 3 ∨ c = s1.heap.objs.size ∨ c = s1.heap.objs.size + 1 := by simpa using hcm
    rcases e' with z | z | z | z | z <;> rw [z] <;> first | exact Nat.le_refl _ | exact Nat.le_add_right _ _
  exact I1.fpOk hle (I1.hok.fresh hle)
end L2

set_option Elab.async false
set_option linter.all false
set_option maxRecDepth 100000
namespace L2
open PySem PySem.Spec PyProof.Rows
section
variable {K : PySem.W.Frag} {g : TG} {tt : TT} {te : TE} {vs : List Nat} {σ : St} {H : Hp} {Q : VK} {v : V} {es : List PyData}
theorem r_allG {b : Bool} {wi : TI} (h : wi σ H fun J H1 => ∀ H2, Ch none H1 H2 → GAll J g tt te vs σ b H2 Q) : tAllG b wi g tt te vs σ H Q := h
theorem r_sumG {wi : TI} (h : wi σ H fun J H1 => ∀ H2, Ch none H1 H2 → GSum J g tt te vs σ H2 Q) : tSumG wi g tt te vs σ H Q := h
theorem r_tupG {wi : TI} (h : wi σ H fun J H1 => ∀ H2, Ch none H1 H2 → GCol J g tt te vs σ H2 Q) : tTupG wi g tt te vs σ H Q := h
theorem r_zipT {ta : TA} {R : It → Hp → Prop} (h : ta σ H fun vs H1 => ∃ a b xs ys, vs = [.ref a, .ref b] ∧ SqT K H1 a xs ∧ SqT K H1 b ys ∧ R (ItzT K a b) H1) : iZipT K ta σ H R := h
/-- what the walk over a tuple tells -/
theorem itt_go {a : Addr} {xs : List V} {H' : Hp} {i : Nat} (s : SqT K H' a xs) (al : ImAll K H' xs es) (hi : i < es.length) : (Itt K a).go i H' ∧ ∀ x H'', (Itt K a).yld i H' x H'' → H'' = H' ∧ Im K H' x es[i] := by
  obtain ⟨u, hu, iu⟩ := al.at (d := es[i]) (i := i) (by simp [hi])
  refine ⟨⟨xs, u, s, hu⟩, ?_⟩
  rintro x H'' ⟨e, k⟩
  have := k xs s
  rw [hu] at this; cases this
  exact ⟨e, iu⟩
theorem take_all {α : Type} {f : α → Bool} {es : List α} {i : Nat} (hi : i < es.length) (h : (es.take i).all f = true) (h' : f es[i] = true) : (es.take (i + 1)).all f = true := by
  rw [List.take_succ_eq_append_getElem hi, List.all_append, h]
  simp [h']
theorem take_all_not {α : Type} {f : α → Bool} {es : List α} {i : Nat} (hi : i < es.length) (h' : f es[i] = false) : es.all f = false := by
  apply Bool.eq_false_iff.mpr
  intro z
  have := List.all_eq_true.mp z es[i] (List.getElem_mem hi)
  rw [h'] at this; cases this
theorem i_allT (f : PyData → Bool) (hv : Im K H v (.tuple es))
    (turn : ∀ (i : Nat) (d : PyData), es[i]? = some d → ∀ x H', Im K H' x d → Ch none H H' → ∀ (N : VK) (S : Hp → Prop), (∀ H4, Ch none H' H4 → N (.bl (f d)) H4) → GT g tt te vs σ x H' N S)
    (fin : ∀ H', Ch none H H' → Q (.bl (es.all f)) H') : ∃ a, v = .ref a ∧ (∃ xs, SqT K H a xs) ∧ ∀ H2, Ch none H H2 → GAll (Itt K a) g tt te vs σ false H2 Q := by
  obtain ⟨a, xs, rfl, s, al⟩ := hv.ref
  refine ⟨a, rfl, ⟨xs, s⟩, fun H2 c2 => ⟨fun i m H' => i ≤ es.length ∧ m = es.length - i ∧ Ch none H H' ∧ (es.take i).all f = true, ⟨_, Nat.zero_le _, rfl, c2, rfl⟩, ?_⟩⟩
  rintro i m H' ⟨hi, rfl, c, ha⟩
  rcases Nat.lt_or_ge i es.length with hlt | hge
  · obtain ⟨go, yl⟩ := itt_go (s.ch c) (al.ch c) hlt
    refine .inr ⟨by omega, go, fun x H'' y N S n1 n2 n3 => ?_⟩
    obtain ⟨rfl, ix⟩ := yl x H'' y
    refine turn i es[i] (by simp [hlt]) x _ ix c N S fun H4 c4 => ?_
    cases e : f es[i] with
    | false =>
      refine n1 H4 ?_
      have := fin H4 (c.trans c4)
      rwa [take_all_not hlt e] at this
    | true => exact n2 H4 ⟨_, by omega, hlt, rfl, c.trans c4, take_all hlt ha e⟩
  · have e : i = es.length := by omega
    subst e
    refine .inl ⟨⟨xs, s.ch c, by rw [al.length]; exact Nat.le_refl _⟩, ?_⟩
    have := fin H' c
    rw [List.take_length] at ha
    rwa [ha] at this
theorem sum_bd {f : PyData → Int} {es : List PyData} (hb : ∀ d ∈ es, -(2 ^ 40) ≤ f d ∧ f d ≤ 2 ^ 40) : -(2 ^ 40 * (es.length : Int)) ≤ (es.map f).sum ∧ (es.map f).sum ≤ 2 ^ 40 * (es.length : Int) := by
  induction es with
  | nil => simp
  | cons d es ih =>
    obtain ⟨h1, h2⟩ := hb d (by simp)
    obtain ⟨h3, h4⟩ := ih fun e he => hb e (by simp [he])
    simp only [List.map_cons, List.sum_cons, List.length_cons]
    constructor <;> omega
theorem i_sumT (f : PyData → Int) (hv : Im K H v (.tuple es)) (hn : es.length ≤ 1000) (hb : ∀ d ∈ es, -(2 ^ 40) ≤ f d ∧ f d ≤ 2 ^ 40)
    (turn : ∀ (i : Nat) (d : PyData), es[i]? = some d → ∀ x H', Im K H' x d → Ch none H H' → ∀ (N : VK) (S : Hp → Prop), (∀ H4, Ch none H' H4 → N (.int (f d)) H4) → GT g tt te vs σ x H' N S)
    (fin : ∀ H', Ch none H H' → Q (.int (es.map f).sum) H') : ∃ a, v = .ref a ∧ (∃ xs, SqT K H a xs) ∧ ∀ H2, Ch none H H2 → GSum (Itt K a) g tt te vs σ H2 Q := by
  obtain ⟨a, xs, rfl, s, al⟩ := hv.ref
  refine ⟨a, rfl, ⟨xs, s⟩, fun H2 c2 => ⟨fun t i m H' => i ≤ es.length ∧ m = es.length - i ∧ Ch none H H' ∧ t = ((es.take i).map f).sum, ⟨_, Nat.zero_le _, rfl, c2, rfl⟩, ?_⟩⟩
  rintro t i m H' ⟨hi, rfl, c, rfl⟩
  rcases Nat.lt_or_ge i es.length with hlt | hge
  · obtain ⟨go, yl⟩ := itt_go (s.ch c) (al.ch c) hlt
    refine .inr ⟨by omega, go, fun x H'' y N S n1 n3 => ?_⟩
    obtain ⟨rfl, ix⟩ := yl x H'' y
    refine turn i es[i] (by simp [hlt]) x _ ix c N S fun H4 c4 => ?_
    have e : ((es.take i).map f).sum + f es[i] = ((es.take (i + 1)).map f).sum := by
      rw [List.take_succ_eq_append_getElem hlt, List.map_append, List.sum_append]; simp
    have b1 := hb _ (List.getElem_mem hlt)
    have b2 := sum_bd (f := f) (es := es.take (i + 1)) fun d hd => hb d (List.mem_of_mem_take hd)
    have b3 : ((es.take (i + 1)).length : Int) ≤ 1000 := by rw [List.length_take]; omega
    refine n1 _ H4 ⟨by omega, by omega⟩ ?_ ⟨_, by omega, hlt, rfl, c.trans c4, e⟩
    rw [e]
    exact ⟨by omega, by omega⟩
  · have e : i = es.length := by omega
    subst e
    refine .inl ⟨⟨xs, s.ch c, by rw [al.length]; exact Nat.le_refl _⟩, ?_⟩
    rw [List.take_length]
    exact fin H' c
theorem i_tupT (f : PyData → PyData) (hv : Im K H v (.tuple es)) (hn : es.length ≤ 1000)
    (turn : ∀ (i : Nat) (d : PyData), es[i]? = some d → ∀ x H', Im K H' x d → Ch none H H' → ∀ (N : VK) (S : Hp → Prop), (∀ y H4, Ch none H' H4 → Im K H4 y (f d) → N y H4) → GT g tt te vs σ x H' N S)
    (fin : ∀ u H', Ch none H H' → Im K H' u (.tuple (es.map f)) → Q u H') : ∃ a, v = .ref a ∧ (∃ xs, SqT K H a xs) ∧ ∀ H2, Ch none H H2 → GCol (Itt K a) g tt te vs σ H2 Q := by
  obtain ⟨a, xs, rfl, s, al⟩ := hv.ref
  refine ⟨a, rfl, ⟨xs, s⟩, fun H2 c2 => ⟨fun us i m H' => i ≤ es.length ∧ m = es.length - i ∧ Ch none H H' ∧ ImAll K H' us ((es.take i).map f), ⟨_, Nat.zero_le _, rfl, c2, .nil⟩, ?_⟩⟩
  rintro us i m H' ⟨hi, rfl, c, hu⟩
  have lu : us.length ≤ 1000 := by have := hu.length; rw [List.length_map, List.length_take] at this; omega
  rcases Nat.lt_or_ge i es.length with hlt | hge
  · obtain ⟨go, yl⟩ := itt_go (s.ch c) (al.ch c) hlt
    refine .inr ⟨by omega, Nat.lt_of_le_of_lt lu (by decide), go, fun x H'' y N S n1 n3 => ?_⟩
    obtain ⟨rfl, ix⟩ := yl x H'' y
    refine turn i es[i] (by simp [hlt]) x _ ix c N S fun y H4 c4 iy => ?_
    refine n1 y H4 ⟨_, by omega, hlt, rfl, c.trans c4, ?_⟩
    rw [List.take_succ_eq_append_getElem hlt, List.map_append]
    exact (hu.ch c4).append (.cons iy .nil)
  · have e : i = es.length := by omega
    subst e
    rw [List.take_length] at hu
    exact .inl ⟨⟨xs, s.ch c, by rw [al.length]; exact Nat.le_refl _⟩, Nat.le_trans lu (by decide), fun p hp => fin _ _ (c.trans (Ch.new hp)) (Im.mk hp hu)⟩
theorem i_tupZ {v1 v2 : V} {es1 es2 : List PyData} (f : PyData → PyData → PyData) (h1 : Im K H v1 (.tuple es1)) (h2 : Im K H v2 (.tuple es2)) (hl : es1.length = es2.length) (hn : es1.length ≤ 1000)
    (turn : ∀ (i : Nat) (d1 d2 : PyData), es1[i]? = some d1 → es2[i]? = some d2 → ∀ x H', Im K H' x (.tuple [d1, d2]) → Ch none H H' → ∀ (N : VK) (S : Hp → Prop), (∀ y H4, Ch none H' H4 → Im K H4 y (f d1 d2) → N y H4) → GT g tt te vs σ x H' N S)
    (fin : ∀ u H', Ch none H H' → Im K H' u (.tuple (List.zipWith f es1 es2)) → Q u H') : ∃ a b xs ys, [v1, v2] = [.ref a, .ref b] ∧ SqT K H a xs ∧ SqT K H b ys ∧ ∀ H2, Ch none H H2 → GCol (ItzT K a b) g tt te vs σ H2 Q := by
  obtain ⟨a, xs, rfl, s, al⟩ := h1.ref
  obtain ⟨b, ys, rfl, s', al'⟩ := h2.ref
  refine ⟨a, b, xs, ys, rfl, s, s', fun H2 c2 => ⟨fun us i m H' => i ≤ es1.length ∧ m = es1.length - i ∧ Ch none H H' ∧ ImAll K H' us ((List.zipWith f es1 es2).take i), ⟨_, Nat.zero_le _, rfl, c2, .nil⟩, ?_⟩⟩
  rintro us i m H' ⟨hi, rfl, c, hu⟩
  have lz : (List.zipWith f es1 es2).length = es1.length := by rw [List.length_zipWith]; omega
  have lu : us.length ≤ 1000 := by have := hu.length; rw [List.length_take] at this; omega
  rcases Nat.lt_or_ge i es1.length with hlt | hge
  · obtain ⟨x, hx, ix⟩ := (al.ch c).at (d := es1[i]) (i := i) (by simp [hlt])
    obtain ⟨y, hy, iy⟩ := (al'.ch c).at (d := es2[i]'(by omega)) (i := i) (by simp [hl ▸ hlt])
    refine .inr ⟨by omega, Nat.lt_of_le_of_lt lu (by decide), ⟨xs, ys, x, y, s.ch c, s'.ch c, hx, hy⟩, ?_⟩
    rintro z H'' ⟨T, x', y', rfl, hT, rfl, ex, ey⟩ N S n1 n3
    have e1 := ex xs (s.ch c)
    have e2 := ey ys (s'.ch c)
    rw [hx] at e1; cases e1
    rw [hy] at e2; cases e2
    have cT : Ch none H' (upd H' T (.tup [x, y])) := Ch.new hT
    refine turn i es1[i] es2[i] (by simp [hlt]) (by simp [hl ▸ hlt]) _ _ (Im.mk hT (.cons ix (.cons iy .nil))) (c.trans cT) N S fun w H4 c4 iw => ?_
    refine n1 w H4 ⟨_, by omega, hlt, rfl, (c.trans cT).trans c4, ?_⟩
    rw [List.take_succ_eq_append_getElem (by omega)]
    refine ((hu.ch cT).ch c4).append (.cons ?_ .nil)
    rw [List.getElem_zipWith]
    exact iw
  · have e : i = es1.length := by omega
    subst e
    rw [← lz, List.take_length] at hu
    exact .inl ⟨⟨xs, ys, s.ch c, s'.ch c, .inl (by rw [al.length]; exact Nat.le_refl _)⟩, Nat.le_trans lu (by decide), fun p hp => fin _ _ (c.trans (Ch.new hp)) (Im.mk hp hu)⟩
end
end L2

set_option Elab.async false
set_option linter.all false
set_option maxRecDepth 100000
namespace HT
open PySem PyProof.Rows
section
variable {prog : Program} {w : World} {A : Around} {E : Value → Shared → Prop} {s : Shared}
/-- all of a tuple is the tuple itself -/
theorem whole_tup {t sl : Addr} {items : Array Value} {vl vu : Value} {lo hi : Option Int} {Q : Value → Shared → Prop} (ht : IsTup s.heap t items) (hs : s.heap.IsSliceOf sl vl vu .none) (pl : IsPart vl lo) (pu : IsPart vu hi)
    (hw : sIx items.size 0 lo = 0 ∧ sIx items.size items.size hi = items.size) (h : Q (.ref t) s) : wpAny (model prog w) A (getItem (.ref t) (.ref sl)) Q E s := by
  obtain ⟨ot, eo, co, da⟩ := id hs
  have hT : s.TypeIs (.ref sl) "slice" := ⟨ot, eo, co⟩
  unfold getItem
  try with_reducible refine wpAny_holding ?_
  first | refine wpAny_bind (wpAny_pure ?_) | skip
  refine wpAny_bind (wpAny_sequenceKey ht.typeIs (by decide) (wpAny_bind (wpAny_callSpecial?_slot (name := Str.ofString "__getitem__") ht.typeIs PyProof.Rows.slot_tuple_getitem (wpAny_call_entry PyProof.Rows.slot_tuple_getitem ht.typeIs entry_tuple_getitem ?_ (args_tuple_getitem _ _)))))
  show wpAny (model prog w) _ (Builtin.Tuple.tupleItemsOf (.ref t) >>= _) _ _ s
  refine wpAny_bind (tupleItemsOf_ ht (wpAny_bind (wpAny_typeOf hT ?_)))
  rw [if_pos (by decide)]
  refine wpAny_bind (sliceApplied_gen hs pl pu ?_)
  have yes : (((sIx items.size 0 lo : Nat) : Int) == 0 && (1 : Int) == 1 && (sIx items.size items.size hi - sIx items.size 0 lo) == items.size) = true := by
    rw [hw.1, hw.2]; simp
  show wpAny (model prog w) _ (if (((sIx items.size 0 lo : Nat) : Int) == 0 && (1 : Int) == 1 && (sIx items.size items.size hi - sIx items.size 0 lo) == items.size) = true then _ else _) _ _ s
  rw [if_pos yes]
  refine wpAny_bind (m := Builtin.Tuple.tupleIsExact _) ?_
  unfold Builtin.Tuple.tupleIsExact
  first
    | exact wpAny_bind (wpAny_typeOf ht.typeIs (wpAny_pure (by rw [if_pos (by decide)]; exact wpAny_bind (wpAny_rule (wpAny_bind (wpAny_pure (wpAny_pure ⟨_, rfl, wpAny_pure h⟩)))))))
    | exact wpAny_bind (wpAny_typeOf ht.typeIs (wpAny_pure (by rw [if_pos (by decide)]; exact wpAny_bind (wpAny_rule (wpAny_pure ⟨_, rfl, wpAny_pure h⟩)))))
    | (refine wpAny_bind (wpAny_typeOf ht.typeIs (wpAny_pure ?_)); trace_state; skip)
end
end HT
namespace L2
open PySem PySem.Spec PyProof.Rows
section
variable {X : Cx}
/-- t[lo:hi], whatever it is -/
def rSlW (K : PySem.W.Frag) : V → Option Int → Option Int → Hp → VK → Prop := fun x lo hi H Q => ∃ a xs, x = .ref a ∧ SqT K H a xs ∧ HT.sIx xs.length 0 lo = 0 ∧ HT.sIx xs.length xs.length hi = xs.length ∧ Q (.ref a) H
theorem sl_tupW : SlR X (rSlW X.K) := by
  intro pins s σ H x v vl vu lo hi sl Q I rx hs pl pu h
  obtain ⟨a, xs, rfl, hx, w1, w2, q⟩ := h
  cases rx
  obtain ⟨its, r, ht, hz⟩ := I.tuple hx
  have hlen : its.toArray.size = xs.length := by rw [List.size_toArray]; exact r.length.symm
  refine ⟨"tuple", _, PyProof.Rows.slot_tuple_getitem.lookup, ht.typeIs, ?_⟩
  exact HT.whole_tup ht hs pl pu (by rw [hlen]; exact ⟨w1, w2⟩) ⟨.ref a, H, I, rfl, q⟩
def rSlB (K : PySem.W.Frag) : V → Option Int → Option Int → Hp → VK → Prop := fun x lo hi H Q => rSlA K x lo hi H Q ∨ rSlW K x lo hi H Q
theorem slB {K : PySem.W.Frag} (h : X.K = K := by rfl) : SlR X (rSlB K) := by subst h; exact SlR.or slAny sl_tupW
end
/-- the part of a list of data -/
def cutD (es : List PyData) (lo hi : Option Int) : List PyData := (es.drop (HT.sIx es.length 0 lo)).take (HT.sIx es.length es.length hi - HT.sIx es.length 0 lo)
theorem i_slT {K : PySem.W.Frag} {H : Hp} {Q : VK} {v : V} {es : List PyData} {lo hi : Option Int} (h : Im K H v (.tuple es)) (k : ∀ u H', Ch none H H' → Im K H' u (.tuple (cutD es lo hi)) → Q u H') : rSlB K v lo hi H Q := by
  obtain ⟨a, xs, rfl, s, al⟩ := id h.ref
  have len := al.length
  by_cases w : HT.sIx xs.length 0 lo = 0 ∧ HT.sIx xs.length xs.length hi = xs.length
  · refine .inr ⟨a, xs, rfl, s, w.1, w.2, k _ H (Ch.refl H) ?_⟩
    have e : cutD es lo hi = es := by
      unfold cutD
      rw [← len, w.1, w.2, List.drop_zero, Nat.sub_zero, len, List.take_length]
    rw [e]; exact h
  · refine .inl (.inr ⟨a, xs, rfl, s, w, fun p hp => k _ _ (Ch.new hp) (Im.mk hp ?_)⟩)
    unfold cutV cutD
    rw [len]
    exact (al.drop _).take _
theorem cutD_lo {es : List PyData} {i : Int} (h0 : 0 ≤ i) : cutD es (some i) none = es.drop i.toNat := by
  unfold cutD HT.sIx
  dsimp only
  rw [if_neg (by omega)]
  rw [List.take_of_length_le (by rw [List.length_drop]; omega)]
  rcases Nat.le_total i.toNat es.length with h | h
  · rw [Nat.min_eq_left h]
  · rw [Nat.min_eq_right h, List.drop_length, List.drop_eq_nil_of_le h]
theorem cutD_hi {es : List PyData} {i : Int} (h0 : 0 ≤ i) : cutD es none (some i) = es.take i.toNat := by
  unfold cutD HT.sIx
  dsimp only
  rw [if_neg (by omega), List.drop_zero, Nat.sub_zero]
  rcases Nat.le_total i.toNat es.length with h | h
  · rw [Nat.min_eq_left h]
  · rw [Nat.min_eq_right h, List.take_length, List.take_of_length_le h]
theorem cutD_mid {es : List PyData} {i j : Int} (h0 : 0 ≤ i) (h1 : 0 ≤ j) : cutD es (some i) (some j) = (es.drop i.toNat).take (j.toNat - i.toNat) := by
  unfold cutD HT.sIx
  dsimp only
  rw [if_neg (by omega), if_neg (by omega)]
  rcases Nat.le_total i.toNat es.length with h | h
  · rw [Nat.min_eq_left h]
    rcases Nat.le_total j.toNat es.length with h' | h'
    · rw [Nat.min_eq_left h']
    · rw [Nat.min_eq_right h', List.take_of_length_le (by rw [List.length_drop]; omega), List.take_of_length_le (by rw [List.length_drop]; omega)]
  · rw [Nat.min_eq_right h, List.drop_length, List.drop_eq_nil_of_le h]; simp
end L2
namespace L2
open PySem PySem.Spec PyProof.Rows
theorem i_slL {K : PySem.W.Frag} {H : Hp} {Q : VK} {a : Addr} {xs : List V} {lo hi : Option Int} (s : SqL K H a xs) (h : ∀ p H', H p = none → Ch none H H' → H' p = some (.lst (cutV xs lo hi)) → Q (.ref p) H') : rSlB K (.ref a) lo hi H Q :=
  .inl (.inl ⟨a, xs, rfl, s, fun p hp => h p _ hp (Ch.new hp) upd_same⟩)
end L2

set_option Elab.async false
set_option linter.all false
set_option maxRecDepth 100000
namespace L2
open PySem PySem.Spec PyProof.Rows
/-! ### what things are -/
def isWh : PyData → Bool
  | .int _ => true
  | _ => false
def within (d : PyData) (lo hi : Int) : Bool := match d with
  | .int i => decide (lo ≤ i) && decide (i ≤ hi)
  | _ => false
def isPr : PyData → Bool
  | .tuple ds => decide (ds.length = 2)
  | _ => false
def isFq : PyData → Bool
  | .tuple [.int t, .int b] => decide (1 ≤ b) && decide (Int.gcd t b = 1)
  | _ => false
def topOf : PyData → Int
  | .tuple (.int t :: _) => t
  | _ => 0
def isPt (d : PyData) : Bool := isFq d && decide (0 ≤ topOf d)
def isLq : PyData → Bool
  | .tuple [a, b] => isPt a && isPt b
  | _ => false
def isRw : PyData → Bool
  | .tuple [a, b] => within a 0 10 && within b 0 10
  | _ => false
def tnOf (c : Int) : PyData → Int
  | .tuple [.int a, .int b] => if c = 0 then a else b
  | _ => 0
def tnD (c : Int) (ds : List PyData) : Int := (ds.map (tnOf c)).sum
def areRw : PyData → Bool
  | .tuple ds => decide (1 ≤ ds.length) && decide (ds.length ≤ 8) && ds.all isRw && decide (tnD 0 ds ≤ 10) && decide (tnD 1 ds ≤ 10)
  | _ => false
def isSt : PyData → Bool
  | .tuple [r, l] => areRw r && within l 0 9
  | _ => false
def rowsOf : PyData → List PyData
  | .tuple (.tuple ds :: _) => ds
  | _ => []
def isCt (many : Int) : PyData → Bool
  | .tuple [.int a, .int b] => decide (0 ≤ a) && decide (a ≤ many) && decide (a ≤ b) && decide (b ≤ many)
  | _ => false
theorem isRw_iff {d : PyData} (h : isRw d = true) : ∃ a b : Int, d = .tuple [.int a, .int b] ∧ 0 ≤ a ∧ a ≤ 10 ∧ 0 ≤ b ∧ b ≤ 10 := by
  unfold isRw at h
  split at h
  · rename_i a b
    rw [Bool.and_eq_true] at h
    obtain ⟨h1, h2⟩ := h
    unfold within at h1 h2
    split at h1
    · split at h2
      · simp only [Bool.and_eq_true, decide_eq_true_eq] at h1 h2
        exact ⟨_, _, rfl, h1.1, h1.2, h2.1, h2.2⟩
      · cases h2
    · cases h1
  · cases h
theorem isFq_iff {d : PyData} (h : isFq d = true) : ∃ r : Rat, d = dq r := by
  unfold isFq at h
  split at h
  · rename_i t b
    simp only [Bool.and_eq_true, decide_eq_true_eq] at h
    obtain ⟨r, e⟩ := of_low (p := (t, b)) (by show 0 < b; omega) h.2
    exact ⟨r, dq_of e⟩
  · cases h
theorem isFq_dq (r : Rat) : isFq (dq r) = true := by
  have := fq_den_pos r
  have := fq_low r
  unfold dq isFq
  simp only [Bool.and_eq_true, decide_eq_true_eq]
  exact ⟨by show (1 : Int) ≤ (r.den : Int); have := r.den_pos; omega, this⟩
theorem isPt_dq {r : Rat} (h : 0 ≤ r) : isPt (dq r) = true := by
  unfold isPt
  rw [isFq_dq, Bool.true_and]
  exact decide_eq_true (Rat.num_nonneg.mpr h)
theorem isLq_dl {l : Rat × Rat} (h1 : 0 ≤ l.1) (h2 : 0 ≤ l.2) : isLq (dl l) = true := by
  show (isPt (dq l.1) && isPt (dq l.2)) = true
  rw [isPt_dq h1, isPt_dq h2]; rfl
/-- a still -/
structure St1 (d : PyData) (ds : List PyData) (loss : Int) : Prop where
  eq : d = .tuple [.tuple ds, .int loss]
  n1 : 1 ≤ ds.length
  n8 : ds.length ≤ 8
  rw : ∀ e ∈ ds, isRw e = true
  t0 : tnD 0 ds ≤ 10
  t1 : tnD 1 ds ≤ 10
  l0 : 0 ≤ loss
  l9 : loss ≤ 9
theorem isSt_iff {d : PyData} (h : isSt d = true) : ∃ ds loss, St1 d ds loss := by
  unfold isSt at h
  split at h
  · rename_i r l
    rw [Bool.and_eq_true] at h
    obtain ⟨h1, h2⟩ := h
    unfold areRw at h1
    unfold within at h2
    split at h1
    · split at h2
      · simp only [Bool.and_eq_true, decide_eq_true_eq] at h1 h2
        exact ⟨_, _, rfl, h1.1.1.1.1, h1.1.1.1.2, fun e he => List.all_eq_true.mp h1.1.1.2 e he, h1.1.2, h1.2, h2.1, h2.2⟩
      · cases h2
    · cases h1
  · cases h
theorem St1.is {d : PyData} {ds : List PyData} {loss : Int} (h : St1 d ds loss) : isSt d = true := by
  rw [h.eq]
  show (areRw (.tuple ds) && within (.int loss) 0 9) = true
  simp only [areRw, within, Bool.and_eq_true, decide_eq_true_eq]
  exact ⟨⟨⟨⟨⟨h.n1, h.n8⟩, List.all_eq_true.mpr h.rw⟩, h.t0⟩, h.t1⟩, h.l0, h.l9⟩
theorem tnOf_bd {c : Int} {d : PyData} (h : isRw d = true) : 0 ≤ tnOf c d ∧ tnOf c d ≤ 10 := by
  obtain ⟨a, b, rfl, h1, h2, h3, h4⟩ := isRw_iff h
  show 0 ≤ (if c = 0 then a else b) ∧ (if c = 0 then a else b) ≤ 10
  split <;> omega
theorem tnD_bd {c : Int} : ∀ {ds : List PyData}, (∀ e ∈ ds, isRw e = true) → 0 ≤ tnD c ds ∧ tnD c ds ≤ 10 * ds.length
  | [], _ => ⟨Int.le_refl _, by simp [tnD]⟩
  | d :: ds, h => by
    obtain ⟨h1, h2⟩ := tnOf_bd (c := c) (h d (by simp))
    obtain ⟨h3, h4⟩ := tnD_bd (c := c) (ds := ds) fun e he => h e (by simp [he])
    unfold tnD at *
    simp only [List.map_cons, List.sum_cons, List.length_cons]
    omega
theorem tnD_append (c : Int) (a b : List PyData) : tnD c (a ++ b) = tnD c a + tnD c b := by
  unfold tnD; rw [List.map_append, List.sum_append]
theorem tnD_split (c : Int) (ds : List PyData) (h t : Nat) (ht : h ≤ t) : tnD c (ds.take h) + tnD c ((ds.drop h).take (t - h)) + tnD c (ds.drop t) = tnD c ds := by
  rw [← tnD_append, ← tnD_append]
  congr 1
  have e : ds.take h ++ (ds.drop h).take (t - h) = ds.take t := by
    have := List.take_append_drop h (ds.take t)
    rw [List.take_take, Nat.min_eq_left ht, List.drop_take] at this
    exact this
  rw [e, List.take_append_drop]
/-! ### shares -/
def shr (ds : List PyData) (loss h t c : Int) : List Rat :=
  [Rat.divInt (tnD c (ds.take h.toNat) * (10 - loss)) 100, Rat.divInt (tnD c ((ds.drop h.toNat).take (t.toNat - h.toNat)) * (10 - loss)) 100, Rat.divInt (tnD c (ds.drop t.toNat) * (10 - loss)) 100,
    Rat.divInt (10 - tnD c ds) 10, Rat.divInt (tnD c ds * loss) 100]
def prt (ds : List PyData) (loss h t : Int) (l : Rat × Rat) : List (Rat × Rat) := List.zipWith (fun a b => (a * l.1, b * l.2)) (shr ds loss h t 0) (shr ds loss h t 1)
def rwsOf (ds : List PyData) (loss : Int) (l : Rat × Rat) : List (Rat × Rat) := ds.map fun d => (Rat.divInt (tnOf 0 d * (10 - loss)) 100 * l.1, Rat.divInt (tnOf 1 d * (10 - loss)) 100 * l.2)
section
variable {K : PySem.W.Frag} {H : Hp} {Q : VK} {E : XK}
/-- whether a thing is so -/
def spB1 (K : PySem.W.Frag) (f : PyData → Bool) : Sp := fun vs H Q _ => ∃ v d, vs = [v] ∧ Im K H v d ∧ ∀ H', Ch none H H' → Q (.bl (f d)) H'
theorem y_b1 {f : PyData → Bool} {v : V} {d : PyData} (h : Im K H v d) (k : ∀ H', Ch none H H' → Q (.bl (f d)) H') : spB1 K f ([v] ++ []) H Q E := ⟨v, d, rfl, h, k⟩
def spWithin (K : PySem.W.Frag) : Sp := fun vs H Q _ => ∃ v d lo hi, vs = [v, .int lo, .int hi] ∧ Im K H v d ∧ ∀ H', Ch none H H' → Q (.bl (within d lo hi)) H'
theorem y_within {v : V} {d : PyData} {lo hi : Int} (h : Im K H v d) (k : ∀ H', Ch none H H' → Q (.bl (within d lo hi)) H') : spWithin K ([v, .int lo, .int hi] ++ []) H Q E := ⟨v, d, lo, hi, rfl, h, k⟩
/-- what is so passes, else it is refused -/
def spChk (K : PySem.W.Frag) (f : PyData → Bool) (C : Addr) : Sp := fun vs H Q E => ∃ v d, vs = [v] ∧ Im K H v d ∧ (f d = false → ∀ H', Ch none H H' → E (.ref C) none H') ∧ (f d = true → ∀ H', Ch none H H' → Q .non H')
theorem y_chk {f : PyData → Bool} {C : Addr} {v : V} {d : PyData} (h : Im K H v d) (e : f d = true) (k : ∀ H', Ch none H H' → Q .non H') : spChk K f C ([v] ++ []) H Q E := ⟨v, d, rfl, h, fun z => absurd (z.symm.trans e) Bool.false_ne_true, fun _ => k⟩
def spTenths (K : PySem.W.Frag) : Sp := fun vs H Q _ => ∃ v ds c, vs = [v, .int c] ∧ Im K H v (.tuple ds) ∧ (∀ e ∈ ds, isRw e = true) ∧ ds.length ≤ 1000 ∧ (c = 0 ∨ c = 1) ∧ ∀ H', Ch none H H' → Q (.int (tnD c ds)) H'
theorem y_tenths {v : V} {ds : List PyData} {c : Int} (h : Im K H v (.tuple ds)) (hr : ∀ e ∈ ds, isRw e = true) (hn : ds.length ≤ 1000) (hc : c = 0 ∨ c = 1) (k : ∀ H', Ch none H H' → Q (.int (tnD c ds)) H') : spTenths K ([v, .int c] ++ []) H Q E := ⟨v, ds, c, rfl, h, hr, hn, hc, k⟩
def spCut (K : PySem.W.Frag) (C : Addr) : Sp := fun vs H Q E => ∃ v1 v2 d e, vs = [v1, v2] ∧ Im K H v1 d ∧ Im K H v2 e ∧ (isSt d = false → ∀ H', Ch none H H' → E (.ref C) none H') ∧ (isSt d = true → ∀ H', Ch none H H' → Q (.bl (isCt (rowsOf d).length e)) H')
theorem y_cut {C : Addr} {v1 v2 : V} {d e : PyData} (h1 : Im K H v1 d) (h2 : Im K H v2 e) (s : isSt d = true) (k : ∀ H', Ch none H H' → Q (.bl (isCt (rowsOf d).length e)) H') : spCut K C ([v1, v2] ++ []) H Q E := ⟨v1, v2, d, e, rfl, h1, h2, fun z => absurd (z.symm.trans s) Bool.false_ne_true, fun _ => k⟩
def spShr (K : PySem.W.Frag) : Sp := fun vs H Q _ => ∃ v1 v2 d ds loss h t c, vs = [v1, v2, .int c] ∧ Im K H v1 d ∧ St1 d ds loss ∧ Im K H v2 (.tuple [.int h, .int t]) ∧ 0 ≤ h ∧ h ≤ t ∧ t ≤ ds.length ∧ (c = 0 ∨ c = 1) ∧ ∀ v H', Ch none H H' → Im K H' v (.tuple ((shr ds loss h t c).map dq)) → Q v H'
theorem y_shr {v1 v2 : V} {d : PyData} {ds : List PyData} {loss h t c : Int} (h1 : Im K H v1 d) (s : St1 d ds loss) (h2 : Im K H v2 (.tuple [.int h, .int t])) (h0 : 0 ≤ h) (ht : h ≤ t) (tn : t ≤ ds.length) (hc : c = 0 ∨ c = 1)
    (k : ∀ v H', Ch none H H' → Im K H' v (.tuple ((shr ds loss h t c).map dq)) → Q v H') : spShr K ([v1, v2, .int c] ++ []) H Q E := ⟨v1, v2, d, ds, loss, h, t, c, rfl, h1, s, h2, h0, ht, tn, hc, k⟩
def spShare (K : PySem.W.Frag) : Sp := fun vs H Q _ => ∃ v1 v2 v3 l a b, vs = [v1, v2, v3] ∧ Im K H v1 (dl l) ∧ Im K H v2 (dq a) ∧ Im K H v3 (dq b) ∧ FQ 8999 l.1 ∧ FQ 8999 l.2 ∧ FQ 8999 a ∧ FQ 8999 b ∧ ∀ v H', Ch none H H' → Im K H' v (dl (a * l.1, b * l.2)) → Q v H'
theorem y_share {v1 v2 v3 : V} {l : Rat × Rat} {a b : Rat} (h1 : Im K H v1 (dl l)) (h2 : Im K H v2 (dq a)) (h3 : Im K H v3 (dq b)) (f1 : FQ 8999 l.1) (f2 : FQ 8999 l.2) (f3 : FQ 8999 a) (f4 : FQ 8999 b)
    (k : ∀ v H', Ch none H H' → Im K H' v (dl (a * l.1, b * l.2)) → Q v H') : spShare K ([v1, v2, v3] ++ []) H Q E := ⟨v1, v2, v3, l, a, b, rfl, h1, h2, h3, f1, f2, f3, f4, k⟩
def spRun (K : PySem.W.Frag) : Sp := fun vs H Q _ => ∃ v1 v2 v3 d ds loss h t l, vs = [v1, v2, v3] ∧ Im K H v1 d ∧ St1 d ds loss ∧ Im K H v2 (.tuple [.int h, .int t]) ∧ 0 ≤ h ∧ h ≤ t ∧ t ≤ ds.length ∧ Im K H v3 (dl l) ∧ 0 ≤ l.1 ∧ 0 ≤ l.2 ∧ FQ 8999 l.1 ∧ FQ 8999 l.2 ∧ ∀ v H', Ch none H H' → Im K H' v (.tuple ((prt ds loss h t l).map dl)) → Q v H'
theorem y_run {v1 v2 v3 : V} {d : PyData} {ds : List PyData} {loss h t : Int} {l : Rat × Rat} (h1 : Im K H v1 d) (s : St1 d ds loss) (h2 : Im K H v2 (.tuple [.int h, .int t])) (h0 : 0 ≤ h) (ht : h ≤ t) (tn : t ≤ ds.length) (h3 : Im K H v3 (dl l)) (l0 : 0 ≤ l.1) (l1 : 0 ≤ l.2) (f1 : FQ 8999 l.1) (f2 : FQ 8999 l.2)
    (k : ∀ v H', Ch none H H' → Im K H' v (.tuple ((prt ds loss h t l).map dl)) → Q v H') : spRun K ([v1, v2, v3] ++ []) H Q E := ⟨v1, v2, v3, d, ds, loss, h, t, l, rfl, h1, s, h2, h0, ht, tn, h3, l0, l1, f1, f2, k⟩
def spRows (K : PySem.W.Frag) : Sp := fun vs H Q _ => ∃ v1 v3 d ds loss l, vs = [v1, v3] ∧ Im K H v1 d ∧ St1 d ds loss ∧ Im K H v3 (dl l) ∧ 0 ≤ l.1 ∧ 0 ≤ l.2 ∧ FQ 8999 l.1 ∧ FQ 8999 l.2 ∧ ∀ v H', Ch none H H' → Im K H' v (.tuple ((rwsOf ds loss l).map dl)) → Q v H'
theorem y_rows {v1 v3 : V} {d : PyData} {ds : List PyData} {loss : Int} {l : Rat × Rat} (h1 : Im K H v1 d) (s : St1 d ds loss) (h3 : Im K H v3 (dl l)) (l0 : 0 ≤ l.1) (l1 : 0 ≤ l.2) (f1 : FQ 8999 l.1) (f2 : FQ 8999 l.2)
    (k : ∀ v H', Ch none H H' → Im K H' v (.tuple ((rwsOf ds loss l).map dl)) → Q v H') : spRows K ([v1, v3] ++ []) H Q E := ⟨v1, v3, d, ds, loss, l, rfl, h1, s, h3, l0, l1, f1, f2, k⟩
end
end L2
namespace L2
open PySem PySem.Spec PyProof.Rows
theorem r_chain {r r' : R2} {ta tb tc : TE} {σ : St} {H : Hp} {Q : VK} (h : ta σ H fun x H1 => tb σ H1 fun y H2 => r x y H2 fun z H3 => ∃ k, z = .bl k ∧ (if k = true then tc σ H3 fun w' H4 => r' y w' H4 Q else Q (.bl false) H3)) : tChain r r' ta tb tc σ H Q := h
theorem isPr_iff {d : PyData} (h : isPr d = true) : ∃ a b, d = .tuple [a, b] := by
  cases d with
  | tuple ds =>
    have h : ds.length = 2 := of_decide_eq_true h
    match ds, h with
    | [a, b], _ => exact ⟨a, b, rfl⟩
  | _ => cases h
theorem isWh_iff {d : PyData} (h : isWh d = true) : ∃ i, d = .int i := by
  cases d with
  | int i => exact ⟨i, rfl⟩
  | _ => cases h
theorem isFq_no {d : PyData} (h : isPr d = false) : isFq d = false := by
  unfold isFq
  split
  · cases h
  · rfl
theorem isFq_no2 {a b : PyData} (h : isWh a = false ∨ isWh b = false) : isFq (.tuple [a, b]) = false := by
  unfold isFq
  split
  · rename_i e
    cases e
    rcases h with h | h <;> cases h
  · rfl
theorem isLq_no {d : PyData} (h : isPr d = false) : isLq d = false := by
  unfold isLq
  split
  · cases h
  · rfl
theorem isRw_no {d : PyData} (h : isPr d = false) : isRw d = false := by
  unfold isRw
  split
  · cases h
  · rfl
theorem isSt_no {d : PyData} (h : isPr d = false) : isSt d = false := by
  unfold isSt
  split
  · cases h
  · rfl
theorem isCt_no {n : Int} {d : PyData} (h : isPr d = false) : isCt n d = false := by
  unfold isCt
  split
  · cases h
  · rfl
def ctB (n : Int) : PyData → PyData → Bool
  | .int i, b => within b i n
  | _, _ => false
theorem isCt_pair (n : Int) (a b : PyData) : isCt n (.tuple [a, b]) = (within a 0 n && ctB n a b) := by
  cases a with
  | int i =>
    cases b with
    | int j => simp [isCt, within, ctB, Bool.and_assoc]
    | _ => simp [isCt, within, ctB]
  | _ => simp [isCt, within]
theorem shr_fq {ds : List PyData} {loss h t c : Int} {d : PyData} (s : St1 d ds loss) (r : Rat) (hr : r ∈ shr ds loss h t c) : FQ 64 r := by
  have b : ∀ (l : List PyData), (∀ e ∈ l, e ∈ ds) → l.length ≤ 8 → 0 ≤ tnD c l ∧ tnD c l ≤ 80 := fun l hl h8 => by
    have := tnD_bd (c := c) (ds := l) fun e he => s.rw e (hl e he)
    omega
  have n8 := s.n8
  have l0 := s.l0
  have l9 := s.l9
  have b1 := b (ds.take h.toNat) (fun e he => List.mem_of_mem_take he) (by rw [List.length_take]; omega)
  have b2 := b ((ds.drop h.toNat).take (t.toNat - h.toNat)) (fun e he => List.mem_of_mem_drop (List.mem_of_mem_take he)) (by rw [List.length_take, List.length_drop]; omega)
  have b3 := b (ds.drop t.toNat) (fun e he => List.mem_of_mem_drop he) (by rw [List.length_drop]; omega)
  have b4 := b ds (fun e he => he) n8
  have mk : ∀ (x k : Int), 0 ≤ x → x ≤ 80 → 0 ≤ k → k ≤ 10 → Bd 64 (x * k) := fun x k h1 h2 h3 h4 => by
    show (x * k).natAbs < 2 ^ 64
    have h5 : x * k ≤ 80 * 10 := Int.mul_le_mul h2 h4 h3 (by decide)
    have h6 : 0 ≤ x * k := Int.mul_nonneg h1 h3
    omega
  have hb : Bd 64 (100 : Int) := by show (100 : Int).natAbs < 2 ^ 64; decide
  have hb' : Bd 64 (10 : Int) := by show (10 : Int).natAbs < 2 ^ 64; decide
  unfold shr at hr
  simp only [List.mem_cons, List.not_mem_nil, or_false] at hr
  rcases hr with rfl | rfl | rfl | rfl | rfl
  · exact FQ.divInt (by decide) (mk _ _ b1.1 b1.2 (by omega) (by omega)) hb
  · exact FQ.divInt (by decide) (mk _ _ b2.1 b2.2 (by omega) (by omega)) hb
  · exact FQ.divInt (by decide) (mk _ _ b3.1 b3.2 (by omega) (by omega)) hb
  · refine FQ.divInt (by decide) ?_ hb'
    show (10 - tnD c ds).natAbs < 2 ^ 64
    omega
  · exact FQ.divInt (by decide) (mk _ _ b4.1 b4.2 (by omega) (by omega)) hb
end L2
namespace L2
open PySem PySem.Spec PyProof.Rows
/-- the number that a fraction is -/
def ratOf : PyData → Rat
  | .tuple [.int t, .int b] => Rat.divInt t b
  | _ => 0
theorem ratOf_dq (r : Rat) : ratOf (dq r) = r := by
  show Rat.divInt r.num (r.den : Int) = r
  exact Rat.num_divInt_den r
theorem fq_small (a k : Int) (h1 : 0 ≤ a) (h2 : a ≤ 80) (h3 : 0 ≤ k) (h4 : k ≤ 10) : FQ 8999 (Rat.divInt (a * k) 100) := by
  have h5 : a * k ≤ 80 * 10 := Int.mul_le_mul h2 h4 h3 (by decide)
  have h6 : 0 ≤ a * k := Int.mul_nonneg h1 h3
  exact FQ.mono (n := 64) (FQ.divInt (by decide) (by show (a * k).natAbs < 2 ^ 64; omega) (by show (100 : Int).natAbs < 2 ^ 64; decide)) (by decide)
end L2

set_option Elab.async false
set_option linter.all false
set_option maxRecDepth 100000
namespace L2
open PySem PySem.Spec PyProof.Rows
section
variable {K : PySem.W.Frag} {a : Addr} {xs : List V} {es : List PyData} {g : TG} {tb : TS} {σ : St} {H : Hp} {rt : VK} {nx0 : St → Hp → Prop} {v : V}
/-- what a for asks -/
def ForR (J : It) (g : TG) (tb : TS) (σ : St) (H : Hp) (rt : VK) (nx0 : St → Hp → Prop) : Prop :=
  ∃ W : Nat → Nat → St → Hp → Prop, (∃ m, W 0 m σ H) ∧ ∀ i m σ H, W i m σ H →
    (J.stop i H ∧ nx0 σ H) ∨ (J.go i H ∧ ∃ N : St → Hp → Prop, (∀ σ' H', N σ' H' → ∃ m', m' < m ∧ W (i + 1) m' σ' H') ∧ ∀ x H', J.yld i H x H' → g x σ H' fun σ2 H2 => tb { nx := N, rt := rt, ct := N, bk := nx0 } σ2 H2)
theorem f_listI (q : Option Addr) (Pv : Nat → St → Hp → Prop) (sq : H a = some (.lst xs)) (al : ImAll K H xs es) (na : ∀ p, q = some p → a ≠ p) (h0 : Pv 0 σ H) (ch : ∀ i σ H', Pv i σ H' → Ch q H H')
    (hs : ∀ i d x σ H', es[i]? = some d → Im K H' x d → Pv i σ H' → g x σ H' fun σ2 H2 => tb { nx := Pv (i + 1), rt := rt, ct := Pv (i + 1), bk := nx0 } σ2 H2) (hd : ∀ σ H', Pv es.length σ H' → nx0 σ H') : ForR (Itl K a) g tb σ H rt nx0 := by
  have st : ∀ {H'}, Ch q H H' → H' a = some (.lst xs) := fun {H'} c => by
    cases q with
    | none => exact c.ls sq
    | some p => exact c.lsP (na p rfl) sq
  refine f_list (xs := xs) Pv h0 (fun i σ H' _ hP => .inl (.inl (st (ch i σ H' hP)))) ?_ ?_
  · intro i x σ H' hx hP
    have hi : i < es.length := by rw [← al.length]; exact (List.getElem?_eq_some_iff.mp hx).1
    obtain ⟨u, hu, iu⟩ := (al.ch (ch i σ H' hP)).at (d := es[i]) (i := i) (by simp [hi])
    rw [hx] at hu; cases hu
    exact hs i es[i] x σ H' (by simp [hi]) iu hP
  · rw [al.length]; exact hd
theorem f_tupI (q : Option Addr) (Pv : Nat → St → Hp → Prop) (hv : Im K H v (.tuple es)) (h0 : Pv 0 σ H) (ch : ∀ i σ H', Pv i σ H' → Ch q H H')
    (hs : ∀ i d x σ H', es[i]? = some d → Im K H' x d → Pv i σ H' → g x σ H' fun σ2 H2 => tb { nx := Pv (i + 1), rt := rt, ct := Pv (i + 1), bk := nx0 } σ2 H2) (hd : ∀ σ H', Pv es.length σ H' → nx0 σ H') :
    ∃ a, v = .ref a ∧ (∃ xs, SqT K H a xs) ∧ ForR (Itt K a) g tb σ H rt nx0 := by
  obtain ⟨a, xs, rfl, s, al⟩ := hv.ref
  refine ⟨a, rfl, ⟨xs, s⟩, f_tup (xs := xs) Pv h0 (fun i σ H' _ hP => s.ch (ch i σ H' hP)) ?_ ?_⟩
  · intro i x σ H' hx hP
    have hi : i < es.length := by rw [← al.length]; exact (List.getElem?_eq_some_iff.mp hx).1
    obtain ⟨u, hu, iu⟩ := (al.ch (ch i σ H' hP)).at (d := es[i]) (i := i) (by simp [hi])
    rw [hx] at hu; cases hu
    exact hs i es[i] x σ H' (by simp [hi]) iu hP
  · rw [al.length]; exact hd
/-- an item is put to a list of the def's own -/
theorem i_app {l : Addr} {ys : List V} {y : V} {Q : VK} (e : H l = some (.lst ys)) (hl : ys.length < 1000) (k : ∀ H', Ch (some l) H H' → H' l = some (.lst (ys ++ [y])) → Q .non H') : rAppend (.ref l) [y] H Q :=
  ⟨l, ys, y, rfl, rfl, e, Nat.lt_trans hl (by decide), k _ (Ch.at e) upd_same⟩
theorem i_tyL {l : Addr} {ys : List V} {R : Prop} (e : H l = some (.lst ys)) (h : R) : tyV K "list" (.ref l) H ∧ R := ⟨.inl ⟨rfl, _, .inl (.inl e)⟩, h⟩
theorem i_setL {l : Addr} {ys : List V} {i : Int} {y : V} {R : Hp → Prop} (e : H l = some (.lst ys)) (h0 : 0 ≤ i) (h1 : i < ys.length) (k : ∀ H', Ch (some l) H H' → H' l = some (.lst (ys.set i.toNat y)) → R H') : rSetL (.ref l) (.int i) y H R := by
  refine ⟨l, ys, i, i.toNat, rfl, rfl, e, ?_, k _ (Ch.at e) upd_same⟩
  unfold ixN
  rw [if_pos h0, if_pos h1]
theorem i_ixL {l : Addr} {ys : List V} {i : Int} {Q : VK} (e : H l = some (.lst ys)) (h0 : 0 ≤ i) (h1 : i < ys.length) (k : Q (ys[i.toNat]'(by omega)) H) : rIx K (.ref l) (.int i) H Q := r_ixL (.inl (.inl e)) (atD_int h0 h1) k
end
theorem i_pick {K : PySem.W.Frag} {H : Hp} {Q : VK} {l : Addr} {ys : List V} {i : Int} (e : H l = some (.lst ys)) (h0 : 0 ≤ i) (h1 : i < ys.length) (k : ∀ x, x ∈ ys → Q x H) : rIx K (.ref l) (.int i) H Q :=
  i_ixL e h0 h1 (k _ (List.getElem_mem _))
theorem map_snoc (ns : List Int) (y : Int) : ns.map V.int ++ [V.int y] = (ns ++ [y]).map V.int := by simp
/-! ### the law's stills, cuts, liquors -/
section
variable {K : PySem.W.Frag} {H : Hp} {Q : VK} {E : XK}
def spMul (K : PySem.W.Frag) : Sp := fun vs H Q _ => ∃ v1 v2 p q, vs = [v1, v2] ∧ Im K H v1 (dq p) ∧ Im K H v2 (dq q) ∧ FQ 4000 p ∧ FQ 4000 q ∧ ∀ v H', Ch none H H' → Im K H' v (dq (p * q)) → Q v H'
theorem y_mul {v1 v2 : V} {p q : Rat} (h1 : Im K H v1 (dq p)) (h2 : Im K H v2 (dq q)) (f1 : FQ 4000 p) (f2 : FQ 4000 q) (k : ∀ v H', Ch none H H' → Im K H' v (dq (p * q)) → Q v H') : spMul K ([v1, v2] ++ []) H Q E := ⟨v1, v2, p, q, rfl, h1, h2, f1, f2, k⟩
def spOf (K : PySem.W.Frag) : Sp := fun vs H Q _ => ∃ v1 v2 p l, vs = [v1, v2] ∧ Im K H v1 (dq p) ∧ Im K H v2 (dl l) ∧ FQ 4000 p ∧ FQ 4000 l.1 ∧ FQ 4000 l.2 ∧ ∀ v H', Ch none H H' → Im K H' v (dl (p * l.1, p * l.2)) → Q v H'
theorem y_of {v1 v2 : V} {p : Rat} {l : Rat × Rat} (h1 : Im K H v1 (dq p)) (h2 : Im K H v2 (dl l)) (f1 : FQ 4000 p) (f2 : FQ 4000 l.1) (f3 : FQ 4000 l.2) (k : ∀ v H', Ch none H H' → Im K H' v (dl (p * l.1, p * l.2)) → Q v H') : spOf K ([v1, v2] ++ []) H Q E := ⟨v1, v2, p, l, rfl, h1, h2, f1, f2, f3, k⟩
def spLTen : Sp := fun vs H Q _ => ∃ p many, vs = [.ref p, .int many] ∧ Purse H p ∧ 1 ≤ many ∧ many ≤ 8 ∧ ∀ l H' (ns : List Int), H l = none → H' l = some (.lst (ns.map V.int)) → (ns.length : Int) = many → (∀ n ∈ ns, 0 ≤ n) → ns.sum ≤ 10 → Ch (some p) H H' → Purse H' p → Q (.ref l) H'
theorem y_ltenths {p : Addr} {many : Int} (h : Purse H p) (m1 : 1 ≤ many) (m8 : many ≤ 8) (k : ∀ l H' (ns : List Int), H l = none → H' l = some (.lst (ns.map V.int)) → (ns.length : Int) = many → (∀ n ∈ ns, 0 ≤ n) → ns.sum ≤ 10 → Ch (some p) H H' → Purse H' p → Q (.ref l) H') : spLTen ([.ref p, .int many] ++ []) H Q E := ⟨p, many, rfl, h, m1, m8, k⟩
def spLSt (K : PySem.W.Frag) : Sp := fun vs H Q _ => ∃ p, vs = [.ref p] ∧ Purse H p ∧ ∀ v H' d ds loss, St1 d ds loss → Im K H' v d → Ch (some p) H H' → Purse H' p → Q v H'
theorem y_lst {p : Addr} (h : Purse H p) (k : ∀ v H' d ds loss, St1 d ds loss → Im K H' v d → Ch (some p) H H' → Purse H' p → Q v H') : spLSt K ([.ref p] ++ []) H Q E := ⟨p, rfl, h, k⟩
def spLCut (K : PySem.W.Frag) : Sp := fun vs H Q _ => ∃ p v d ds loss, vs = [.ref p, v] ∧ Purse H p ∧ Im K H v d ∧ St1 d ds loss ∧ ∀ u H' h t, 0 ≤ h → h ≤ t → t ≤ (ds.length : Int) → Im K H' u (.tuple [.int h, .int t]) → Ch (some p) H H' → Purse H' p → Q u H'
theorem y_lcut {p : Addr} {v : V} {d : PyData} {ds : List PyData} {loss : Int} (h : Purse H p) (i : Im K H v d) (s : St1 d ds loss) (k : ∀ u H' h t, 0 ≤ h → h ≤ t → t ≤ (ds.length : Int) → Im K H' u (.tuple [.int h, .int t]) → Ch (some p) H H' → Purse H' p → Q u H') : spLCut K ([.ref p, v] ++ []) H Q E := ⟨p, v, d, ds, loss, rfl, h, i, s, k⟩
/-- a liquor of numbers of at most n bits -/
structure LQ (n : Nat) (l : Rat × Rat) : Prop where
  p1 : 0 ≤ l.1
  p2 : 0 ≤ l.2
  f1 : FQ n l.1
  f2 : FQ n l.2
theorem LQ.mono {n m : Nat} {l : Rat × Rat} (h : LQ n l) (hm : n ≤ m) : LQ m l := ⟨h.p1, h.p2, h.f1.mono hm, h.f2.mono hm⟩
def spLLq (K : PySem.W.Frag) (n : Nat) : Sp := fun vs H Q _ => ∃ p, vs = [.ref p] ∧ Purse H p ∧ ∀ v H' l, LQ n l → Im K H' v (dl l) → Ch (some p) H H' → Purse H' p → Q v H'
theorem y_llq {n : Nat} {p : Addr} (h : Purse H p) (k : ∀ v H' l, LQ n l → Im K H' v (dl l) → Ch (some p) H H' → Purse H' p → Q v H') : spLLq K n ([.ref p] ++ []) H Q E := ⟨p, rfl, h, k⟩
def spLRows (K : PySem.W.Frag) : Sp := fun vs H Q _ => ∃ v1 v3 d ds loss l, vs = [v1, v3] ∧ Im K H v1 d ∧ St1 d ds loss ∧ Im K H v3 (dl l) ∧ LQ 3000 l ∧ ∀ v H', Ch none H H' → Im K H' v (.tuple ((rwsOf ds loss l).map dl)) → Q v H'
theorem y_lrows {v1 v3 : V} {d : PyData} {ds : List PyData} {loss : Int} {l : Rat × Rat} (h1 : Im K H v1 d) (s : St1 d ds loss) (h3 : Im K H v3 (dl l)) (lq : LQ 3000 l) (k : ∀ v H', Ch none H H' → Im K H' v (.tuple ((rwsOf ds loss l).map dl)) → Q v H') : spLRows K ([v1, v3] ++ []) H Q E := ⟨v1, v3, d, ds, loss, l, rfl, h1, s, h3, lq, k⟩
end
theorem pl_dq (n : Nat) (p : Rat) : Pl (n + 1) (dq p) := .tup n _ (Nat.le_of_ble_eq_true rfl) (fun d h => by
  simp only [List.mem_cons, List.not_mem_nil, or_false] at h
  rcases h with rfl | rfl <;> exact .int n _)
theorem pl_dl (n : Nat) (l : Rat × Rat) : Pl (n + 2) (dl l) := .tup (n + 1) _ (Nat.le_of_ble_eq_true rfl) (fun d h => by
  simp only [List.mem_cons, List.not_mem_nil, or_false] at h
  rcases h with rfl | rfl <;> exact pl_dq n _)
theorem c_tupD {K : PySem.W.Frag} {g : TG} {tt : TT} {te : TE} {vs : List Nat} {σ : St} {H1 : Hp} {Qd : Addr → Hp → Prop} {v : V} {es : List PyData} (P : Nat → List PyData → Prop) (hn : es.length ≤ 1000) (hv : Im K H1 v (.tuple es)) (h0 : P 0 [])
    (hs : ∀ i H ds x d, es[i]? = some d → Im K H x d → Ch none H1 H → ds.length = i → P i ds → Turn0 K g tt te vs σ P i H ds x)
    (hd : ∀ D H us ds, H1 D = none → H D = some (.lst us) → ImAll K H us ds → Ch none H1 H → ds.length = es.length → P es.length ds → Qd D H) : ∃ a, v = .ref a ∧ (∃ xs, SqT K H1 a xs) ∧ ∀ D, H1 D = none → LcR (Itt K a) g tt te vs σ H1 D (Qd D) := by
  obtain ⟨a, xs, rfl, sq, ax⟩ := hv.ref
  exact ⟨a, rfl, ⟨_, sq⟩, fun D hD => c_tup none P hn sq ax hD no_purse h0 (fun i H ds x d hi e c _ hl hP N S k => hs i H ds x d hi e c hl hP N S fun y H4 d a b e => k y H4 d a b no_purse e) fun H us ds a b c _ => hd D H us ds hD a b c⟩
theorem c_listD {K : PySem.W.Frag} {g : TG} {tt : TT} {te : TE} {vs : List Nat} {σ : St} {H1 : Hp} {Qd : Addr → Hp → Prop} {a : Addr} {xs : List V} {es : List PyData} (P : Nat → List PyData → Prop) (hn : es.length ≤ 1000) (sq : H1 a = some (.lst xs)) (ax : ImAll K H1 xs es) (h0 : P 0 [])
    (hs : ∀ i H ds x d, es[i]? = some d → Im K H x d → Ch none H1 H → ds.length = i → P i ds → Turn0 K g tt te vs σ P i H ds x)
    (hd : ∀ D H us ds, H1 D = none → H D = some (.lst us) → ImAll K H us ds → Ch none H1 H → ds.length = es.length → P es.length ds → Qd D H) : ∃ b, V.ref a = .ref b ∧ (∃ xs, SqL K H1 b xs) ∧ ∀ D, H1 D = none → LcR (Itl K b) g tt te vs σ H1 D (Qd D) :=
  ⟨a, rfl, ⟨_, SqL.of sq⟩, fun D hD => c_list0 P hn sq ax hD h0 hs fun H us ds => hd D H us ds hD⟩
theorem bd_mul10 {x y : Int} (h1 : 0 ≤ x) (h2 : x ≤ 1000) (h3 : 0 ≤ y) (h4 : y ≤ 1000) : Bd 64 (x * y) := by
  have h5 : x * y ≤ 1000 * 1000 := Int.mul_le_mul h2 h4 h3 (by decide)
  have h6 : 0 ≤ x * y := Int.mul_nonneg h1 h3
  show (x * y).natAbs < 2 ^ 64
  omega
theorem sum_set_le {ns : List Int} {i : Nat} {x : Int} (hi : i < ns.length) : (ns.set i x).sum = ns.sum - ns[i] + x := by
  induction ns generalizing i with
  | nil => simp at hi
  | cons n ns ih =>
    cases i with
    | zero => simp; omega
    | succ i =>
      have := ih (i := i) (by simpa using hi)
      simp only [List.set_cons_succ, List.sum_cons, List.getElem_cons_succ]
      omega
theorem le_sum {ns : List Int} (h : ∀ n ∈ ns, 0 ≤ n) : ∀ n ∈ ns, n ≤ ns.sum := by
  induction ns with
  | nil => simp
  | cons m ns ih =>
    intro n hn
    have h0 : 0 ≤ ns.sum := by
      clear ih hn
      induction ns with
      | nil => simp
      | cons k ns ih2 =>
        have := h k (by simp)
        have := ih2 (fun n hn => h n (by simp at hn ⊢; rcases hn with rfl | hn; exact .inl rfl; exact .inr (.inr hn)))
        simp only [List.sum_cons]; omega
    have hm := h m (by simp)
    simp only [List.sum_cons]
    rcases List.mem_cons.mp hn with rfl | hn
    · omega
    · have := ih (fun n hn => h n (by simp [hn])) n hn
      omega
theorem rw_zip : ∀ {as bs : List Int}, as.length = bs.length → (∀ n ∈ as, 0 ≤ n) → (∀ n ∈ bs, 0 ≤ n) → as.sum ≤ 10 → bs.sum ≤ 10 →
    (∀ e ∈ List.zipWith (fun a b => PyData.tuple [.int a, .int b]) as bs, isRw e = true) ∧ tnD 0 (List.zipWith (fun a b => PyData.tuple [.int a, .int b]) as bs) = as.sum ∧ tnD 1 (List.zipWith (fun a b => PyData.tuple [.int a, .int b]) as bs) = bs.sum := by
  intro as bs hl ha hb sa sb
  refine ⟨fun e he => ?_, ?_, ?_⟩
  · obtain ⟨i, hi, rfl⟩ := List.getElem_of_mem he
    rw [List.getElem_zipWith]
    rw [List.length_zipWith] at hi
    have h1 := le_sum ha _ (List.getElem_mem (show i < as.length by omega))
    have h2 := le_sum hb _ (List.getElem_mem (show i < bs.length by omega))
    have h3 := ha _ (List.getElem_mem (show i < as.length by omega))
    have h4 := hb _ (List.getElem_mem (show i < bs.length by omega))
    simp only [isRw, within, Bool.and_eq_true, decide_eq_true_eq]
    omega
  · clear ha hb sa sb
    induction as generalizing bs with
    | nil => rfl
    | cons a as ih =>
      cases bs with
      | nil => simp at hl
      | cons b bs =>
        have := ih (bs := bs) (by simpa using hl)
        unfold tnD at *
        simp only [List.zipWith_cons_cons, List.map_cons, List.sum_cons, this]
        rfl
  · clear ha hb sa sb
    induction as generalizing bs with
    | nil =>
      cases bs with
      | nil => rfl
      | cons b bs => simp at hl
    | cons a as ih =>
      cases bs with
      | nil => simp at hl
      | cons b bs =>
        have := ih (bs := bs) (by simpa using hl)
        unfold tnD at *
        simp only [List.zipWith_cons_cons, List.map_cons, List.sum_cons, this]
        rfl
end L2
namespace L2
open PySem PySem.Spec PyProof.Rows
/-- nowhere a truth -/
inductive PlN : PyData → Prop
  | non : PlN .none
  | int (i : Int) : PlN (.int i)
  | str (x : Str) : PlN (.str x)
  | tup (ds : List PyData) : (∀ d ∈ ds, PlN d) → (∀ d ∈ ds, ∀ b, d ≠ .bool b) → PlN (.tuple ds)
theorem PlN.mem {ds : List PyData} (h : PlN (.tuple ds)) {d : PyData} (hd : d ∈ ds) : (∀ b, d ≠ .bool b) ∧ PlN d := by
  cases h with
  | tup _ k k' => exact ⟨k' d hd, k d hd⟩
theorem PlN.of {ds : List PyData} (h : ∀ d ∈ ds, PlN d ∧ ∀ b, d ≠ .bool b) : PlN (.tuple ds) := .tup ds (fun d hd => (h d hd).1) fun d hd => (h d hd).2
theorem pn_dq (p : Rat) : PlN (dq p) := .of fun d h => by
  simp only [List.mem_cons, List.not_mem_nil, or_false] at h
  rcases h with rfl | rfl <;> exact ⟨.int _, fun b z => nomatch z⟩
theorem pn_dl (l : Rat × Rat) : PlN (dl l) := .of fun d h => by
  simp only [List.mem_cons, List.not_mem_nil, or_false] at h
  rcases h with rfl | rfl <;> exact ⟨pn_dq _, fun b z => nomatch z⟩
end L2

set_option Elab.async false
set_option linter.all false
set_option maxRecDepth 100000
namespace L2
open PySem PySem.Spec PyProof.Rows

/-- a law's entry where the tables tabs (code object, table) of some of the top's defs may grow: the base names them in life.ids -/
theorem head_tabB {P : Program} {w : World} {K : PySem.W.Frag} {mg mb : Str → Option Value} {CX : CXT} {k : Nat} {fa a : Addr} {fd : FuncData} {x : Str} {sp : Sp} {s₁ : Shared} {vs : List Value} {ns : List Int} {tabs : List (Addr × Addr)}
    (KX : K.In s₁.heap) (gl : s₁.heap.Ns mainGlobals mg) (bl : s₁.heap.Ns builtinsNs mb) (bb : ∀ x : Str, x ≠ "__name__" → mb x = bootBuiltins x) (lim : s₁.heap.NoLimit) (g0 : s₁.gens = #[])
    (oa : s₁.heap.get? a = some { cls := .type "list", data := .seq vs.toArray }) (is : IntsAre vs ns) (sz : ns.length ≤ sizeLine) (rm : Room k callerA)
    (hT : PySem.W.TabsAt tabs s₁.heap) (noT : PySem.W.noTabs K = true) (hbm : BM mg s₁.heap)
    (F : ∀ B : Heap, K.In B → B.Ns mainGlobals mg → B.life.ids = tabs → BM mg B → FnOk P w K mg B CX k fa fd [x] sp) (bd : ∀ (s : Shared) (u : Value), BindsTo s fd ⟨[u], []⟩ [(x, u)])
    (hsp : ∀ H : Hp, SqL K H a (ns.map V.int) → sp [.ref a] H (fun v _ => v = .bl true) fun _ _ _ => False)
    (hCX : ∀ H e s', CX [] H s₁ (fun _ _ _ => False) e s' → False) :
    codeAny (model P w) callerA (.call (.ref fa) ⟨[.ref a], []⟩) (fun r s' => r = .ok (.ret (.bool true)) ∧ OldK s₁.heap s'.heap ∧ s'.os = s₁.os ∧ AllBare s'.gens) s₁ := by
  generalize eo : ({ cls := .type "list", data := .seq vs.toArray } : Obj) = ob at oa
  have tabNone : ∀ b, b ∈ tabs.map (·.2) → K.lookup b = none := fun b hb => by
    obtain ⟨q, hq, rfl⟩ := List.mem_map.mp hb
    cases e : K.lookup q.2 with
    | none => rfl
    | some o =>
      have e1 := KX _ _ e
      rw [(hT q hq).2] at e1
      cases e1
      have z := List.all_eq_true.mp noT _ (PySem.W.mem_of_lookupK e)
      exact absurd (show false = true from z) Bool.false_ne_true
  have aNo : a ∉ tabs.map (·.2) := fun hb => by
    obtain ⟨q, hq, e⟩ := List.mem_map.mp hb
    have e1 := (hT q hq).2
    rw [e, oa, ← eo] at e1
    cases e1
  -- what is tracked: the tables, and the script unless the module holds it
  obtain ⟨H, hH⟩ : ∃ H : Hp, H = fun b => if b ∈ tabs.map (·.2) then some (.tbl #[]) else if b = a ∧ K.lookup a = none then some (.frz ob (.lst (ns.map V.int))) else none := ⟨_, rfl⟩
  have tri : ∀ b, H b = none ∨ (b ∈ tabs.map (·.2) ∧ H b = some (.tbl #[])) ∨ (b = a ∧ K.lookup a = none ∧ H b = some (.frz ob (.lst (ns.map V.int)))) := fun b => by
    rw [hH]
    by_cases h1 : b ∈ tabs.map (·.2)
    · exact .inr (.inl ⟨h1, if_pos h1⟩)
    · by_cases h2 : b = a ∧ K.lookup a = none
      · exact .inr (.inr ⟨h2.1, h2.2, by simp only [if_neg h1, if_pos h2]⟩)
      · exact .inl (by simp only [if_neg h1, if_neg h2])
  have lenV := is.length
  have rv := vals_ints is
  have sq : SqL K H a (ns.map V.int) := by
    cases hk : K.lookup a with
    | none => exact .inl (.inr ⟨ob, by rw [hH]; exact (if_neg aNo).trans (if_pos ⟨rfl, hk⟩)⟩)
    | some o =>
      have e := KX a o hk
      rw [oa] at e
      cases e
      rw [← eo] at hk
      exact .inr ⟨_, vs.toArray, _, hk, rfl, rfl, rfl, by rw [List.size_toArray, lenV]; exact sz, by simpa using rv⟩
  have tabObjOf : ∀ b, b ∈ tabs.map (·.2) → ∃ c, PySem.W.CodeHd s₁.heap c b ∧ s₁.heap.get? b = some (PySem.W.tabObj #[]) := fun b hb => by
    obtain ⟨q, hq, rfl⟩ := List.mem_map.mp hb
    exact ⟨q.1, hT q hq⟩
  have hok : HOk P w H s₁.heap := fun b u e => by
    rcases tri b with z | ⟨hb, z⟩ | ⟨hb, _, z⟩
    · rw [z] at e; cases e
    · rw [z] at e; cases e
      obtain ⟨_, _, q⟩ := tabObjOf b hb
      exact ⟨q, trivial⟩
    · rw [z] at e; cases e
      subst hb
      exact ⟨oa, by rw [List.length_map]; exact sz, vs, _, rv, by rw [oa, ← eo]⟩
  obtain ⟨B, hB⟩ : ∃ B : Heap, B = { hidT s₁.heap H with life := { ids := tabs } } := ⟨_, rfl⟩
  have Bget : ∀ b, B.get? b = (hidT s₁.heap H).get? b := fun b => by rw [hB]; rfl
  have Bs : B.objs.size = s₁.heap.objs.size := by rw [hB]; exact hidT_size _ _
  have into : ∀ {b : Addr} {o : Obj}, s₁.heap.get? b = some o → H b = none → B.get? b = some o := fun {b o} e n => (Bget b).trans (hidT_get e n)
  have noD : ∀ {b : Addr} {o : Obj} {es : Array DictEntry} {ep : Nat}, s₁.heap.get? b = some o → o.data = .dict es ep → H b = none := fun {b o es ep} e d => by
    rcases tri b with z | ⟨hb, _⟩ | ⟨hb, _, _⟩
    · exact z
    · obtain ⟨_, _, q⟩ := tabObjOf b hb
      rw [q] at e; cases e; cases d
    · subst hb
      rw [oa] at e; cases e
      rw [← eo] at d; cases d
  have nsB : ∀ {b : Addr} {m : Str → Option Value}, s₁.heap.Ns b m → B.Ns b m := fun {b m} ⟨o, es, ep, e, d, r⟩ => ⟨o, es, ep, into e (noD e d), d, r⟩
  have KB : K.In B := fun b o e => into (KX b o e) (by
    rcases tri b with z | ⟨hb, _⟩ | ⟨hb, hk, _⟩
    · exact z
    · rw [tabNone b hb] at e; cases e
    · subst hb; rw [hk] at e; cases e)
  have md : Mod K mg B := ⟨KB, nsB gl, ⟨mb, nsB bl, bb⟩, let ⟨mc, h1, h2⟩ := lim; ⟨mc, nsB h1, h2⟩⟩
  have ids : B.life.ids = tabs := by rw [hB]
  have bmB : BM mg B := by
    obtain ⟨⟨bm, ob, M⟩, NS, ND⟩ := hbm
    have noM : ∀ {b : Addr} {o : Obj}, s₁.heap.get? b = some o → o.cls = .type "module" → H b = none := fun {b o} e d => by
      rcases tri b with z | ⟨hb, _⟩ | ⟨hb, _, _⟩
      · exact z
      · obtain ⟨_, _, q⟩ := tabObjOf b hb
        rw [q] at e; cases e; cases d
      · subst hb
        rw [oa] at e; cases e
        rw [← eo] at d; exact absurd (Value.type.inj d) (by decide)
    have NB : B.NoSeer := ⟨let ⟨mc, h1, h2⟩ := NS.statics; ⟨mc, nsB h1, h2⟩, let ⟨mm, h1, h2⟩ := NS.mods; ⟨mm, nsB h1, h2⟩, let ⟨mb, h1, h2⟩ := NS.imp; ⟨mb, nsB h1, h2⟩, let ⟨m, b, o, h1, h2, h3, h4, h5⟩ := NS.main; ⟨m, b, o, nsB h1, h2, into h3 (noM h3 h4), h4, h5⟩⟩
    refine ⟨?_, NB, let ⟨mc, h1, h2⟩ := ND; ⟨mc, nsB h1, h2⟩⟩
    refine ⟨bm, ob, nsB M.ns, M.name, M.ne, into M.obj ?_, M.cls, M.dict, M.data⟩
    rcases tri bm with z | ⟨hb, _⟩ | ⟨hb, _, _⟩
    · exact z
    · obtain ⟨_, _, q⟩ := tabObjOf bm hb
      have e := M.obj
      rw [q] at e
      have e := (Option.some.inj e)
      have := M.data
      rw [← e] at this; cases this
    · have e := M.obj
      rw [hb, oa] at e
      have e := (Option.some.inj e)
      have := M.data
      rw [← e, ← eo] at this; cases this
  have tb : TbOk B H := fun q hq => by
    rw [ids] at hq
    rcases tri q.2 with z | ⟨_, z⟩ | ⟨hb, _, _⟩
    · rw [hH] at z; simp only [if_pos (List.mem_map_of_mem (f := (·.2)) hq)] at z; cases z
    · exact ⟨_, z, CdOk.nil⟩
    · exact absurd (hb ▸ List.mem_map_of_mem (f := (·.2)) hq) aNo
  have e0 : Env0 P w K mg B callerA [] s₁ H := ⟨rfl, md, fun b o e => of_hidT ((Bget b).symm.trans e), Nat.le_of_eq Bs, trivial, fun b hb => absurd (show b ∈ ([] : List Addr) from hb) (by simp), hok, .of_eq g0, tb⟩
  refine codeAny_mono ((F B KB (nsB gl) ids bmB).run callerA [] s₁ H ⟨[.ref a], []⟩ [.ref a] [.ref a] _ _ rm e0 (bd s₁ (.ref a)) (.cons rfl .nil) (hsp H sq)) fun r s' h => ?_
  match r, h with
  | .error e, h => exact (hCX H e s' h).elim
  | .ok (.ret u), h =>
    obtain ⟨v, H', os, bare, un, hok', r', q⟩ := h
    have q : v = .bl true := q
    subst q
    obtain rfl : u = Value.bool true := r'
    have old : ∀ b o, s₁.heap.get? b = some o → asItWas s₁.heap s'.heap b o ∧ ∃ o', s'.heap.get? b = some o' := fun b o e => by
      rcases tri b with z | ⟨hb, z⟩ | ⟨hb, _, z⟩
      · have k := un.keep b o e z (by intro y; exact absurd (show b ∈ ([] : List Addr) from y) (by simp)) (by simp)
        exact ⟨.inl k, o, k⟩
      · obtain ⟨c, hd, ht⟩ := tabObjOf b hb
        obtain ⟨more, z', _⟩ := un.tbls b _ z
        have k := (hok' b _ z').1
        rw [ht] at e; cases e
        exact ⟨.inr (.inl ⟨(hd.tab ht).isCodeTable, rfl, #[], more, rfl, k⟩), _, k⟩
      · have k := (hok' b _ (un.frzs b _ _ z)).1
        subst hb
        rw [oa] at e; cases e
        exact ⟨.inl k, _, k⟩
    exact ⟨rfl, ⟨fun b o e => (old b o e).1, fun b o e => (old b o e).2⟩, os, bare.1⟩

/-- the goal that k_head leaves, by head_tabs -/
theorem walk_tabB {l : PySem.W.OpenLaw} {n k : Nat} {q : Program} {loose : List Str} {XP : (Str → Option Value) → Heap → Prop} {YP : World → Heap → Prop} {d : DefRec} {K : Params → PySem.W.Frag} {CX : World → CXT} {sp : World → Sp} {x : Str} {tabs : List (Addr × Addr)}
    (most : l.most = some n) (small : n ≤ sizeLine) (nodef : d.params.defaults = []) (rm : Room k callerA) (noI : importsNone q = true)
    (yIn : ∀ (w : World) (h : Heap), YP w h → (K w.params).In h) (noT : ∀ R : Params, PySem.W.noTabs (K R) = true)
    (tIn : ∀ (w : World) (mean : ExcName → Option Value) (mg mb : Str → Option Value) (h : Heap), Top q (PySem.W.looseW q loose) mean mg mb h → (K w.params).In h → PySem.W.TabsAt tabs h)
    (F : ∀ (w : World) (mg : Str → Option Value) (fa : Addr) (h : Heap), (K w.params).In h → h.Ns mainGlobals mg → mg d.name = some (.ref fa) →
      ∃ fd : FuncData, (∀ (s : Shared) (u : Value), BindsTo s fd ⟨[u], []⟩ [(x, u)]) ∧ ∀ B : Heap, (K w.params).In B → B.Ns mainGlobals mg → B.life.ids = tabs → BM mg B → FnOk l.prog w (K w.params) mg B (CX w) k fa fd [x] (sp w))
    (hsp : ∀ (w : World) (H : Hp) (a : Addr) (ns : List Int), ns.length ≤ n → SqL (K w.params) H a (ns.map V.int) → sp w [.ref a] H (fun v _ => v = .bl true) fun _ _ _ => False)
    (hCX : ∀ (w : World) (H : Hp) (s : Shared) (e : Value) (s' : Shared), CX w [] H s (fun _ _ _ => False) e s' → False) :
    PySem.W.WalkO q loose XP YP l.row.toRowW d [] (fun f vs => PySem.call f vs) := by
  refine Att.attach_call most nodef fun w s₀ s₁ mg mb fa o pm cd doc a vs ns G Y ho hd hcd hmg hobj hints hlen hg => ?_
  have KX := yIn w _ Y
  obtain ⟨fd, hb, hF⟩ := F w mg fa _ KX G.T.g hmg
  exact head_tabB KX G.T.g G.T.b G.T.builtins G.T.nolimit hg hobj hints (Nat.le_trans hlen small) rm (tIn w _ mg mb _ G.T KX) (noT _) ⟨PySem.W.bmod_of_top G.T, G.T.seer noI, G.T.nodigits⟩ hF hb (fun H hS => hsp w H a ns hlen hS) fun H e s' => hCX w H s₁ e s'
/-- the same for a law: what it promises is spLaw -/
theorem walk_lawB {l : PySem.W.OpenLaw} {k : Nat} {q : Program} {loose : List Str} {XP : (Str → Option Value) → Heap → Prop} {YP : World → Heap → Prop} {d : DefRec} {K : Params → PySem.W.Frag} {x : Str} {tabs : List (Addr × Addr)}
    (most : l.most = some 63) (nodef : d.params.defaults = []) (rm : Room k callerA) (noI : importsNone q = true)
    (yIn : ∀ (w : World) (h : Heap), YP w h → (K w.params).In h) (noT : ∀ R : Params, PySem.W.noTabs (K R) = true)
    (tIn : ∀ (w : World) (mean : ExcName → Option Value) (mg mb : Str → Option Value) (h : Heap), Top q (PySem.W.looseW q loose) mean mg mb h → (K w.params).In h → PySem.W.TabsAt tabs h)
    (F : ∀ (w : World) (mg : Str → Option Value) (fa : Addr) (h : Heap), (K w.params).In h → h.Ns mainGlobals mg → mg d.name = some (.ref fa) →
      ∃ fd : FuncData, (∀ (s : Shared) (u : Value), BindsTo s fd ⟨[u], []⟩ [(x, u)]) ∧ ∀ B : Heap, (K w.params).In B → B.Ns mainGlobals mg → B.life.ids = tabs → BM mg B → FnOk l.prog w (K w.params) mg B CX0 k fa fd [x] (spLaw (K w.params))) :
    PySem.W.WalkO q loose XP YP l.row.toRowW d [] (fun f vs => PySem.call f vs) :=
  walk_tabB (n := 63) (CX := fun _ => CX0) (sp := fun w => spLaw (K w.params)) most (by decide) nodef rm noI yIn noT tIn F (fun _ _ a ns hl hS => ⟨a, ns, rfl, hS, hl, fun _ => rfl⟩) fun _ _ _ _ _ z => z
end L2

set_option Elab.async false
set_option linter.all false
set_option maxRecDepth 100000
namespace L2
open PySem PySem.Spec PyProof.Rows
section
variable {K : PySem.W.Frag} {a : Addr} {xs : List V} {es : List PyData} {g : TG} {tb : TS} {σ : St} {H : Hp} {rt : VK} {nx0 : St → Hp → Prop} {v : V}
theorem r_enum {ta : TA} {R : It → Hp → Prop} (h : ta σ H fun vs H1 => ∃ a xs, vs = [.ref a] ∧ SqL K H1 a xs ∧ R (Ite K a) H1) : iEnum K ta σ H R := h
/-- for i, x in enumerate(a list that stands still) -/
theorem f_enumI (q : Option Addr) (Pv : Nat → St → Hp → Prop) (sq : H a = some (.lst xs)) (al : ImAll K H xs es) (na : ∀ p, q = some p → a ≠ p) (h0 : Pv 0 σ H) (ch : ∀ i σ H', Pv i σ H' → Ch q H H')
    (hs : ∀ i d x σ H' H'', es[i]? = some d → Pv i σ H' → Ch none H' H'' → Im K H'' x (.tuple [.int (i : Nat), d]) → g x σ H'' fun σ2 H2 => tb { nx := Pv (i + 1), rt := rt, ct := Pv (i + 1), bk := nx0 } σ2 H2) (hd : ∀ σ H', Pv es.length σ H' → nx0 σ H') : ForR (Ite K a) g tb σ H rt nx0 := by
  have st : ∀ {H'}, Ch q H H' → H' a = some (.lst xs) := fun {H'} c => by
    cases q with
    | none => exact c.ls sq
    | some p => exact c.lsP (na p rfl) sq
  refine ⟨fun i m σ H' => i ≤ es.length ∧ m = es.length - i ∧ Pv i σ H', ⟨_, Nat.zero_le _, rfl, h0⟩, ?_⟩
  rintro i m σ' H' ⟨hi, rfl, hP⟩
  have s' : SqL K H' a xs := .inl (.inl (st (ch i σ' H' hP)))
  have al' := al.ch (ch i σ' H' hP)
  rcases Nat.lt_or_ge i es.length with hlt | hge
  · obtain ⟨u, hu, iu⟩ := al'.at (d := es[i]) (i := i) (by simp [hlt])
    refine .inr ⟨⟨xs, u, s', hu⟩, Pv (i + 1), fun σ2 H2 h2 => ⟨_, by omega, hlt, rfl, h2⟩, ?_⟩
    rintro x H'' ⟨T, y, rfl, nT, rfl, ey⟩
    have e := ey xs s'
    rw [hu] at e; cases e
    exact hs i es[i] _ σ' H' _ (by simp [hlt]) hP (Ch.new nT) (Im.mk nT (.cons (.int _) (.cons iu .nil)))
  · have e : i = es.length := by omega
    subst e
    exact .inl ⟨⟨xs, s', by rw [al.length]; exact Nat.le_refl _⟩, hd σ' H' hP⟩
end
section
variable {K : PySem.W.Frag} {H : Hp} {Q : VK} {E : XK}
def spMs (K : PySem.W.Frag) : Sp := fun vs H Q _ => ∃ v l, vs = [v] ∧ Im K H v (dl l) ∧ FQ 4000 l.1 ∧ FQ 4000 l.2 ∧ ∀ u H', Ch none H H' → Im K H' u (dq (l.1 + l.2)) → Q u H'
theorem y_ms {v : V} {l : Rat × Rat} (h : Im K H v (dl l)) (f1 : FQ 4000 l.1) (f2 : FQ 4000 l.2) (k : ∀ u H', Ch none H H' → Im K H' u (dq (l.1 + l.2)) → Q u H') : spMs K ([v] ++ []) H Q E := ⟨v, l, rfl, h, f1, f2, k⟩
/-- a liquor's strength -/
def strD (l : Rat × Rat) : PyData := if l.1 + l.2 = 0 then .none else dq (l.1 / (l.1 + l.2))
def spStr (K : PySem.W.Frag) : Sp := fun vs H Q _ => ∃ v l, vs = [v] ∧ Im K H v (dl l) ∧ FQ 4000 l.1 ∧ FQ 4000 l.2 ∧ ∀ u H', Ch none H H' → Im K H' u (strD l) → Q u H'
theorem y_str {v : V} {l : Rat × Rat} (h : Im K H v (dl l)) (f1 : FQ 4000 l.1) (f2 : FQ 4000 l.2) (k : ∀ u H', Ch none H H' → Im K H' u (strD l) → Q u H') : spStr K ([v] ++ []) H Q E := ⟨v, l, rfl, h, f1, f2, k⟩
end
theorem pi_enumS {X : Cx} {K : PySem.W.Frag} {e : Expr} {ta : TA} {p pos tpos : Pos} {elts : List Expr} {kk : Nat} (hg : Gl X "enumerate") (hm : X.mg "enumerate" = none) (ha : PA X [e] ta) (hK : X.K = K := by rfl) (hs : starEach [e] X.env = [(false, eval e X.env)] := by rfl) :
    PI X (.Tuple elts kk tpos) (.Call (.Name "enumerate" p) [e] [] pos) (iEnum K ta) := by subst hK; exact pi_enum hg hm ha hs
/-! ### strengths -/
def od : Option Rat → PyData
  | none => .none
  | some r => dq r
def strO (l : Rat × Rat) : Option Rat := if l.1 + l.2 = 0 then none else some (l.1 / (l.1 + l.2))
theorem strD_od (l : Rat × Rat) : strD l = od (strO l) := by
  unfold strD strO
  split <;> rfl
def noStr (r : Rat) : Option Rat → Bool
  | none => false
  | some x => !decide (r < x)
def weakr (r : Rat) : Option Rat → Bool
  | none => false
  | some x => decide (x < r)
section
variable {K : PySem.W.Frag} {H : Hp} {Q : VK} {E : XK}
def spChkS : Sp := fun vs H Q _ => ∃ h l : Int, vs = [.int h, .int l] ∧ 0 ≤ l ∧ l ≤ h ∧ h ≤ 100 ∧ ∀ H', Ch none H H' → Q .non H'
def spFns (K : PySem.W.Frag) : Sp := fun vs H Q _ => ∃ (a : Addr) (v : V) (xs : List V) (ss : List (Option Rat)) (r : Rat), vs = [.ref a, v] ∧ H a = some (.lst xs) ∧ ImAll K H xs (ss.map od) ∧ Im K H v (dq r) ∧ FQ 8999 r ∧ (∀ x, some x ∈ ss → FQ 8999 x) ∧ ss.length ≤ 1000 ∧ ∀ H', Ch none H H' → Q (.int (ss.findIdx (noStr r) : Nat)) H'
theorem y_fns {a : Addr} {v : V} {xs : List V} {ss : List (Option Rat)} {r : Rat} (e : H a = some (.lst xs)) (al : ImAll K H xs (ss.map od)) (hv : Im K H v (dq r)) (f : FQ 8999 r) (fs : ∀ x, some x ∈ ss → FQ 8999 x) (hn : ss.length ≤ 1000) (k : ∀ H', Ch none H H' → Q (.int (ss.findIdx (noStr r) : Nat)) H') : spFns K ([.ref a, v] ++ []) H Q E := ⟨a, v, xs, ss, r, rfl, e, al, hv, f, fs, hn, k⟩
def spFw (K : PySem.W.Frag) : Sp := fun vs H Q _ => ∃ (a : Addr) (v : V) (xs : List V) (ss : List (Option Rat)) (r : Rat) (st : Nat), vs = [.ref a, .int st, v] ∧ H a = some (.lst xs) ∧ ImAll K H xs (ss.map od) ∧ Im K H v (dq r) ∧ FQ 8999 r ∧ (∀ x, some x ∈ ss → FQ 8999 x) ∧ ss.length ≤ 1000 ∧ st ≤ ss.length ∧ ∀ H', Ch none H H' → Q (.int ((st + (ss.drop st).findIdx (weakr r) : Nat) : Int)) H'
theorem y_fw {a : Addr} {v : V} {xs : List V} {ss : List (Option Rat)} {r : Rat} {st : Nat} (e : H a = some (.lst xs)) (al : ImAll K H xs (ss.map od)) (hv : Im K H v (dq r)) (f : FQ 8999 r) (fs : ∀ x, some x ∈ ss → FQ 8999 x) (hn : ss.length ≤ 1000) (hs : st ≤ ss.length) (k : ∀ H', Ch none H H' → Q (.int ((st + (ss.drop st).findIdx (weakr r) : Nat) : Int)) H') : spFw K ([.ref a, .int st, v] ++ []) H Q E := ⟨a, v, xs, ss, r, st, rfl, e, al, hv, f, fs, hn, hs, k⟩
end
end L2
namespace L2
open PySem PySem.Spec PyProof.Rows
theorem rws_fq {n : Nat} {d : PyData} {ds : List PyData} {loss : Int} {l : Rat × Rat} (S : St1 d ds loss) (lq : LQ n l) : ∀ m ∈ rwsOf ds loss l, FQ (64 + n) m.1 ∧ FQ (64 + n) m.2 ∧ 0 ≤ m.1 ∧ 0 ≤ m.2 := fun m hm => by
  have s0 := S.l0
  have s9 := S.l9
  unfold rwsOf at hm
  obtain ⟨e, he, rfl⟩ := List.mem_map.mp hm
  have b0 := tnOf_bd (c := 0) (S.rw e he)
  have b1 := tnOf_bd (c := 1) (S.rw e he)
  have hb : Bd 64 (100 : Int) := by show (100 : Int).natAbs < 2 ^ 64; decide
  exact ⟨FQ.mul (FQ.divInt (by decide) (bd_mul10 b0.1 (by omega) (by omega) (by omega)) hb) lq.f1, FQ.mul (FQ.divInt (by decide) (bd_mul10 b1.1 (by omega) (by omega) (by omega)) hb) lq.f2,
    Rat.mul_nonneg (Rat.divInt_nonneg (Int.mul_nonneg b0.1 (by omega)) (by decide)) lq.p1, Rat.mul_nonneg (Rat.divInt_nonneg (Int.mul_nonneg b1.1 (by omega)) (by decide)) lq.p2⟩
theorem strO_fq {n : Nat} {l : Rat × Rat} (f1 : FQ n l.1) (f2 : FQ n l.2) {x : Rat} (h : strO l = some x) : FQ (n + (n + n + 1)) x := by
  unfold strO at h
  split at h
  · cases h
  · rename_i z
    cases h
    exact FQ.div f1 (f1.add f2) z
def cutD2 (ds : List PyData) (loss : Int) (l : Rat × Rat) (hi lo : Int) : PyData :=
  .tuple [.int (((rwsOf ds loss l).map strO).findIdx (noStr (Rat.divInt hi 100)) : Nat), .int ((((rwsOf ds loss l).map strO).findIdx (noStr (Rat.divInt hi 100)) + ((((rwsOf ds loss l).map strO).drop (((rwsOf ds loss l).map strO).findIdx (noStr (Rat.divInt hi 100)))).findIdx (weakr (Rat.divInt lo 100))) : Nat) : Int)]
section
variable {K : PySem.W.Frag} {H : Hp} {Q : VK} {E : XK}
def spCutBy (K : PySem.W.Frag) : Sp := fun vs H Q _ => ∃ (v1 v3 : V) (d : PyData) (ds : List PyData) (loss : Int) (l : Rat × Rat) (hi lo : Int), vs = [v1, v3, .int hi, .int lo] ∧ Im K H v1 d ∧ St1 d ds loss ∧ Im K H v3 (dl l) ∧ LQ 500 l ∧ 0 ≤ lo ∧ lo ≤ hi ∧ hi ≤ 100 ∧ ∀ v H', Ch none H H' → Im K H' v (cutD2 ds loss l hi lo) → Q v H'
theorem y_cutby {v1 v3 : V} {d : PyData} {ds : List PyData} {loss : Int} {l : Rat × Rat} {hi lo : Int} (h1 : Im K H v1 d) (s : St1 d ds loss) (h3 : Im K H v3 (dl l)) (lq : LQ 500 l) (l0 : 0 ≤ lo) (l1 : lo ≤ hi) (l2 : hi ≤ 100) (k : ∀ v H', Ch none H H' → Im K H' v (cutD2 ds loss l hi lo) → Q v H') : spCutBy K ([v1, v3, .int hi, .int lo] ++ []) H Q E := ⟨v1, v3, d, ds, loss, l, hi, lo, rfl, h1, s, h3, lq, l0, l1, l2, k⟩
end
end L2

set_option Elab.async false
set_option linter.all false
set_option maxRecDepth 100000
namespace L2
open PySem PySem.Spec PyProof.Rows
/-! ### list comprehensions with an if -/
section
variable {K : PySem.W.Frag} {g : TG} {tt : TT} {te : TE} {vs : List Nat} {σ : St} {H1 : Hp} {D : Addr} {Qd : Hp → Prop}
def CF (K : PySem.W.Frag) (H1 : Hp) (D : Addr) (P : Nat → List PyData → Prop) (i : Nat) (H : Hp) : Prop :=
  ∃ us ds, H D = some (.lst us) ∧ ImAll K H us ds ∧ Ch none H1 H ∧ ds.length ≤ i ∧ P i ds
/-- a turn: what is kept (N), what isn't (S) -/
abbrev TurnF (K : PySem.W.Frag) (g : TG) (tt : TT) (te : TE) (vs : List Nat) (σ : St) (P : Nat → List PyData → Prop) (i : Nat) (H : Hp) (ds : List PyData) (x : V) : Prop :=
  ∀ (N : VK) (S : Hp → Prop), (∀ y H4 d, Im K H4 y d → Ch none H H4 → P (i + 1) (ds ++ [d]) → N y H4) → (∀ H3, Ch none H H3 → P (i + 1) ds → S H3) →
    g x (wipe σ vs) H fun σ2 H2 => wipe σ2 vs = wipe σ vs ∧ tt σ2 H2 fun b H3 => if b = true then te σ2 H3 N else S H3
theorem turnF_step {P : Nat → List PyData → Prop} {i : Nat} {H : Hp} {us : List V} {ds : List PyData} {x : V} (hD : H1 D = none) (hi : i < 1000)
    (e : H D = some (.lst us)) (al : ImAll K H us ds) (c : Ch none H1 H) (hl : ds.length ≤ i) (t : TurnF K g tt te vs σ P i H ds x) :
    g x (wipe σ vs) H fun σ2 H2 => wipe σ2 vs = wipe σ vs ∧ tt σ2 H2 fun b H3 => if b = true then te σ2 H3 fun y H4 => ∃ acc, H4 D = some (.lst acc) ∧ acc.length < sizeLine ∧ CF K H1 D P (i + 1) (upd H4 D (.lst (acc ++ [y]))) else CF K H1 D P (i + 1) H3 := by
  refine t _ _ (fun y H4 d y4 c4 hP4 => ?_) fun H3 c3 hP3 => ⟨us, ds, c3.ls e, al.ch c3, c.trans c3, by omega, hP3⟩
  have e4 : H4 D = some (.lst us) := c4.ls e
  have ch : Ch (some D) H4 (upd H4 D (.lst (us ++ [y]))) := Ch.at e4
  exact ⟨us, e4, by rw [al.length]; exact Nat.lt_of_le_of_lt hl (Nat.lt_trans hi (by decide)), us ++ [y], ds ++ [d], upd_same, ((al.ch c4).snoc y4).ch ch, Ch.own ch hD (c.trans c4), by simp; omega, hP4⟩
theorem c_rangeF {lo : Int} {n : Nat} (P : Nat → List PyData → Prop) (hn : n ≤ 1000) (hD : H1 D = none) (h0 : P 0 [])
    (hs : ∀ i H ds, i < n → Ch none H1 H → P i ds → TurnF K g tt te vs σ P i H ds (.int (lo + i)))
    (hd : ∀ H us ds, H D = some (.lst us) → ImAll K H us ds → Ch none H1 H → ds.length ≤ n → P n ds → Qd H) : LcR (Itr lo n) g tt te vs σ H1 D Qd := by
  refine lc_range (CF K H1 D P) ⟨[], [], upd_same, .nil, Ch.new hD, Nat.le_refl _, h0⟩ ?_ ?_
  · rintro i H hi ⟨us, ds, e, al, c, hl, hP⟩
    exact turnF_step hD (by omega) e al c hl (hs i H ds hi c hP)
  · rintro H ⟨us, ds, e, al, c, hl, hP⟩
    exact hd H us ds e al c hl hP
theorem c_listF {Qd : Addr → Hp → Prop} {a : Addr} {xs : List V} {es : List PyData} (P : Nat → List PyData → Prop) (hn : es.length ≤ 1000) (sq : H1 a = some (.lst xs)) (ax : ImAll K H1 xs es) (h0 : P 0 [])
    (hs : ∀ i H ds x d, es[i]? = some d → Im K H x d → Ch none H1 H → P i ds → TurnF K g tt te vs σ P i H ds x)
    (hd : ∀ D H us ds, H1 D = none → H D = some (.lst us) → ImAll K H us ds → Ch none H1 H → ds.length ≤ es.length → P es.length ds → Qd D H) : ∃ b, V.ref a = .ref b ∧ (∃ xs, SqL K H1 b xs) ∧ ∀ D, H1 D = none → LcR (Itl K b) g tt te vs σ H1 D (Qd D) := by
  refine ⟨a, rfl, ⟨_, SqL.of sq⟩, fun D hD => lc_list (xs := xs) (CF K H1 D P) ⟨[], [], upd_same, .nil, Ch.new hD, Nat.le_refl _, h0⟩ (fun i H _ ⟨us, ds, e, al, c, hl, hP⟩ => .inl (.inl (c.ls sq))) ?_ ?_⟩
  · rintro i x H hx ⟨us, ds, e, al, c, hl, hP⟩
    have hi : i < es.length := by
      rw [← ax.length]
      exact (List.getElem?_eq_some_iff.mp hx).1
    obtain ⟨u, hu, iu⟩ := (ax.ch c).at (d := es[i]) (i := i) (by simp [hi])
    rw [hx] at hu; cases hu
    exact turnF_step hD (by omega) e al c hl (hs i H ds x _ (by simp [hi]) iu c hP)
  · rintro H ⟨us, ds, e, al, c, hl, hP⟩
    rw [ax.length] at hl hP
    exact hd D H us ds hD e al c hl hP
end
end L2

set_option Elab.async false
set_option linter.all false
set_option maxRecDepth 100000
namespace L2
open PySem PySem.Spec PyProof.Rows
theorem cr_maxS {X : Cx} {K : PySem.W.Frag} (hc : X.calm = true) (h : X.K = K := by rfl) : CallR X (.builtin "max") (rMax K) := by subst h; exact cr_max hc
theorem cr_minS {X : Cx} {K : PySem.W.Frag} (hc : X.calm = true) (h : X.K = K := by rfl) : CallR X (.builtin "min") (rMin K) := by subst h; exact cr_min hc
/-! ### equality of data -/
section
variable {K : PySem.W.Frag} {H : Hp} {Q : VK}
theorem i_neI {v u : V} {d e : PyData} (h1 : Im K H v d) (h2 : Im K H u e) (s1 : SeqAt.shaped d = true) (s2 : SeqAt.shaped e = true) (k : Q (.bl (!PyData.eqv d e)) H) : rNeA K v u H Q := .inr ⟨d, e, h1.dp (SeqAt.canLay_of_shaped s1), h2.dp (SeqAt.canLay_of_shaped s2), s1, s2, k⟩
end
theorem sh_dl (l : Rat × Rat) : SeqAt.shaped (dl l) = true := by
  unfold dl dq SeqAt.shaped
  simp [PyData.canLay0, PyData.canLayAll0, PyData.depth, PyData.depthAll]
theorem eqv_dq (p q : Rat) : PyData.eqv (dq p) (dq q) = decide (p = q) := by
  unfold dq
  simp only [PyData.eqv, PyData.eqvAll, Bool.and_true]
  rw [Bool.eq_iff_iff]
  simp only [Bool.and_eq_true, beq_iff_eq, decide_eq_true_eq]
  constructor
  · rintro ⟨h1, h2⟩
    exact Rat.ext h1 (Int.ofNat.inj h2)
  · rintro rfl
    exact ⟨rfl, rfl⟩
theorem eqv_dl (l m : Rat × Rat) : PyData.eqv (dl l) (dl m) = decide (l = m) := by
  unfold dl
  simp only [PyData.eqv, PyData.eqvAll, Bool.and_true]
  rw [eqv_dq, eqv_dq, Bool.eq_iff_iff]
  simp only [Bool.and_eq_true, decide_eq_true_eq]
  constructor
  · rintro ⟨h1, h2⟩
    exact Prod.ext h1 h2
  · rintro rfl
    exact ⟨rfl, rfl⟩
/-- the sign of a - b -/
def sg (a b : Rat) : Int := (if b < a then 1 else 0) - (if a < b then 1 else 0)
theorem noStr_iff (m : Rat × Rat) (h1 : 0 ≤ m.1) (h2 : 0 ≤ m.2) (hi : Int) : (decide (sg (100 * m.1) ((hi : Rat) * (m.1 + m.2)) < 1) && !decide (m = (0, 0))) = noStr (Rat.divInt hi 100) (strO m) := by
  have e0 : m.1 + m.2 = 0 ↔ m = (0, 0) := by
    constructor
    · intro h
      have a1 : m.1 = 0 := by grind
      have a2 : m.2 = 0 := by grind
      exact Prod.ext a1 a2
    · intro h; rw [h]; grind
  unfold strO
  by_cases hz : m.1 + m.2 = 0
  · rw [if_pos hz, decide_eq_true (e0.mp hz)]
    simp [noStr]
  · rw [if_neg hz, decide_eq_false (fun z => hz (e0.mpr z))]
    have sp : 0 < m.1 + m.2 := by grind
    have key : (Rat.divInt hi 100 < m.1 / (m.1 + m.2)) ↔ ((hi : Rat) * (m.1 + m.2) < 100 * m.1) := by
      rw [Rat.lt_div_iff sp, Rat.divInt_eq_div]
      grind
    show _ = !decide (Rat.divInt hi 100 < m.1 / (m.1 + m.2))
    rw [show decide (Rat.divInt hi 100 < m.1 / (m.1 + m.2)) = decide ((hi : Rat) * (m.1 + m.2) < 100 * m.1) from decide_eq_decide.mpr key]
    unfold sg
    by_cases h : (hi : Rat) * (m.1 + m.2) < 100 * m.1
    · have h' : ¬ 100 * m.1 < (hi : Rat) * (m.1 + m.2) := by grind
      simp [h, h']
    · by_cases h' : 100 * m.1 < (hi : Rat) * (m.1 + m.2) <;> simp [h, h']
theorem weakr_iff (m : Rat × Rat) (h1 : 0 ≤ m.1) (h2 : 0 ≤ m.2) (lo : Int) : (decide (sg (100 * m.1) ((lo : Rat) * (m.1 + m.2)) < 0) && !decide (m = (0, 0))) = weakr (Rat.divInt lo 100) (strO m) := by
  have e0 : m.1 + m.2 = 0 ↔ m = (0, 0) := by
    constructor
    · intro h
      have a1 : m.1 = 0 := by grind
      have a2 : m.2 = 0 := by grind
      exact Prod.ext a1 a2
    · intro h; rw [h]; grind
  unfold strO
  by_cases hz : m.1 + m.2 = 0
  · rw [if_pos hz, decide_eq_true (e0.mp hz)]
    simp [weakr]
  · rw [if_neg hz, decide_eq_false (fun z => hz (e0.mpr z))]
    have sp : 0 < m.1 + m.2 := by grind
    have key : (m.1 / (m.1 + m.2) < Rat.divInt lo 100) ↔ (100 * m.1 < (lo : Rat) * (m.1 + m.2)) := by
      rw [Rat.div_lt_iff sp, Rat.divInt_eq_div]
      grind
    show _ = decide (m.1 / (m.1 + m.2) < Rat.divInt lo 100)
    rw [show decide (m.1 / (m.1 + m.2) < Rat.divInt lo 100) = decide (100 * m.1 < (lo : Rat) * (m.1 + m.2)) from decide_eq_decide.mpr key]
    unfold sg
    by_cases h : 100 * m.1 < (lo : Rat) * (m.1 + m.2)
    · have h' : ¬ (lo : Rat) * (m.1 + m.2) < 100 * m.1 := by grind
      simp [h, h']
    · by_cases h' : (lo : Rat) * (m.1 + m.2) < 100 * m.1 <;> simp [h, h']
def natD (ns : List Nat) : List PyData := ns.map fun (k : Nat) => PyData.int (k : Int)
theorem natD_filter {ns : List Nat} {i n : Nat} {q : Nat → Bool} (h : ns[i]? = some n) : natD ((ns.take (i + 1)).filter q) = natD ((ns.take i).filter q) ++ (if q n then [PyData.int (n : Int)] else []) := by
  obtain ⟨hi, e⟩ := List.getElem?_eq_some_iff.mp h
  rw [List.take_succ_eq_append_getElem hi, List.filter_append, e]
  unfold natD
  by_cases hq : q n <;> simp [hq]
end L2

set_option Elab.async false
set_option linter.all false
set_option maxRecDepth 100000
namespace L2
open PySem PySem.Spec PyProof.Rows
/-! ### a list or dict of the def's own that is never changed again is frozen: then it is data -/
def Fz (Q : VK) : VK := fun v H1 => Q v H1 ∨ ∃ d u, v = .ref d ∧ H1 d = some u ∧ Mut (some u) ∧ ∀ od, Q v (upd H1 d (.frz od u))
def tFz (t : TE) : TE := fun σ H Q => t σ H (Fz Q)
theorem r_fz {t : TE} {σ : St} {H : Hp} {Q : VK} (h : t σ H (Fz Q)) : tFz t σ H Q := h
theorem Ch.fz {H : Hp} {p : Addr} {u : HO} {o : Obj} (e : H p = some u) (m : isT u = false) : Ch (some p) H (upd H p (.frz o u)) := ⟨fun b v eb s => by
  by_cases hb : b = p
  · subst hb
    rw [e] at eb; cases eb
    simp [stays, m] at s
  · rw [upd_ne hb]; exact eb, fun b eb => by
  by_cases hb : b = p
  · subst hb; rw [upd_same] at eb; cases eb
  · rw [upd_ne hb] at eb; exact eb⟩
section
variable {K : PySem.W.Frag} {H : Hp} {Q : VK} {ds : List PyData}
theorem i_fz {D : Addr} {us : List V} (e : H D = some (.lst us)) (al : ImAll K H us ds) (k : ∀ H', Ch (some D) H H' → Im K H' (.ref D) (.list ds) → Q (.ref D) H') : Fz Q (.ref D) H :=
  .inr ⟨D, _, rfl, e, trivial, fun od => k _ (Ch.fz e rfl) (.lst upd_same (al.ch (Ch.fz (o := od) e rfl)))⟩
theorem i_lstF {x qual : Str} {st : Stmt} {f : Addr} {fd : FuncData} {xs : List V} (_ : Fun K x qual st f fd) (l : xs.length.ble 1000 = true) (al : ImAll K H xs ds) (k : ∀ p H', H p = none → Ch none H H' → Im K H' (.ref p) (.list ds) → Q (.ref p) H') : xs.length ≤ sizeLine ∧ NewL H xs (Fz Q) :=
  ⟨Nat.le_trans (Nat.le_of_ble_eq_true l) (by decide), fun p hp => i_fz (K := K) (ds := ds) upd_same (al.ch (Ch.new (q := none) hp)) fun H' c im => k p H' hp (Ch.own c hp (Ch.new hp)) im⟩
theorem i_dctF {p : Addr} {kvs : List (Key × V)} {kds : List (PyData × PyData)} (e : H p = some (.dK kvs)) (al : ImKv K H kvs kds) (k : ∀ H', Ch (some p) H H' → Im K H' (.ref p) (.dict kds) → Q (.ref p) H') : Fz Q (.ref p) H :=
  .inr ⟨p, _, rfl, e, trivial, fun od => k _ (Ch.fz e rfl) (.dct upd_same (ImKv.chA (Ch.fz (o := od) e rfl) _ _ al))⟩
/-- {} -/
theorem i_d0F {x qual : Str} {st : Stmt} {f : Addr} {fd : FuncData} {σ : St} (_ : Fun K x qual st f fd) (k : ∀ p H', H p = none → Ch none H H' → Im K H' (.ref p) (.dict []) → Q (.ref p) H') : tFz tDNewK σ H Q :=
  fun p hp => i_dctF (K := K) (kds := []) upd_same .nil fun H' c im => k p H' hp (Ch.own c hp (Ch.new hp)) im
/-- {'ab': x} -/
theorem i_d1F {x qual : Str} {st : Stmt} {f : Addr} {fd : FuncData} {σ : St} {key : Str} {i : Nat} {v : V} {d : PyData} (_ : Fun K x qual st f fd) (e : σ[i]? = some (some v)) (hv : Im K H v d) (k : ∀ p H', H p = none → Ch none H H' → Im K H' (.ref p) (.dict [(.str key, d)]) → Q (.ref p) H') : tFz (tDisp [(tC (.str key), tVar i)]) σ H Q := by
  intro p hp
  have c0 : Ch none H (upd H p (.dK [])) := Ch.new hp
  refine r_var e ?_
  refine ⟨upd_same, [(Sum.inr key, v)], rfl, by show 1 ≤ 15; decide, ?_⟩
  rw [upd_upd]
  have c1 : Ch none H (upd H p (.dK [(Sum.inr key, v)])) := Ch.new hp
  refine i_dctF (K := K) (kds := [(.str key, d)]) upd_same (.cons (.str key) (hv.ch c1) .nil) fun H' c im => k p H' hp (Ch.own c hp c1) im
end
/-! ### reading data: repr -/
section
variable {X : Cx} {pins : List (Addr × Obj)} {σ : St} {H : Hp} {s : Shared}
mutual
theorem Im.reads (I : Inv X pins σ H s) (hm : H sysModules = none) : ∀ (d : PyData) (v : V) (u : Value), Im X.K H v d → RelV v u → ∃ as, Reads s.heap u d as ∧ sysModules ∉ as
  | _, _, _, .non, r => by cases r; exact ⟨_, Reads.none, by simp⟩
  | _, _, _, .bl b, r => by cases r; exact ⟨_, Reads.bool b, by simp⟩
  | _, _, _, .int i, r => by obtain ⟨t, rfl⟩ := r; exact ⟨_, Reads.int i t, by simp⟩
  | _, _, _, .str x, r => by obtain ⟨t, rfl⟩ := r; exact ⟨_, Reads.str x t, by simp⟩
  | _, _, _, .tup hs ha, r => by
    cases r
    obtain ⟨its, rv, ⟨o, ho, hc, n, hd⟩, _⟩ := I.tuple hs
    obtain ⟨as, hr, hn⟩ := Im.readsAll I hm _ _ its ha rv
    exact ⟨_, Reads.tuple ho hc hd hr, hn⟩
  | _, _, _, .lst (a := a) hs ha, r => by
    cases r
    obtain ⟨its, rv, ⟨o, n, ho, hc, _, hd⟩, _⟩ := I.list (.inl (.inr ⟨_, hs⟩))
    obtain ⟨as, hr, hn⟩ := Im.readsAll I hm _ _ its ha rv
    refine ⟨_, Reads.list ho hc hd hr, fun z => ?_⟩
    rcases List.mem_cons.mp z with z | z
    · rw [← z, hm] at hs; cases hs
    · exact hn z
  | _, _, _, .dct (a := a) hs ha, r => by
    cases r
    obtain ⟨ns, hg, hx, es, ep, vs, hdt, hsz, kv, o', es', ho', hx', hdt', r'⟩ := I.frzK hs
    rw [hg] at ho'; cases ho'
    rw [hdt] at hdt'; cases hdt'
    obtain ⟨as, bs, h1, h2, n1, n2⟩ := Im.readsKv I hm _ _ vs ha kv es.toList r'.2.1
    refine ⟨_, Reads.dict hg hx.1 hdt h1 h2, fun z => ?_⟩
    rcases List.mem_append.mp z with z | z
    · rcases List.mem_cons.mp z with z | z
      · rw [← z, hm] at hs; cases hs
      · exact n1 z
    · exact n2 z
theorem Im.readsAll (I : Inv X pins σ H s) (hm : H sysModules = none) : ∀ (ds : List PyData) (vs : List V) (us : List Value), ImAll X.K H vs ds → Vals vs us → ∃ as, ReadsAll s.heap us ds as ∧ sysModules ∉ as
  | _, _, _, .nil, r => by cases r; exact ⟨_, ReadsAll.nil, by simp⟩
  | _, _, _, .cons h1 h2, r => by
    cases r with
    | cons r1 r2 =>
      obtain ⟨as, q1, n1⟩ := Im.reads I hm _ _ _ h1 r1
      obtain ⟨bs, q2, n2⟩ := Im.readsAll I hm _ _ _ h2 r2
      exact ⟨_, ReadsAll.cons q1 q2, fun z => (List.mem_append.mp z).elim n1 n2⟩
theorem Im.readsKv (I : Inv X pins σ H s) (hm : H sysModules = none) : ∀ (ds : List (PyData × PyData)) (kvs : List (Key × V)) (vs : List (Key × Value)), ImKv X.K H kvs ds → KV kvs vs → ∀ es : List DictEntry, Pairs (mixKind X.prog X.w) es vs → ∃ as bs, ReadsAll s.heap (es.map (·.key)) (ds.map (·.1)) as ∧ ReadsAll s.heap (es.map (·.val)) (ds.map (·.2)) bs ∧ sysModules ∉ as ∧ sysModules ∉ bs
  | _, _, _, .nil, r, es, q => by
    cases r
    cases q
    exact ⟨_, _, ReadsAll.nil, ReadsAll.nil, by simp, by simp⟩
  | _, _, _, .cons (k := k) h1 h2 h3, r, es, q => by
    cases r with
    | cons r1 r2 =>
      cases q with
      | cons p1 p2 p3 =>
        rename_i e es3
        obtain ⟨e1, rv⟩ := r1
        have ek : RelV (kV k) e.key := by
          rw [← e1] at p1
          have p1 : keyIs k e.key = true := p1
          rcases keyIs_shape p1 with ⟨i, t, rfl, w⟩ | ⟨x, t, rfl, w⟩
          · exact ⟨t, w⟩
          · exact ⟨t, w⟩
        obtain ⟨as, q1, n1⟩ := Im.reads I hm _ _ _ h1 ek
        obtain ⟨bs, q2, n2⟩ := Im.reads I hm _ _ e.val h2 (by rw [p2]; exact rv)
        obtain ⟨cs, es2, q3, q4, n3, n4⟩ := Im.readsKv I hm _ _ _ h3 r2 _ p3
        exact ⟨_, _, ReadsAll.cons q1 q3, ReadsAll.cons q2 q4, fun z => (List.mem_append.mp z).elim n1 n3, fun z => (List.mem_append.mp z).elim n2 n4⟩
end
end
end L2

set_option Elab.async false
set_option linter.all false
set_option maxRecDepth 100000
namespace HT
open PySem PyProof.Rows
section
variable {prog : Program} {w : World} {A : Around} {E : Value → Shared → Prop} {s : Shared}
end
end HT
namespace L2
open PySem PySem.Spec PyProof.Rows
section
variable {X : Cx}
/-- x[::-1], x a tuple -/
def rRevT (K : PySem.W.Frag) : V → Hp → VK → Prop := fun x H Q => ∃ a xs, x = .ref a ∧ SqT K H a xs ∧ ∀ p, H p = none → Q (.ref p) (upd H p (.tup xs.reverse))
def tRev (K : PySem.W.Frag) (te ts : TE) : TE := fun σ H Q => te σ H fun x H1 => ts σ H1 fun i H2 => i = .int (-1) ∧ rRevT K x H2 Q
theorem Vals.rev {xs : List V} {us : List Value} (r : Vals xs us) : Vals xs.reverse us.reverse := by
  induction r with
  | nil => exact .nil
  | cons a b ih => rw [List.reverse_cons, List.reverse_cons]; exact ih.append (.cons a .nil)
end
section
variable {K : PySem.W.Frag} {H : Hp} {Q : VK}
theorem r_rev {te ts : TE} {σ : St} (h : te σ H fun x H1 => ts σ H1 fun i H2 => i = .int (-1) ∧ rRevT K x H2 Q) : tRev K te ts σ H Q := h
theorem ImAll.rev {vs : List V} {ds : List PyData} (h : ImAll K H vs ds) : ImAll K H vs.reverse ds.reverse := by
  induction vs generalizing ds with
  | nil => cases h; exact .nil
  | cons v vs ih => cases h with | cons a b => rw [List.reverse_cons, List.reverse_cons]; exact (ih b).snoc a
theorem i_rev {v : V} {ds : List PyData} (h : Im K H v (.tuple ds)) (k : ∀ u H', Ch none H H' → Im K H' u (.tuple ds.reverse) → Q u H') : rRevT K v H Q := by
  obtain ⟨a, xs, rfl, s, al⟩ := id h.ref
  exact ⟨a, xs, rfl, s, fun p hp => k _ _ (Ch.new hp) (Im.mk hp al.rev)⟩
end
end L2

set_option Elab.async false
set_option linter.all false
set_option maxRecDepth 100000
namespace L2
open PySem PySem.Spec PyProof.Rows
/-! ### things of any kind: numbers of at most b bits, texts of plain signs -/
mutual
def lf (b : Nat) : PyData → Bool
  | .none | .bool _ => true
  | .int i => decide (i.natAbs < 2 ^ b)
  | .str x => x.cps.toList.all fun c => decide (c < 16 ^ 8)
  | .list xs | .tuple xs => lfAll b xs
  | .dict kvs => lfKv b kvs
def lfAll (b : Nat) : List PyData → Bool
  | [] => true
  | x :: xs => lf b x && lfAll b xs
def lfKv (b : Nat) : List (PyData × PyData) → Bool
  | [] => true
  | (k, v) :: r => lf b k && lf b v && lfKv b r
end
theorem log2_lt {b n : Nat} (h : n < 2 ^ b) (hb : b ≤ 1900) : n.log2 < 1920 := by
  by_cases h0 : n = 0
  · subst h0; decide
  · exact Nat.lt_of_lt_of_le ((Nat.log2_lt h0).mpr h) (by omega)
mutual
theorem lf_show {b : Nat} (hb : b ≤ 1900) : ∀ d : PyData, lf b d = true → d.showable = true ∧ d.leavesShort 1921 = true
  | .none, _ => by simp [PyData.showable, PyData.leavesShort]
  | .bool _, _ => by simp [PyData.showable, PyData.leavesShort]
  | .int i, h => by
    have h1 : i.natAbs.log2 < 1920 := log2_lt (of_decide_eq_true (by simpa [lf] using h)) hb
    refine ⟨by simp [PyData.showable, h1], ?_⟩
    simp only [PyData.leavesShort, decide_eq_true_eq]
    exact int_text_len_1921 h1
  | .str x, h => by
    refine ⟨by simp [PyData.showable], ?_⟩
    simpa [PyData.leavesShort, lf] using h
  | .list xs, h => by
    have := lfAll_show hb xs (by simpa [lf] using h)
    simpa [PyData.showable, PyData.leavesShort] using this
  | .tuple xs, h => by
    have := lfAll_show hb xs (by simpa [lf] using h)
    simpa [PyData.showable, PyData.leavesShort] using this
  | .dict kvs, h => by
    have := lfKv_show hb kvs (by simpa [lf] using h)
    simpa [PyData.showable, PyData.leavesShort] using this
theorem lfAll_show {b : Nat} (hb : b ≤ 1900) : ∀ ds : List PyData, lfAll b ds = true → PyData.showableAll ds = true ∧ PyData.leavesShortAll 1921 ds = true
  | [], _ => by simp [PyData.showableAll, PyData.leavesShortAll]
  | d :: ds, h => by
    have h : lf b d = true ∧ lfAll b ds = true := by simpa [lfAll] using h
    have h1 := lf_show hb d h.1
    have h2 := lfAll_show hb ds h.2
    simp [PyData.showableAll, PyData.leavesShortAll, h1, h2]
theorem lfKv_show {b : Nat} (hb : b ≤ 1900) : ∀ ds : List (PyData × PyData), lfKv b ds = true → PyData.showableKv ds = true ∧ PyData.leavesShortKv 1921 ds = true
  | [], _ => by simp [PyData.showableKv, PyData.leavesShortKv]
  | (k, v) :: ds, h => by
    have h : (lf b k = true ∧ lf b v = true) ∧ lfKv b ds = true := by simpa [lfKv] using h
    have h1 := lf_show hb k h.1.1
    have h2 := lf_show hb v h.1.2
    have h3 := lfKv_show hb ds h.2
    simp [PyData.showableKv, PyData.leavesShortKv, h1, h2, h3]
end
mutual
theorem lf_mono {b c : Nat} (hb : b ≤ c) : ∀ d : PyData, lf b d = true → lf c d = true
  | .none, _ => by simp [lf]
  | .bool _, _ => by simp [lf]
  | .int i, h => by
    simp only [lf, decide_eq_true_eq] at h ⊢
    exact Nat.lt_of_lt_of_le h (Nat.pow_le_pow_right (by decide) hb)
  | .str x, h => by simpa [lf] using h
  | .list xs, h => by simpa [lf] using lfAll_mono hb xs (by simpa [lf] using h)
  | .tuple xs, h => by simpa [lf] using lfAll_mono hb xs (by simpa [lf] using h)
  | .dict kvs, h => by simpa [lf] using lfKv_mono hb kvs (by simpa [lf] using h)
theorem lfAll_mono {b c : Nat} (hb : b ≤ c) : ∀ ds : List PyData, lfAll b ds = true → lfAll c ds = true
  | [], _ => by simp [lfAll]
  | d :: ds, h => by
    have h : lf b d = true ∧ lfAll b ds = true := by simpa [lfAll] using h
    simp [lfAll, lf_mono hb d h.1, lfAll_mono hb ds h.2]
theorem lfKv_mono {b c : Nat} (hb : b ≤ c) : ∀ ds : List (PyData × PyData), lfKv b ds = true → lfKv c ds = true
  | [], _ => by simp [lfKv]
  | (k, v) :: ds, h => by
    have h : (lf b k = true ∧ lf b v = true) ∧ lfKv b ds = true := by simpa [lfKv] using h
    simp [lfKv, lf_mono hb k h.1.1, lf_mono hb v h.1.2, lfKv_mono hb ds h.2]
end
theorem lfAll_iff {b : Nat} : ∀ {ds : List PyData}, lfAll b ds = true ↔ ∀ d ∈ ds, lf b d = true
  | [] => by simp [lfAll]
  | d :: ds => by simp [lfAll, lfAll_iff (ds := ds)]
theorem depthAll_iff {n : Nat} : ∀ {ds : List PyData}, PyData.depthAll ds ≤ n ↔ ∀ d ∈ ds, d.depth ≤ n
  | [] => by simp [PyData.depthAll]
  | d :: ds => by simp [PyData.depthAll, ← depthAll_iff (ds := ds), Nat.max_le]
theorem bulk_len : ∀ (ds : List PyData), ds.length ≤ PyData.bulkAll ds
  | [] => by simp
  | d :: ds => by simp only [List.length_cons, PyData.bulkAll]; have := bulk_len ds; omega
theorem bulk_mem {d : PyData} : ∀ {ds : List PyData}, d ∈ ds → d.bulk + 1 ≤ PyData.bulkAll ds
  | e :: ds, h => by
    simp only [PyData.bulkAll]
    rcases List.mem_cons.mp h with rfl | h
    · omega
    · have := bulk_mem h; omega
/-- a thing of numbers of at most b bits, of at most w parts, at most n deep -/
structure Nice (b w n : Nat) (d : PyData) : Prop where
  lf : lf b d = true
  bk : d.bulk ≤ w
  dp : d.depth ≤ n
theorem Nice.mono {b w n b' w' n' : Nat} {d : PyData} (h : Nice b w n d) (hb : b ≤ b') (hw : w ≤ w') (hn : n ≤ n') : Nice b' w' n' d := ⟨lf_mono hb d h.lf, Nat.le_trans h.bk hw, Nat.le_trans h.dp hn⟩
theorem Nice.show {b w n : Nat} {d : PyData} (h : Nice b w n d) (hb : b ≤ 1900) (hw : w ≤ 8000) : d.showable = true ∧ d.shown.length ≤ sizeLine := by
  have s := lf_show hb d h.lf
  refine ⟨s.1, Nat.le_trans (PyData.shown_le_bulk 1921 (by decide) d s.2) ?_⟩
  have := h.bk
  show (1921 + 2) * d.bulk + 1921 ≤ 2 ^ 24
  omega
theorem Nice.non {b w n : Nat} : Nice b w n .none := ⟨by simp [L2.lf], by simp [PyData.bulk], by simp [PyData.depth]⟩
theorem Nice.bool {b w n : Nat} (x : Bool) : Nice b w n (.bool x) := ⟨by simp [L2.lf], by simp [PyData.bulk], by simp [PyData.depth]⟩
theorem Nice.int {b w n : Nat} {i : Int} (h : Bd b i) : Nice b w n (.int i) := ⟨by simp only [L2.lf, decide_eq_true_eq]; exact h, by simp [PyData.bulk], by simp [PyData.depth]⟩
theorem Nice.str {b w n : Nat} {x : Str} (h : (x.cps.toList.all fun c => decide (c < 16 ^ 8)) = true) (hw : x.cps.size ≤ w) : Nice b w n (.str x) := ⟨by simpa [L2.lf] using h, by simpa [PyData.bulk] using hw, by simp [PyData.depth]⟩
theorem Nice.tup {b w n : Nat} {ds : List PyData} (h : ∀ d ∈ ds, L2.lf b d = true ∧ d.depth ≤ n) (hw : PyData.bulkAll ds ≤ w) : Nice b w (n + 1) (.tuple ds) :=
  ⟨by simp only [L2.lf]; exact lfAll_iff.mpr fun d hd => (h d hd).1, by simpa [PyData.bulk] using hw, by simp only [PyData.depth]; have := depthAll_iff.mpr fun d hd => (h d hd).2; omega⟩
theorem Nice.lst {b w n : Nat} {ds : List PyData} (h : ∀ d ∈ ds, L2.lf b d = true ∧ d.depth ≤ n) (hw : PyData.bulkAll ds ≤ w) : Nice b w (n + 1) (.list ds) :=
  ⟨by simp only [L2.lf]; exact lfAll_iff.mpr fun d hd => (h d hd).1, by simpa [PyData.bulk] using hw, by simp only [PyData.depth]; have := depthAll_iff.mpr fun d hd => (h d hd).2; omega⟩
theorem Nice.mem {b w n : Nat} {ds : List PyData} (h : Nice b w n (.tuple ds)) {d : PyData} (hd : d ∈ ds) : ∃ m, n = m + 1 ∧ Nice b (w - 1) m d ∧ d.bulk + 1 ≤ PyData.bulkAll ds := by
  have h1 := h.lf
  have h2 := h.bk
  have h3 := h.dp
  simp only [L2.lf] at h1
  simp only [PyData.bulk] at h2
  simp only [PyData.depth] at h3
  have h4 := bulk_mem hd
  have h5 := depthAll_iff.mp (Nat.le_refl (PyData.depthAll ds)) d hd
  exact ⟨n - 1, by omega, ⟨lfAll_iff.mp h1 d hd, by omega, by omega⟩, h4⟩
theorem Nice.parts {b w n : Nat} {ds : List PyData} (h : Nice b w n (.tuple ds)) : (∀ d ∈ ds, L2.lf b d = true ∧ d.depth + 1 ≤ n) ∧ PyData.bulkAll ds ≤ w ∧ ds.length ≤ w := by
  have h2 : PyData.bulkAll ds ≤ w := by have := h.bk; simpa [PyData.bulk] using this
  refine ⟨fun d hd => ?_, h2, Nat.le_trans (bulk_len ds) h2⟩
  obtain ⟨m, rfl, k, _⟩ := h.mem hd
  exact ⟨k.lf, by have := k.dp; omega⟩
section
variable {K : PySem.W.Frag} {H : Hp} {Q : VK} {E : XK}
end
theorem i_isi {K : PySem.W.Frag} {H : Hp} {Q : VK} {v : V} {d : PyData} {t : String} {b : Bool} (h : Im K H v d) (k : PySem.W.kitOne K (.type (tyD d)) (.type t) = some b) (q : Q (.bl b) H) : rIsi K [v, .ty t] H Q := by
  have ty : TyE K H v (.type (tyD d)) := by
    cases h with
    | non => exact .of .non
    | bl b => exact .of (.bl b)
    | int i => exact .of (.int i)
    | str x => exact .of (.str x)
    | tup s a => exact .sqT s
    | lst s a => exact .sqL (.inl (.inr ⟨_, s⟩))
    | dct s a => exact .frD s
  exact r_isi ty rfl k q
end L2

set_option Elab.async false
set_option linter.all false
set_option maxRecDepth 100000
namespace L2
open PySem PySem.Spec PyProof.Rows
/-- long displays by structures: the elaborator does not look into them (else its time doubles with each item) -/
structure QE (X : Cx) (e : Expr) (t : TE) : Prop where
  h : PE X e t
structure QA (X : Cx) (es : List Expr) (t : TA) : Prop where
  h : PA X es t
section
variable {X : Cx} {te : TE} {es : List Expr} {t : TA}
theorem qa_nil : QA X [] tNil := ⟨pa_nil⟩
theorem qa_Call {a b c p} (ha : QE X (.Call a b c p) te) (hr : QA X es t) : QA X (.Call a b c p :: es) (tCons te t) := ⟨pa_Call ha.h hr.h⟩
theorem pe_tupQ {pos : Pos} {x1} (h : QA X es t) : PE X (.Tuple es x1 pos) (tTup t) := pe_tup h.h
end
structure QS (X : Cx) (st : Stmt) (t : TS) : Prop where
  h : PS X st t
structure QSs (X : Cx) (st : List Stmt) (t : TS) : Prop where
  h : PSs X st t
section
variable {X : Cx} {te : TE} {st : Stmt} {rest : List Stmt} {t ts : TS} {i : Nat} {x : Str} {pos' pos : Pos}
end
end L2

set_option Elab.async false
set_option linter.all false
set_option maxRecDepth 100000
namespace L2
open PySem PySem.Spec PyProof.Rows
end L2

set_option Elab.async false
set_option linter.all false
set_option maxRecDepth 100000
namespace HT
open PySem PyProof.Rows
section
variable {prog : Program} {w : World} {A : Around} {E : Value → Shared → Prop} {s : Shared}
end
end HT
namespace L2
open PySem PySem.Spec PyProof.Rows
section
variable {X : Cx}
end
section
variable {K : PySem.W.Frag} {H : Hp} {Q : VK}
end
end L2

set_option Elab.async false
set_option linter.all false
set_option maxRecDepth 100000
namespace L2
open PySem PySem.Spec PyProof.Rows
section
variable {X : Cx}
/-- x[::-1], x a list -/
def rRevL (K : PySem.W.Frag) : V → Hp → VK → Prop := fun x H Q => ∃ a xs, x = .ref a ∧ SqL K H a xs ∧ ∀ p, H p = none → Q (.ref p) (upd H p (.lst xs.reverse))
def tRevL (K : PySem.W.Frag) (te ts : TE) : TE := fun σ H Q => te σ H fun x H1 => ts σ H1 fun i H2 => i = .int (-1) ∧ rRevL K x H2 Q
end
theorem r_revL {K : PySem.W.Frag} {H : Hp} {Q : VK} {te ts : TE} {σ : St} (h : te σ H fun x H1 => ts σ H1 fun i H2 => i = .int (-1) ∧ rRevL K x H2 Q) : tRevL K te ts σ H Q := h
end L2

set_option Elab.async false
set_option linter.all false
set_option maxRecDepth 100000
namespace L2
open PySem PySem.Spec PyProof.Rows
/-- what isinstance tells of data -/
inductive IsiD : PyData → String → Bool → Prop
  | tt (ds) : IsiD (.tuple ds) "tuple" true
  | ti (ds) : IsiD (.tuple ds) "int" false
  | tb (ds) : IsiD (.tuple ds) "bool" false
  | ts (ds) : IsiD (.tuple ds) "str" false
  | lt (ds) : IsiD (.list ds) "tuple" false
  | li (ds) : IsiD (.list ds) "int" false
  | lb (ds) : IsiD (.list ds) "bool" false
  | ls (ds) : IsiD (.list ds) "str" false
  | dt (ds) : IsiD (.dict ds) "tuple" false
  | di (ds) : IsiD (.dict ds) "int" false
  | db (ds) : IsiD (.dict ds) "bool" false
  | ds (ds) : IsiD (.dict ds) "str" false
  | it (i) : IsiD (.int i) "tuple" false
  | ii (i) : IsiD (.int i) "int" true
  | ib (i) : IsiD (.int i) "bool" false
  | is (i) : IsiD (.int i) "str" false
  | bt (i) : IsiD (.bool i) "tuple" false
  | bi (i) : IsiD (.bool i) "int" true
  | bb (i) : IsiD (.bool i) "bool" true
  | bs (i) : IsiD (.bool i) "str" false
  | st (i) : IsiD (.str i) "tuple" false
  | si (i) : IsiD (.str i) "int" false
  | sb (i) : IsiD (.str i) "bool" false
  | ss (i) : IsiD (.str i) "str" true
  | nt : IsiD .none "tuple" false
  | ni : IsiD .none "int" false
  | nb : IsiD .none "bool" false
  | ns : IsiD .none "str" false
theorem IsiD.kit {K : PySem.W.Frag} {d : PyData} {t : String} {b : Bool} (h : IsiD d t b) : PySem.W.kitOne K (.type (tyD d)) (.type t) = some b := by
  cases h
  · exact isi_tuple_tuple
  · exact isi_tuple_int
  · exact isi_tuple_bool
  · exact isi_tuple_str
  · exact isi_list_tuple
  · exact isi_list_int
  · exact isi_list_bool
  · exact isi_list_str
  · exact isi_dict_tuple
  · exact isi_dict_int
  · exact isi_dict_bool
  · exact isi_dict_str
  · exact isi_int_tuple
  · exact isi_int_int
  · exact isi_int_bool
  · exact isi_int_str
  · exact isi_bool_tuple
  · exact isi_bool_int
  · exact isi_bool_bool
  · exact isi_bool_str
  · exact isi_str_tuple
  · exact isi_str_int
  · exact isi_str_bool
  · exact isi_str_str
  · exact isi_NoneType_tuple
  · exact isi_NoneType_int
  · exact isi_NoneType_bool
  · exact isi_NoneType_str
theorem i_isiD {K : PySem.W.Frag} {H : Hp} {Q : VK} {v : V} {d : PyData} {t : String} {b : Bool} (h : Im K H v d) (k : IsiD d t b) (q : Q (.bl b) H) : rIsi K [v, .ty t] H Q := i_isi h k.kit q
end L2

set_option Elab.async false
set_option linter.all false
set_option maxRecDepth 100000
namespace L2
open PySem PySem.Spec PyProof.Rows
section
variable {K : PySem.W.Frag} {g : TG} {tt : TT} {te : TE} {vs : List Nat} {σ : St} {H1 : Hp}
theorem c_tupF {Qd : Addr → Hp → Prop} {v : V} {es : List PyData} (P : Nat → List PyData → Prop) (hn : es.length ≤ 1000) (hv : Im K H1 v (.tuple es)) (h0 : P 0 [])
    (hs : ∀ i H ds x d, es[i]? = some d → Im K H x d → Ch none H1 H → P i ds → TurnF K g tt te vs σ P i H ds x)
    (hd : ∀ D H us ds, H1 D = none → H D = some (.lst us) → ImAll K H us ds → Ch none H1 H → ds.length ≤ es.length → P es.length ds → Qd D H) : ∃ a, v = .ref a ∧ (∃ xs, SqT K H1 a xs) ∧ ∀ D, H1 D = none → LcR (Itt K a) g tt te vs σ H1 D (Qd D) := by
  obtain ⟨a, xs, rfl, sq, ax⟩ := hv.ref
  refine ⟨a, rfl, ⟨_, sq⟩, fun D hD => lc_tup (xs := xs) (CF K H1 D P) ⟨[], [], upd_same, .nil, Ch.new hD, Nat.le_refl _, h0⟩ (fun i H _ ⟨us, ds, e, al, c, hl, hP⟩ => sq.ch c) ?_ ?_⟩
  · rintro i x H hx ⟨us, ds, e, al, c, hl, hP⟩
    have hi : i < es.length := by
      rw [← ax.length]
      exact (List.getElem?_eq_some_iff.mp hx).1
    obtain ⟨u, hu, iu⟩ := (ax.ch c).at (d := es[i]) (i := i) (by simp [hi])
    rw [hx] at hu; cases hu
    exact turnF_step hD (by omega) e al c hl (hs i H ds x _ (by simp [hi]) iu c hP)
  · rintro H ⟨us, ds, e, al, c, hl, hP⟩
    rw [ax.length] at hl hP
    exact hd D H us ds hD e al c hl hP
end
section
variable {K : PySem.W.Frag} {H : Hp} {Q : VK}
/-- list == list, of data -/
theorem i_eqL {a b : Addr} {xs ys : List V} {ds es : List PyData} (h1 : H a = some (.lst xs)) (a1 : ImAll K H xs ds) (h2 : H b = some (.lst ys)) (a2 : ImAll K H ys es) (s1 : SeqAt.shaped (.list ds) = true) (s2 : SeqAt.shaped (.list es) = true) (k : Q (.bl (PyData.eqv (.list ds) (.list es))) H) : rEqA K (.ref a) (.ref b) H Q :=
  .inr ⟨.list ds, .list es, .lst (SqL.of h1) (ImAll.dpA _ _ (by simpa [PyData.canLay0] using SeqAt.canLay_of_shaped s1) a1), .lst (SqL.of h2) (ImAll.dpA _ _ (by simpa [PyData.canLay0] using SeqAt.canLay_of_shaped s2) a2), s1, s2, k⟩
end
/-! ### rows that fall -/
def nzR (d : PyData) : Bool := !(decide (tnOf 0 d = 0) && decide (tnOf 1 d = 0))
def wkR (a b : PyData) : Bool := decide (tnOf 0 a * tnOf 1 b < tnOf 0 b * tnOf 1 a)
def fallsL : List PyData → Bool
  | [] => true
  | r :: rs => rs.all (fun x => !wkR r x) && fallsL rs
theorem fallsL_pw : ∀ {rs : List PyData}, fallsL rs = true ↔ rs.Pairwise fun a b => wkR a b = false
  | [] => by simp [fallsL]
  | r :: rs => by
    simp only [fallsL, Bool.and_eq_true, List.all_eq_true, Bool.not_eq_true', List.pairwise_cons, fallsL_pw (rs := rs)]
theorem fallsL_iff {rs : List PyData} : fallsL rs = true ↔ ∀ i j (hi : i < rs.length) (hj : j < rs.length), i < j → wkR rs[i] rs[j] = false := by
  rw [fallsL_pw, List.pairwise_iff_getElem]
theorem fallsL_no {rs : List PyData} {i j : Nat} (hi : i < rs.length) (hj : j < rs.length) (h : i < j) (hw : wkR rs[i] rs[j] = true) : fallsL rs = false := by
  rw [Bool.eq_false_iff]
  intro z
  have := fallsL_iff.mp z i j hi hj h
  rw [hw] at this
  cases this
theorem eqv_row0 (a b : Int) : PyData.eqv (.tuple [.int a, .int b]) (.tuple [.int 0, .int 0]) = !nzR (.tuple [.int a, .int b]) := by
  unfold nzR
  simp only [PyData.eqv, PyData.eqvAll, Bool.and_true, Bool.not_not]
  show ((a == 0) && (b == 0)) = (decide (a = 0) && decide (b = 0))
  rfl
theorem sh_row (a b : Int) : SeqAt.shaped (.tuple [.int a, .int b]) = true := by
  unfold SeqAt.shaped
  simp [PyData.canLay0, PyData.canLayAll0, PyData.depth, PyData.depthAll]
end L2

set_option Elab.async false
set_option linter.all false
set_option maxRecDepth 100000
namespace L2
open PySem PySem.Spec PyProof.Rows
/-! ### a statement that raises nothing, within a def that may -/
section
variable {X : Cx} {pins : List (Addr × Obj)} {σ : List (Option V)} {H : Hp} {s : Shared}
end
theorem cutV_lo {es : List V} {i : Int} (h0 : 0 ≤ i) : cutV es (some i) none = es.drop i.toNat := by
  unfold cutV HT.sIx
  dsimp only
  rw [if_neg (by omega)]
  rw [List.take_of_length_le (by rw [List.length_drop]; omega)]
  rcases Nat.le_total i.toNat es.length with h | h
  · rw [Nat.min_eq_left h]
  · rw [Nat.min_eq_right h, List.drop_length, List.drop_eq_nil_of_le h]
end L2

set_option Elab.async false
set_option linter.all false
set_option maxRecDepth 100000
namespace L2
open PySem PySem.Spec PyProof.Rows
/-! ### plans, steps, walks -/
def isWs : PyData → Bool
  | .tuple [a, b] => within a 0 9999 && within b 0 9999
  | _ => false
def isSp (n : Int) : PyData → Bool
  | .tuple [a, b] => isWs a && isCt n b
  | _ => false
structure Stp where
  w0 : Int
  w1 : Int
  h : Int
  t : Int
def Stp.w (s : Stp) (c : Int) : Int := if c = 0 then s.w0 else s.w1
def Stp.d (s : Stp) : PyData := .tuple [.tuple [.int s.w0, .int s.w1], .tuple [.int s.h, .int s.t]]
structure Stp.Ok (n : Nat) (s : Stp) : Prop where
  a0 : 0 ≤ s.w0
  a1 : s.w0 ≤ 9999
  b0 : 0 ≤ s.w1
  b1 : s.w1 ≤ 9999
  h0 : 0 ≤ s.h
  ht : s.h ≤ s.t
  tn : s.t ≤ n
theorem Stp.Ok.w {n : Nat} {s : Stp} (o : s.Ok n) (c : Int) : 0 ≤ s.w c ∧ s.w c ≤ 9999 := by
  unfold Stp.w
  split
  · exact ⟨o.a0, o.a1⟩
  · exact ⟨o.b0, o.b1⟩
theorem Stp.Ok.is {n : Nat} {s : Stp} (o : s.Ok n) : isSp (n : Int) s.d = true := by
  have h1 := o.a0
  have h2 := o.a1
  have h3 := o.b0
  have h4 := o.b1
  have h5 := o.h0
  have h6 := o.ht
  have h7 := o.tn
  show ((decide (0 ≤ s.w0) && decide (s.w0 ≤ 9999)) && (decide (0 ≤ s.w1) && decide (s.w1 ≤ 9999)) && (decide (0 ≤ s.h) && decide (s.h ≤ (n : Int)) && decide (s.h ≤ s.t) && decide (s.t ≤ (n : Int)))) = true
  rw [decide_eq_true h1, decide_eq_true h2, decide_eq_true h3, decide_eq_true h4, decide_eq_true h5, decide_eq_true h6, decide_eq_true h7, decide_eq_true (show s.h ≤ (n : Int) by omega)]
  rfl
def chg (ds1 : List PyData) (l1 c : Int) (s : Stp) (k : Rat) : Rat := Rat.divInt (tnD c ds1 * (10 - l1)) 100 * ((s.w c : Int) : Rat) + k
/-- what a step makes of one side -/
def one (ds1 : List PyData) (l1 : Int) (ds2 : List PyData) (l2 c : Int) (s : Stp) (k : Rat) : List Rat :=
  [chg ds1 l1 c s k, Rat.divInt (tnD c ((ds2.drop s.h.toNat).take (s.t.toNat - s.h.toNat)) * (10 - l2)) 100 * chg ds1 l1 c s k,
    Rat.divInt (tnD c (ds2.take s.h.toNat) * (10 - l2)) 100 * chg ds1 l1 c s k + Rat.divInt (tnD c (ds2.drop s.t.toNat) * (10 - l2)) 100 * chg ds1 l1 c s k,
    Rat.divInt (10 - tnD c ds1) 10 * ((s.w c : Int) : Rat) + Rat.divInt (10 - tnD c ds2) 10 * chg ds1 l1 c s k,
    Rat.divInt (tnD c ds1 * l1) 100 * ((s.w c : Int) : Rat) + Rat.divInt (tnD c ds2 * l2) 100 * chg ds1 l1 c s k]
def kp (ds1 : List PyData) (l1 : Int) (ds2 : List PyData) (l2 c : Int) (ss : List Stp) (k : Rat) : Rat := ss.foldl (fun k s => (one ds1 l1 ds2 l2 c s k).getD 2 0) k
/-! by whole numbers -/
def nbMore (c : Int) (s : Stp) (x : Int × Int) : Int := s.w c * x.2
def nbCh (ds1 : List PyData) (l1 c : Int) (s : Stp) (x : Int × Int) : Int := 100 * x.1 + (10 - l1) * tnD c ds1 * nbMore c s x
def nbS (ds1 : List PyData) (l1 : Int) (ds2 : List PyData) (l2 c : Int) (x : Int × Int) (s : Stp) : Int × Int := ((10 - l2) * tnD c (ds2.take s.h.toNat ++ ds2.drop s.t.toNat) * nbCh ds1 l1 c s x, 10000 * x.2)
structure NB (i : Nat) (x : Int × Int) : Prop where
  n0 : 0 ≤ x.1
  b0 : 0 < x.2
  n1 : Bd (930 + 15 * i) x.1
  b1 : Bd (900 + 14 * i) x.2
theorem tn_sub {c : Int} {ds : List PyData} {d : PyData} {loss : Int} (S : St1 d ds loss) (hc : c = 0 ∨ c = 1) {h t : Nat} (ht : h ≤ t) : 0 ≤ tnD c (ds.take h ++ ds.drop t) ∧ tnD c (ds.take h ++ ds.drop t) ≤ 10 := by
  have e := tnD_split c ds h t ht
  have b : ∀ (l : List PyData), (∀ e ∈ l, e ∈ ds) → 0 ≤ tnD c l := fun l hl => (tnD_bd (c := c) (ds := l) fun e he => S.rw e (hl e he)).1
  have tt : tnD c ds ≤ 10 := by rcases hc with rfl | rfl; exact S.t0; exact S.t1
  have b1 := b (ds.take h) fun e he => List.mem_of_mem_take he
  have b2 := b ((ds.drop h).take (t - h)) fun e he => List.mem_of_mem_drop (List.mem_of_mem_take he)
  have b3 := b (ds.drop t) fun e he => List.mem_of_mem_drop he
  rw [tnD_append]
  omega
theorem tn_all {c : Int} {ds : List PyData} {d : PyData} {loss : Int} (S : St1 d ds loss) (hc : c = 0 ∨ c = 1) : 0 ≤ tnD c ds ∧ tnD c ds ≤ 10 :=
  ⟨(tnD_bd (c := c) (ds := ds) S.rw).1, by rcases hc with rfl | rfl; exact S.t0; exact S.t1⟩
theorem mul_hd {a b A B : Int} (h0 : 0 ≤ a) (h1 : a ≤ A) (h2 : 0 ≤ b) (h3 : b ≤ B) : 0 ≤ a * b ∧ a * b ≤ A * B := ⟨Int.mul_nonneg h0 h2, Int.mul_le_mul h1 h3 h2 (by omega)⟩
theorem bd_add {n : Nat} {a b : Int} (h1 : Bd n a) (h2 : Bd n b) : Bd (n + 1) (a + b) := by
  have h1 : a.natAbs < 2 ^ n := h1
  have h2 : b.natAbs < 2 ^ n := h2
  show (a + b).natAbs < 2 ^ (n + 1)
  rw [Nat.pow_succ]
  omega
theorem NB.step {ds1 : List PyData} {l1 : Int} {ds2 : List PyData} {l2 c : Int} {d1 d2 : PyData} {s : Stp} {x : Int × Int} {i : Nat} (S1 : St1 d1 ds1 l1) (S2 : St1 d2 ds2 l2) (hc : c = 0 ∨ c = 1) (o : s.Ok ds2.length) (h : NB i x) : NB (i + 1) (nbS ds1 l1 ds2 l2 c x s) := by
  have w := o.w c
  have a := tn_all S1 hc
  have b := tn_sub S2 hc (h := s.h.toNat) (t := s.t.toNat) (by have := o.h0; have := o.ht; omega)
  have l10 := S1.l0
  have l19 := S1.l9
  have l20 := S2.l0
  have l29 := S2.l9
  have m1 := mul_hd w.1 w.2 (Int.le_of_lt h.b0) (Int.le_refl x.2)
  have m2 := mul_hd (a := 10 - l1) (A := 10) (by omega) (by omega) a.1 a.2
  have m3 := mul_hd m2.1 m2.2 m1.1 m1.2
  have m4 := mul_hd (a := 10 - l2) (A := 10) (by omega) (by omega) b.1 b.2
  have hn := h.n0
  have hch : 0 ≤ 100 * x.1 + (10 - l1) * tnD c ds1 * (s.w c * x.2) := by omega
  have m5 := mul_hd m4.1 m4.2 hch (Int.le_refl _)
  have hb := h.b0
  have bd7 : ∀ y : Int, 0 ≤ y → y ≤ 100 → Bd 7 y := fun y h0 h1 => by show y.natAbs < 2 ^ 7; omega
  have bdw : Bd 14 (s.w c) := by show (s.w c).natAbs < 2 ^ 14; omega
  have bdt : Bd 14 10000 := by show (10000 : Int).natAbs < 2 ^ 14; decide
  have q1 : Bd (14 + (900 + 14 * i)) (s.w c * x.2) := bdw.mul h.b1
  have q2 : Bd (7 + (14 + (900 + 14 * i))) ((10 - l1) * tnD c ds1 * (s.w c * x.2)) := (bd7 _ m2.1 m2.2).mul q1
  have q3 : Bd (7 + (930 + 15 * i)) (100 * x.1) := (bd7 100 (by decide) (by decide)).mul h.n1
  have q4 : Bd (937 + 15 * i + 1) (100 * x.1 + (10 - l1) * tnD c ds1 * (s.w c * x.2)) := bd_add (q3.mono (by omega)) (q2.mono (by omega))
  have q5 := (bd7 _ m4.1 m4.2).mul q4
  exact ⟨m5.1, by show 0 < 10000 * x.2; omega, Bd.mono q5 (by omega), Bd.mono (bdt.mul h.b1) (by omega)⟩
theorem NB.fq {x : Int × Int} {i : Nat} (h : NB i x) (hi : i ≤ 20) : 0 ≤ Rat.divInt x.1 x.2 ∧ FQ 1300 (Rat.divInt x.1 x.2) := by
  have h3 := h.n0
  have h4 := h.b0
  exact ⟨Rat.divInt_nonneg h3 (by omega), FQ.divInt (by omega) (h.n1.mono (by omega)) (h.b1.mono (by omega))⟩
def nb (ds1 : List PyData) (l1 : Int) (ds2 : List PyData) (l2 c : Int) (ss : List Stp) (x : Int × Int) : Int × Int := ss.foldl (nbS ds1 l1 ds2 l2 c) x
theorem div_1 (a : Int) : Rat.divInt a 1 = (a : Rat) := by
  rw [Rat.divInt_eq_div]
  have : ((1 : Int) : Rat) = 1 := rfl
  rw [this]
  grind
end L2

set_option Elab.async false
set_option linter.all false
set_option maxRecDepth 100000
namespace L2
open PySem PySem.Spec PyProof.Rows
/-! ### tuples of the module's own -/
structure GIm (K : PySem.W.Frag) (mg : Str → Option Value) (x : Str) (d : PyData) : Prop where
  ex : ∃ a, mg x = some (.ref a) ∧ ∀ H, Im K H (.ref a) d
/-! ### what a round makes of what is kept -/
end L2

set_option Elab.async false
set_option linter.all false
set_option maxRecDepth 100000
namespace L2
open PySem PySem.Spec PyProof.Rows
/-! ### what a walk keeps: nothing is lost, walks behind each other, washes so many times as great, two things kept -/
section
variable {ds1 : List PyData} {l1 : Int} {ds2 : List PyData} {l2 c : Int}
end
/-! ### sums of liquors over one bottom -/
def sumL (ls : List (Rat × Rat)) : Rat × Rat := ls.foldl (fun s l => (s.1 + l.1, s.2 + l.2)) (0, 0)
theorem sumL_take {ls : List (Rat × Rat)} {i : Nat} (hi : i < ls.length) : sumL (ls.take (i + 1)) = ((sumL (ls.take i)).1 + ls[i].1, (sumL (ls.take i)).2 + ls[i].2) := by
  unfold sumL
  rw [List.take_succ_eq_append_getElem hi, List.foldl_append]
  rfl
/-- a fraction over the bottom B, from 0 on -/
def OnB (B : Int) (r : Rat) : Prop := 0 ≤ r ∧ ∃ z : Int, r = Rat.divInt z B
theorem OnB.add {B : Int} (hB : 0 < B) {p q : Rat} (h1 : OnB B p) (h2 : OnB B q) : OnB B (p + q) := by
  obtain ⟨p0, y, ey⟩ := h1
  obtain ⟨q0, z, ez⟩ := h2
  refine ⟨Rat.add_nonneg p0 q0, y + z, ?_⟩
  rw [ey, ez]
  simp only [Rat.divInt_eq_div, Rat.intCast_add]
  have hb : ((B : Int) : Rat) ≠ 0 := fun z => by
    have : B = 0 := by exact_mod_cast z
    omega
  grind
theorem OnB.zero {B : Int} : OnB B 0 := ⟨by decide, 0, by simp⟩
theorem OnB.fq {B N : Int} {b t : Nat} (hB : 0 < B) (bB : Bd b B) (bN : Bd t N) {r : Rat} (h : OnB B r) (hr : r ≤ (N : Rat)) : FQ (b + t) r := by
  obtain ⟨r0, z, ez⟩ := h
  have hb : (0 : Rat) < ((B : Int) : Rat) := by exact_mod_cast hB
  have e : ((z : Int) : Rat) = r * ((B : Int) : Rat) := by
    rw [ez, Rat.divInt_eq_div]
    grind
  have z0 : 0 ≤ z := by
    have : (0 : Rat) ≤ ((z : Int) : Rat) := by rw [e]; exact Rat.mul_nonneg r0 (by grind)
    exact_mod_cast this
  have z1 : z ≤ N * B := by
    have h1 : r * ((B : Int) : Rat) ≤ ((N : Int) : Rat) * ((B : Int) : Rat) := Rat.mul_le_mul_of_nonneg_right hr (by grind)
    rw [← e, ← Rat.intCast_mul] at h1
    exact_mod_cast h1
  have bz : Bd (b + t) z := by
    have h2 : Bd (t + b) (N * B) := bN.mul bB
    have : z.natAbs ≤ (N * B).natAbs := by omega
    exact (h2.le this).mono (by omega)
  rw [ez]
  exact FQ.divInt (by omega) bz (bB.mono (by omega))
end L2

set_option Elab.async false
set_option linter.all false
set_option maxRecDepth 100000
namespace L2
open PySem PySem.Spec PyProof.Rows
section
variable {ds1 : List PyData} {l1 : Int} {ds2 : List PyData} {l2 c : Int}
theorem OnB.up {B m : Int} (hB : 0 < B) (hm : 0 < m) {r : Rat} (h : OnB B r) : OnB (B * m) r := by
  obtain ⟨r0, z, ez⟩ := h
  refine ⟨r0, z * m, ?_⟩
  have hb : ((B : Int) : Rat) ≠ 0 := fun z => by
    have : B = 0 := by exact_mod_cast z
    omega
  have hm' : ((m : Int) : Rat) ≠ 0 := fun z => by
    have : m = 0 := by exact_mod_cast z
    omega
  rw [ez]
  simp only [Rat.divInt_eq_div, Rat.intCast_mul]
  grind
end
end L2

set_option Elab.async false
set_option linter.all false
set_option maxRecDepth 100000
namespace L2
open PySem PySem.Spec PyProof.Rows
section
variable {ds1 : List PyData} {l1 : Int} {ds2 : List PyData} {l2 c : Int}
theorem sumL_acc : ∀ (ls : List (Rat × Rat)) (s : Rat × Rat), ls.foldl (fun s l => (s.1 + l.1, s.2 + l.2)) s = (s.1 + (ls.map Prod.fst).sum, s.2 + (ls.map Prod.snd).sum)
  | [], s => by
    show s = (s.1 + 0, s.2 + 0)
    rw [Rat.add_zero, Rat.add_zero]
  | l :: ls, s => by
    rw [List.foldl_cons, sumL_acc ls, List.map_cons, List.map_cons, List.sum_cons, List.sum_cons, Rat.add_assoc, Rat.add_assoc]
theorem sumL_eq (ls : List (Rat × Rat)) : sumL ls = ((ls.map Prod.fst).sum, (ls.map Prod.snd).sum) := by
  unfold sumL
  rw [sumL_acc, Rat.zero_add, Rat.zero_add]
theorem le_num {r : Rat} (h : 0 ≤ r) : r ≤ ((r.num : Int) : Rat) := by
  have e := Rat.num_divInt_den r
  rw [Rat.divInt_eq_div] at e
  have hd : (1 : Rat) ≤ ((r.den : Int) : Rat) := by
    have := r.den_pos
    exact_mod_cast (show (1 : Int) ≤ (r.den : Int) by omega)
  have e2 : ((r.num : Int) : Rat) = r * ((r.den : Int) : Rat) := by
    have hd0 : ((r.den : Int) : Rat) ≠ 0 := by grind
    generalize ((r.num : Int) : Rat) = a at *
    generalize ((r.den : Int) : Rat) = b at *
    rw [← e]
    grind
  rw [e2]
  have h1 : r * 1 ≤ r * ((r.den : Int) : Rat) := Rat.mul_le_mul_of_nonneg_left hd h
  grind
end
end L2

set_option Elab.async false
set_option linter.all false
set_option maxRecDepth 100000
namespace L2
open PySem PySem.Spec PyProof.Rows
section
variable {ds1 : List PyData} {l1 : Int} {ds2 : List PyData} {l2 c : Int}
end
end L2

set_option Elab.async false
set_option linter.all false
set_option maxRecDepth 100000
namespace L2
open PySem PyProof.Rows
section
variable {X : Cx} {pos : Pos}
def tPar3 (i j l : Nat) (ta : TA) : TS := fun D σ H => ta σ H fun vs H1 => ∃ v w z, vs = [v, w, z] ∧ D.nx (((σ.set i (some v)).set j (some w)).set l (some z)) H1
theorem ps_par3 {i j l : Nat} {x y z : Str} {a b c : Expr} {ta : TA} {px py pz pt : Pos} {kt k2 pt2} (hc : X.calm = true) (hN : X.N.Nodup) (hi : X.N[i]? = some x) (hj : X.N[j]? = some y) (hl : X.N[l]? = some z) (hij : i ≠ j) (hil : i ≠ l) (hjl : j ≠ l)
    (hx : X.env.scope.names.lookup x = some .local) (hy : X.env.scope.names.lookup y = some .local) (hz : X.env.scope.names.lookup z = some .local) (ha : PA X [a, b, c] ta)
    (hw : swappedStores [.Tuple [.Name x px, .Name y py, .Name z pz] kt pt] (.Tuple [a, b, c] k2 pt2) X.env = pure (some [x, y, z]))
    (hs : swapsWithSole [.Tuple [.Name x px, .Name y py, .Name z pz] kt pt] (.Tuple [a, b, c] k2 pt2) pos.line X.env = pure false := by rfl) :
    PS X (.Assign [.Tuple [.Name x px, .Name y py, .Name z pz] kt pt] (.Tuple [a, b, c] k2 pt2) pos) (tPar3 i j l ta) := by
  intro pins s σ H D I h
  rw [exec_Assign_arm]
  refine wpAny_bind (wpAny_standAt ?_)
  rw [hs]
  refine wpAny_bind (wpAny_pure ?_)
  rw [if_neg (by decide)]
  refine wpAny_bind (Tuple_ (thn (ha _ pins s σ H _ I h) fun us s1 ⟨vs, H1, I1, r1, q1⟩ => ?_))
  obtain ⟨v, w, q, e1, q1⟩ := q1
  subst e1
  obtain ⟨u1, u2, u3, rfl, rv, rw', rq⟩ : ∃ u1 u2 u3, us = [u1, u2, u3] ∧ RelV v u1 ∧ RelV w u2 ∧ RelV q u3 := by
    cases r1 with
    | cons p q =>
      cases q with
      | cons p' q' =>
        cases q' with
        | cons p'' q'' =>
          cases q''
          exact ⟨_, _, _, rfl, p, p', p''⟩
  refine wpAny_newObj_type ?_ (by show 3 ≤ sizeLine; decide)
  have I2 : Inv X pins σ H1 { s1 with heap := s1.heap.push { cls := .type "tuple", data := .seq [u1, u2, u3].toArray } } := I1.kept (t' := s1.toks) fun b o e => Heap.get?_push_of_some _ e
  rw [hw]
  refine wpAny_bind (wpAny_pure ?_)
  show wpAny (model X.prog X.w) X.A (do rule "assign.swapped-stores"; let items ← unpackItems (.ref s1.heap.objs.size) 3 none; assignInOrder [fun v => bindName X.env z v, fun v => bindName X.env y v, fun v => bindName X.env x v] items.reverse; pure Flow.next) _ _ _
  refine wpAny_bind (wpAny_rule (wpAny_bind (unpackItems_tuple (items := #[u1, u2, u3]) (I.ok.hd hc) (IsTup.new s1.heap _) fun h' hx' => ?_)))
  have I3 := I2.kept (h' := h') (t' := s1.toks) fun b o e => hx' b o (Nat.ne_of_lt (Heap.lt_size e)) e
  show wpAny _ _ (assignInOrder [fun v => bindName X.env z v, fun v => bindName X.env y v, fun v => bindName X.env x v] [u3, u2, u1] >>= fun _ => pure Flow.next) _ _ _
  refine wpAny_bind (assignInOrder_cons (wpAny_bindName (store_ok I3 hN hl (.inl hz) rq (fun s2 I4 => ?_) (.inr hz))))
  refine assignInOrder_cons (wpAny_bindName (store_ok I4 hN hj (.inl hy) rw' (fun s3 I5 => ?_) (.inr hy)))
  refine assignInOrder_cons (wpAny_bindName (store_ok I5 hN hi (.inl hx) rv (fun s4 I6 => assignInOrder_nil (wpAny_pure ?_)) (.inr hx)))
  rw [List.set_comm (i := l) (j := j) _ _ (Ne.symm hjl), List.set_comm (i := l) (j := i) _ _ (Ne.symm hil), List.set_comm (i := j) (j := i) _ _ (Ne.symm hij)] at I6
  exact ⟨_, H1, I6, q1⟩
theorem r_parS3 {i j l : Nat} {tl : TA} {D : Ends} {σ : St} {H : Hp} (h : tl σ H fun vs H1 => ∃ v w z, vs = [v, w, z] ∧ D.nx (((σ.set i (some v)).set j (some w)).set l (some z)) H1) : tPar3 i j l tl D σ H := h
theorem r_par3 {v w z : V} {R : V → V → V → Prop} (h : R v w z) : ∃ v' w' z', [v, w, z] = [v', w', z'] ∧ R v' w' z' := ⟨v, w, z, rfl, h⟩
end
end L2

set_option Elab.async false
set_option linter.all false
set_option maxRecDepth 100000
namespace L2
open PySem PySem.Spec PyProof.Rows
end L2

set_option Elab.async false
set_option linter.all false
set_option maxRecDepth 100000
namespace L2
open PySem PySem.Spec PyProof.Rows
def ov (w : Int) (l : Rat × Rat) : Rat := 100 * l.1 - (w : Rat) * (l.1 + l.2)
theorem ov_law (w : Int) (l : Rat × Rat) : ((100 - w : Int) : Rat) * l.1 - (w : Rat) * l.2 = ov w l := by
  unfold ov
  rw [Rat.intCast_sub]
  have : ((100 : Int) : Rat) = 100 := rfl
  rw [this]
  grind
/-! ### the best cut -/
section
variable (R : List (Rat × Rat)) (w : Int)
def seg (i j : Nat) : List (Rat × Rat) := (R.drop i).take (j - i)
def okI (i j : Nat) : Prop := 0 ≤ ((seg R i j).map (ov w)).sum
instance (i j : Nat) : Decidable (okI R w i j) := by unfold okI; infer_instance
end
end L2

set_option Elab.async false
set_option linter.all false
set_option maxRecDepth 100000
namespace L2
open PySem PySem.Spec PyProof.Rows
end L2

set_option Elab.async false
set_option linter.all false
set_option maxRecDepth 100000
namespace L2
open PySem PySem.Spec PyProof.Rows
/-! ### numbers over one bottom -/
def onB (B : Int) (r : Rat) : Prop := ∃ n : Int, r = Rat.divInt n B
theorem onB.of (r : Rat) : onB (r.den : Int) r := ⟨r.num, (Rat.num_divInt_den r).symm⟩
theorem onB.zero (B : Int) : onB B 0 := ⟨0, (Rat.zero_divInt B).symm⟩
theorem onB.up {B C : Int} {r : Rat} (hC : C ≠ 0) (h : onB B r) : onB (B * C) r := by
  obtain ⟨n, rfl⟩ := h
  exact ⟨n * C, (Rat.divInt_mul_right hC).symm⟩
theorem onB.mul {B C : Int} {r s : Rat} (h1 : onB B r) (h2 : onB C s) : onB (B * C) (r * s) := by
  obtain ⟨n, rfl⟩ := h1
  obtain ⟨m, rfl⟩ := h2
  exact ⟨n * m, Rat.divInt_mul_divInt n m⟩
theorem onB.add {B : Int} {r s : Rat} (hB : B ≠ 0) (h1 : onB B r) (h2 : onB B s) : onB B (r + s) := by
  obtain ⟨n, rfl⟩ := h1
  obtain ⟨m, rfl⟩ := h2
  refine ⟨n + m, ?_⟩
  rw [Rat.divInt_add_divInt n m hB hB, ← Int.add_mul, Rat.divInt_mul_right hB]
theorem onB.neg {B : Int} {r : Rat} (h : onB B r) : onB B (-r) := by
  obtain ⟨n, rfl⟩ := h
  exact ⟨-n, Rat.neg_divInt n B⟩
theorem onB.sub {B : Int} {r s : Rat} (hB : B ≠ 0) (h1 : onB B r) (h2 : onB B s) : onB B (r - s) := by
  rw [Rat.sub_eq_add_neg]
  exact h1.add hB h2.neg
theorem onB.int (a : Int) : onB 1 (a : Rat) := ⟨a, (div_1 a).symm⟩
theorem onB.imul {B : Int} {r : Rat} (a : Int) (h : onB B r) : onB B ((a : Rat) * r) := by
  have := (onB.int a).mul h
  rwa [Int.one_mul] at this
theorem onB.sum {B : Int} (hB : B ≠ 0) : ∀ {ls : List Rat}, (∀ r ∈ ls, onB B r) → onB B ls.sum
  | [], _ => onB.zero B
  | r :: ls, h => by
    rw [List.sum_cons]
    exact (h r (List.mem_cons_self ..)).add hB (onB.sum hB fun r hr => h r (List.mem_cons_of_mem _ hr))
def abB (M : Int) (r : Rat) : Prop := -(M : Rat) ≤ r ∧ r ≤ (M : Rat)
theorem abB.sum {M : Int} (hM : 0 ≤ M) : ∀ {ls : List Rat}, (∀ r ∈ ls, abB M r) → ∀ {n : Int}, (ls.length : Int) ≤ n → abB (n * M) ls.sum
  | [], _, n, hn => by
    have h : (0 : Rat) ≤ ((n * M : Int) : Rat) := by rw [← div_1]; exact Rat.divInt_nonneg (Int.mul_nonneg (by simpa using hn) hM) (by decide)
    refine ⟨?_, h⟩
    show -((n * M : Int) : Rat) ≤ 0
    grind
  | r :: ls, h, n, hn => by
    rw [List.length_cons] at hn
    have ih := abB.sum hM (fun r hr => h r (List.mem_cons_of_mem _ hr)) (n := n - 1) (by omega)
    have h1 := h r (List.mem_cons_self ..)
    have e : ((n * M : Int) : Rat) = (((n - 1) * M : Int) : Rat) + (M : Rat) := by
      rw [← Rat.intCast_add]
      congr 1
      rw [Int.sub_mul]
      omega
    unfold abB at *
    rw [List.sum_cons, e]
    generalize (((n - 1) * M : Int) : Rat) = X at *
    generalize ((M : Int) : Rat) = Y at *
    grind
/-! ### rows over one bottom -/
structure RowOk (B M : Int) (x : Rat × Rat) : Prop where
  o1 : onB B x.1
  o2 : onB B x.2
  p1 : 0 ≤ x.1
  p2 : 0 ≤ x.2
  m1 : x.1 ≤ (M : Rat)
  m2 : x.2 ≤ (M : Rat)
theorem nn_of {a : Int} (h : 0 ≤ a) : (0 : Rat) ≤ ((a : Int) : Rat) := by rw [← div_1]; exact Rat.divInt_nonneg h (by decide)
theorem RowOk.ov {B M : Int} {x : Rat × Rat} (h : RowOk B M x) (hB : 0 < B) {w : Int} (w0 : 0 ≤ w) (w1 : w ≤ 100) : onB B (L2.ov w x) ∧ abB (100 * M) (L2.ov w x) := by
  rw [← ov_law]
  refine ⟨(h.o1.imul _).sub (by omega) (h.o2.imul _), ?_⟩
  have a1 := Rat.mul_le_mul_of_nonneg_left h.m1 (nn_of (a := 100 - w) (by omega))
  have a2 := Rat.mul_le_mul_of_nonneg_left h.m2 (nn_of w0)
  have b1 := Rat.mul_nonneg (nn_of (a := 100 - w) (by omega)) h.p1
  have b2 := Rat.mul_nonneg (nn_of w0) h.p2
  have hM : (0 : Rat) ≤ (M : Rat) := Rat.le_trans h.p1 h.m1
  have c1 := Rat.mul_nonneg (nn_of (a := 100 - w) (by omega)) hM
  have c2 := Rat.mul_nonneg (nn_of w0) hM
  have e : ((100 * M : Int) : Rat) = ((100 - w : Int) : Rat) * (M : Rat) + (w : Rat) * (M : Rat) := by
    rw [← Rat.add_mul, ← Rat.intCast_add, ← Rat.intCast_mul]
    congr 2
    omega
  unfold abB
  rw [e]
  generalize ((100 - w : Int) : Rat) * (M : Rat) = X at *
  generalize (w : Rat) * (M : Rat) = Y at *
  generalize ((100 - w : Int) : Rat) * x.1 = Z at *
  generalize (w : Rat) * x.2 = W at *
  grind
end L2

set_option Elab.async false
set_option linter.all false
set_option maxRecDepth 100000
namespace L2
open PySem PySem.Spec PyProof.Rows
def spTakeB : Sp := fun vs H Q _ => ∃ p m, vs = [.ref p, .int m] ∧ Purse H p ∧ 0 < m ∧ m < 2 ^ 120 ∧ ∀ v H', 0 ≤ v → v < m → Ch (some p) H H' → Purse H' p → Q (.int v) H'
theorem y_takeB {H : Hp} {Q : VK} {E : XK} {p : Addr} {m : Int} (h : Purse H p) (m0 : 0 < m) (m1 : m < 2 ^ 120) (k : ∀ v H', 0 ≤ v → v < m → Ch (some p) H H' → Purse H' p → Q (.int v) H') : spTakeB ([.ref p, .int m] ++ []) H Q E := ⟨p, m, rfl, h, m0, m1, k⟩
def wth (w : Int) (t : Rat) (x : Rat × Rat) : Rat := x.1 + t * ov w x
def psum (ls : List Rat) : Rat := (ls.filter fun r => decide (0 < r)).sum
theorem den_pos' (r : Rat) : (0 : Int) < (r.den : Int) := by have := r.den_pos; omega
theorem RowOk.wth {B M : Int} {x : Rat × Rat} (h : RowOk B M x) (hB : 0 < B) {w : Int} (w0 : 0 ≤ w) (w1 : w ≤ 100) {t : Rat} (t0 : 0 ≤ t) : onB (B * (t.den : Int)) (L2.wth w t x) ∧ abB (M + t.num * (100 * M)) (L2.wth w t x) := by
  obtain ⟨o1, o2⟩ := h.ov hB w0 w1
  have td := den_pos' t
  refine ⟨(h.o1.up (by omega)).add (by have := Int.mul_pos hB td; omega) (by rw [Int.mul_comm]; exact (onB.of t).mul o1), ?_⟩
  have hM : (0 : Rat) ≤ ((100 * M : Int) : Rat) := by
    have hM : (0 : Rat) ≤ (M : Rat) := Rat.le_trans h.p1 h.m1
    rw [Rat.intCast_mul]
    exact Rat.mul_nonneg (nn_of (by decide)) hM
  have a1 := Rat.mul_le_mul_of_nonneg_left o2.2 t0
  have a2 := Rat.mul_le_mul_of_nonneg_left o2.1 t0
  have a3 := Rat.mul_le_mul_of_nonneg_right (le_num t0) hM
  have h1 := h.p1
  have h2 := h.m1
  unfold abB L2.wth
  rw [Rat.intCast_add, Rat.intCast_mul t.num]
  have e : t * -((100 * M : Int) : Rat) = -(t * ((100 * M : Int) : Rat)) := by grind
  rw [e] at a2
  generalize t * ((100 * M : Int) : Rat) = X at *
  generalize (t.num : Rat) * ((100 * M : Int) : Rat) = Y at *
  generalize t * L2.ov w x = Z at *
  grind
/-! ### sums over a range -/
/-! ### the rows of a still -/
structure CeOk (st : Int) (t : Rat) (xs : List (Rat × Rat)) : Prop where
  n8 : xs.length ≤ 8
  f : ∀ x ∈ xs, FQ 612 x.1 ∧ FQ 612 x.2 ∧ FQ 620 (ov st x) ∧ FQ 3300 (wth st t x) ∧ 0 ≤ x.1
  s : ∀ ls : List Rat, ls.length ≤ 8 → (∀ r ∈ ls, ∃ x ∈ xs, r = wth st t x) → FQ 3300 ls.sum
theorem CeOk.ps {st : Int} {t : Rat} {xs : List (Rat × Rat)} (h : CeOk st t xs) (i : Nat) : FQ 3300 (psum ((xs.take i).map (wth st t))) := by
  refine h.s _ ?_ fun r hr => ?_
  · refine Nat.le_trans (List.length_filter_le _ _) ?_
    rw [List.length_map, List.length_take]
    have := h.n8
    omega
  · obtain ⟨x, hx, rfl⟩ := List.mem_map.mp (List.mem_filter.mp hr).1
    exact ⟨x, List.mem_of_mem_take hx, rfl⟩
end L2

set_option Elab.async false
set_option linter.all false
set_option maxRecDepth 100000
namespace L2
open PySem PySem.Spec PyProof.Rows
section
variable {X : Cx}
/-- room for a division of any size -/
theorem pyl_room {k : Nat} (hr : Room k X.A) (hk : 32 ≤ k) (hb : BM X.mg X.base) (ht : X.prog.given.tree = none) (hstk : X.stack = X.env :: X.outer) (hg : X.env.scope.isGenerator = false) (hc : X.env.scope.isCoroutine = false) {pins : List (Addr × Obj)} {σ : St} {H : Hp} {s : Shared} (I : Inv X pins σ H s) : PylongRoom (model X.prog X.w) X.A s :=
  PylongRoom.of I.nolimit (by have := hr.dp; have e : Builtin.pylongFrames = 100 := rfl; omega) (SeerAt.of (hb.2.1.keeps I.bk) ht (by rw [I.ok.frames, hstk]) hg hc I.ok.blt I.ok.glob)
def rDivP : R2 := rI (fun _ j => j ≠ 0) fun i j => .int (i.fdiv j)
theorem op_fdivP {k : Nat} (hr : Room k X.A) (hk : 32 ≤ k) (hb : BM X.mg X.base) (ht : X.prog.given.tree = none) (hstk : X.stack = X.env :: X.outer := by rfl) (hg : X.env.scope.isGenerator = false := by rfl) (hc : X.env.scope.isCoroutine = false := by rfl) : OpR X (binaryOp .FloorDiv) rDivP := by
  intro pins s σ H x y v u Q I rx ry h
  obtain ⟨i, j, rfl, rfl, hj, q⟩ := h
  obtain ⟨t, rfl⟩ := rx
  obtain ⟨t', rfl⟩ := ry
  exact floordiv_int hj ⟨.int _, H, I.tok _, ⟨_, rfl⟩, q⟩ (.inr (pyl_room hr hk hb ht hstk hg hc I))
end
theorem r_divP {i j : Int} {H : Hp} {Q : VK} (c : 0 < j) (h : Q (.int (i / j)) H) : rDivP (.int i) (.int j) H Q :=
  ⟨i, j, rfl, rfl, by omega, by show Q (.int (i.fdiv j)) H; rw [Int.fdiv_eq_ediv_of_nonneg i (by omega)]; exact h⟩
theorem r_divPN {i j : Int} {H : Hp} {Q : VK} (c : j ≠ 0) (h : Q (.int (i.fdiv j)) H) : rDivP (.int i) (.int j) H Q := ⟨i, j, rfl, rfl, c, h⟩
end L2

set_option Elab.async false
set_option linter.all false
set_option maxRecDepth 100000
namespace L2
open PySem PySem.Spec PyProof.Rows
/-! ### changes: x goes to f x + a -/
def cmp (a l : Rat × Rat) : Rat × Rat := (l.1 * a.1, l.1 * a.2 + l.2)
def cpw (c : Rat × Rat) : Nat → Rat × Rat
  | 0 => (1, 0)
  | n + 1 => cmp (cpw c n) c
def app (c : Rat × Rat) (x : Rat) : Rat := c.1 * x + c.2
end L2

set_option Elab.async false
set_option linter.all false
set_option maxRecDepth 100000
namespace L2
open PySem PySem.Spec PyProof.Rows
/-! ### going round step by step -/
section
variable (ds1 : List PyData) (l1 : Int) (ds2 : List PyData) (l2 c : Int)
end
end L2

set_option Elab.async false
set_option linter.all false
set_option maxRecDepth 100000
namespace L2
open PySem PySem.Spec PyProof.Rows
/-! ### the law's own add, sub, mul of numbers of up to 150000 bits -/
section
variable {K : PySem.W.Frag} {H : Hp} {Q : VK} {E : XK}
end
/-! ### rounds one behind the other -/
section
variable (ds1 : List PyData) (l1 : Int) (ds2 : List PyData) (l2 c : Int)
end
/-! ### the walk, round by round -/
end L2

set_option Elab.async false
set_option linter.all false
set_option maxRecDepth 100000
namespace L2
open PySem PySem.Spec PyProof.Rows
/-! ### a base that holds more -/
structure Wider (b b' : Heap) : Prop where
  keep : ∀ a o, b.get? a = some o → b'.get? a = some o
  ids : b'.life.ids = b.life.ids
theorem Wider.refl (b : Heap) : Wider b b := ⟨fun _ _ e => e, rfl⟩
section
variable {X : Cx} {pins : List (Addr × Obj)} {σ : St} {H : Hp} {s : Shared}
end
/-! ### a function that is handed on -/
theorem CdAt.ch {q : Option Addr} {H H' : Hp} {c : Addr} (k : Ch q H H') (h : CdAt H c) : CdAt H' c := let ⟨o, vs, x, t, e, r⟩ := h; ⟨o, vs, x, t, k.frz e, r⟩
/-- a function object that stands in the base, and what it leans on (J: its code object, things that never change) -/
def Fv (P : Program) (w : World) (K : PySem.W.Frag) (mg : Str → Option Value) (base : Heap) (k : Nat) (ps : List Str) (sp : Sp) (H : Hp) (v : V) : Prop :=
  ∃ (f : Addr) (fd : FuncData) (o : Obj) (J : Hp → Prop), v = .ref f ∧ base.get? f = some o ∧ o.data = .func fd ∧ J H ∧ (∀ q H H', Ch q H H' → J H → J H') ∧ (∀ (s : Shared) (us : List Value), us.length = ps.length → BindsTo s fd ⟨us, []⟩ (ps.zip us)) ∧
    FnOk P w K mg base CX0 k f fd ps (fun vs H Q E => J H ∧ sp vs H Q E)
theorem Fv.ch {P : Program} {w : World} {K : PySem.W.Frag} {mg : Str → Option Value} {base : Heap} {k : Nat} {ps : List Str} {sp : Sp} {q : Option Addr} {H H' : Hp} {v : V} (c : Ch q H H') (h : Fv P w K mg base k ps sp H v) : Fv P w K mg base k ps sp H' v :=
  let ⟨f, fd, o, J, e, a, b, z, st, r⟩ := h
  ⟨f, fd, o, J, e, a, b, st _ _ _ c z, st, r⟩
section
variable {X : Cx} {k k' : Nat} {x : Str} {p pos : Pos} {e : Expr} {es : List Expr} {t : TA}
end
/-! ### a lambda is made -/
section
variable {X : Cx} {pins : List (Addr × Obj)} {σ : St} {H : Hp} {s : Shared}
end
/-! ### a lambda of one parameter runs -/
structure LamScope (x : Str) (fr : List Str) (sc : Scope) : Prop where
  kind : sc.kind = .function
  co : sc.isCoroutine = false
  gen : sc.isGenerator = false
  nd : (x :: fr).Nodup
  par : sc.names.lookup x = some .local
  nocell : ∀ y ∈ sc.names, y.2 ≠ .cell
  fre : ∀ y ∈ fr, sc.names.lookup y = some .free
/-- what a lambda has caught: the cells stand in the base -/
structure Caught (base : Heap) (cl : List (Str × Addr)) (sc : Scope) (fr : List Str) (ws : List V) : Prop where
  val : ∀ (i : Nat) (y : Str) (w : V), fr[i]? = some y → ws[i]? = some w → ∃ c u, cl.lookup y = some c ∧ base.IsCell c (some u) ∧ RelV w u
  inj : ∀ x y c, cl.lookup x = some c → cl.lookup y = some c → x = y
  has : ∀ x, sc.names.lookup x = some .free → ∃ c, cl.lookup x = some c
  cell : ∀ x c, cl.lookup x = some c → ∃ v, base.IsCell c v
  len : ws.length = fr.length
section
variable {P : Program} {w : World} {K : PySem.W.Frag} {mg : Str → Option Value} {base : Heap} {k : Nat} {f c' : Addr} {name qual : Str} {params : Arguments} {body : Expr} {scope : Scope} {cl : List (Str × Addr)} {pm ctv : Value} {o : Obj} {x : Str} {fr : List Str} {ws : List V} {sp : Sp}
end
end L2

set_option Elab.async false
set_option linter.all false
set_option maxRecDepth 100000
namespace L2
open PySem PySem.Spec PyProof.Rows
/-! ### a def is called with a lambda as its third argument of four -/
theorem Gro.ch {H H' : Hp} (g : Gro H H') : Ch none H H' := ⟨fun b o e s => g.1 b o e fun ps z => by subst z; exact absurd s Bool.false_ne_true, g.2⟩
theorem Inv.drop {X : Cx} {pins ps : List (Addr × Obj)} {σ : St} {H : Hp} {s : Shared} (I : Inv X (pins ++ ps) σ H s) : Inv X pins σ H s :=
  ⟨I.ok, I.os, I.bare, I.base, I.loc, I.cell, I.free, I.freeC, fun p hp => I.pin p (by
    rcases List.mem_append.mp hp with h | h
    · exact List.mem_append_left _ h
    · exact List.mem_append_right _ (List.mem_append_left _ h)), I.hok, I.len⟩
section
variable {X : Cx} {kk k' : Nat} {y x : Str} {p pos lpos : Pos} {e1 e2 e4 : Expr} {t1 t2 t4 : TE} {params : Arguments} {body : Expr} {scope : Scope} {fr : List Str} {js : List Nat} {ps : List Str} {sp : Heap → Sp} {c P : Addr}
end
end L2

set_option Elab.async false
set_option linter.all false
set_option maxRecDepth 100000
namespace L2
open PySem PySem.Spec PyProof.Rows
/-! ### name *= n, loops over reversed(list) -/
section
variable {K : PySem.W.Frag} {n : Nat} {a : Addr} {xs : List V} {g : TG} {tb : TS} {σ : St} {H : Hp} {rt : VK} {nx0 : St → Hp → Prop}
end
/-! ### what is so of a liquor -/
/-- what is kept behind n rounds of the changes c -/
def bh (c : (Rat × Rat) × Rat × Rat) (k : Rat × Rat) (n : Nat) : Rat × Rat := (app (cpw c.1 n) k.1, app (cpw c.2 n) k.2)
/-- the numbers that come: their bits -/
structure Bts (c : (Rat × Rat) × Rat × Rat) (k : Rat × Rat) : Prop where
  c1 : ∀ n, n ≤ 1000 → FQ 60000 (cpw c.1 n).1 ∧ FQ 60000 (cpw c.1 n).2
  c2 : ∀ n, n ≤ 1000 → FQ 60000 (cpw c.2 n).1 ∧ FQ 60000 (cpw c.2 n).2
  k : ∀ n, n ≤ 512 → LQ 40000 (bh c k n)
def Stays (p : Rat × Rat → Bool) (c : (Rat × Rat) × Rat × Rat) (k : Rat × Rat) : Prop := ∀ n, p (bh c k n) = true → p (bh c k (n + 1)) = true
theorem Stays.le {p : Rat × Rat → Bool} {c : (Rat × Rat) × Rat × Rat} {k : Rat × Rat} (h : Stays p c k) {m : Nat} : ∀ n, m ≤ n → p (bh c k m) = true → p (bh c k n) = true
  | 0, hm, e => by rw [Nat.le_zero.mp hm] at e; exact e
  | n + 1, hm, e => by
    by_cases q : m = n + 1
    · rw [q] at e; exact e
    · exact h n (h.le n (by omega) e)
theorem Stays.no {p : Rat × Rat → Bool} {c : (Rat × Rat) × Rat × Rat} {k : Rat × Rat} (h : Stays p c k) {m n : Nat} (hm : m ≤ n) (e : p (bh c k n) = false) : p (bh c k m) = false := by
  cases q : p (bh c k m) with
  | false => rfl
  | true => rw [h.le n hm q] at e; cases e
end L2

set_option Elab.async false
set_option linter.all false
set_option maxRecDepth 100000
namespace L2
open PySem PySem.Spec PyProof.Rows
/-! ### near -/
/-- to what a part comes -/
def wayX (x : Rat × Rat) : Rat := x.2 / (1 - x.1)
/-- a part is near -/
def nr (x : Rat × Rat) (f : Int) (y : Rat) : Bool := if x.1 = 1 then true else decide (((y - wayX x).num.natAbs : Int) * f ≤ ((y - wayX x).den : Int))
/-- what is known of one side -/
structure Sd (f : Int) (x : Rat × Rat) (y : Rat) : Prop where
  a1 : FQ 2000 x.1
  a2 : FQ 2000 x.2
  x0 : 0 ≤ x.1
  x1 : x.1 ≤ 1
  b0 : 0 ≤ x.2
  y0 : 0 ≤ y
  fy : FQ 18000 y
  n3 : nr x f (app (cpw x 300) y) = true
end L2

set_option Elab.async false
set_option linter.all false
set_option maxRecDepth 100000
namespace L2
open PySem PySem.Spec PyProof.Rows
/-! ### max of a tuple of ints -/
section
variable {prog : Program} {w : World} {A : Around} {E : Value → Shared → Prop} {s : Shared} {l : Addr} {its : List Value} {ns : List Int} {Q : Value → Shared → Prop}
end
section
variable {X : Cx}
end
end L2

set_option Elab.async false
set_option linter.all false
set_option maxRecDepth 100000
namespace HT
open PySem PyProof.Rows
section
variable {prog : Program} {w : World} {A : Around} {E : Value → Shared → Prop} {s : Shared}
end
end HT
namespace L2
open PySem PySem.Spec PyProof.Rows
section
variable {X : Cx}
end
section
variable {K : PySem.W.Frag} {H : Hp} {Q : VK}
end
end L2

namespace L2
open PySem PySem.Spec PyProof.Rows
/-! ### sum of a tuple of ints -/
section
variable {prog : Program} {w : World} {A : Around} {E : Value → Shared → Prop} {s : Shared} {l : Addr} {its : List Value} {ns : List Int} {Q : Value → Shared → Prop}
end
section
variable {X : Cx}
end
end L2

set_option Elab.async false
set_option linter.all false
set_option maxRecDepth 100000
namespace L2
open PySem PySem.Spec PyProof.Rows
/-! ### None in a list of Nones and tuples -/
section
variable {X : Cx}
end
end L2

set_option Elab.async false
set_option linter.all false
set_option maxRecDepth 100000
namespace L2
open PySem PySem.Spec PyProof.Rows
/-! ### all(.. for one, other in zip(list, list)) -/
section
variable {K : PySem.W.Frag} {g : TG} {tt : TT} {te : TE} {vs : List Nat} {σ : St} {H : Hp} {Q : VK} {es1 es2 : List PyData}
end
end L2

set_option Elab.async false
set_option linter.all false
set_option maxRecDepth 100000
namespace L2
open PySem PySem.Spec PyProof.Rows
/-! ### f-strings: a text, a whole number, a text -/
section
variable {X : Cx}
end
end L2
namespace L2
open PySem PySem.Spec PyProof.Rows
section
variable {X : Cx}
end
end L2

set_option Elab.async false
set_option linter.all false
set_option maxRecDepth 100000
namespace L2
open PySem PySem.Spec PyProof.Rows
/-! ### equal reprs of whole numbers and tuples: equal data -/
mutual
/-- whole numbers and tuples of such alone -/
def pln : PyData → Bool
  | .int _ => true
  | .tuple xs => plnAll xs
  | _ => false
def plnAll : List PyData → Bool
  | [] => true
  | x :: xs => pln x && plnAll xs
end
def cdn (s : Str) : List Nat := s.cps.toList
def dgs (n : Nat) : List Nat := (Nat.toDigits 10 n).map Char.toNat
def isD (c : Nat) : Prop := 48 ≤ c ∧ c ≤ 57
theorem dgs_d {n c : Nat} (h : c ∈ dgs n) : isD c := by
  obtain ⟨x, hx, rfl⟩ := List.mem_map.mp h
  have := Nat.isDigit_of_mem_toDigits (by decide) (by decide) hx
  rw [Char.isDigit_iff_toNat] at this
  exact ⟨this.1, this.2⟩
theorem dgs_inj {n m : Nat} (h : dgs n = dgs m) : n = m := by
  have mi : ∀ {a b : List Char}, a.map Char.toNat = b.map Char.toNat → a = b := fun {a} => by
    induction a with
    | nil => intro b h; cases b with
      | nil => rfl
      | cons => cases h
    | cons x a ih => intro b h; cases b with
      | nil => cases h
      | cons y b =>
        rw [List.map_cons, List.map_cons] at h
        injection h with h1 h2
        rw [Char.toNat_inj.mp h1, ih h2]
  have e : Nat.toDigits 10 n = Nat.toDigits 10 m := mi h
  rw [← Nat.ofDigitChars_toDigits (b := 10) (n := n) (by decide) (by decide), e, Nat.ofDigitChars_toDigits (by decide) (by decide)]
theorem dgs_ne (n : Nat) : dgs n ≠ [] := fun h => Nat.toDigits_ne_nil (List.map_eq_nil_iff.mp h)
/-- what begins with no digit -/
def nD (r : List Nat) : Prop := ∀ c, r.head? = some c → ¬ isD c
theorem span_d : ∀ {a b r s : List Nat}, (∀ c ∈ a, isD c) → (∀ c ∈ b, isD c) → nD r → nD s → a ++ r = b ++ s → a = b ∧ r = s
  | [], [], _, _, _, _, _, _, h => ⟨rfl, h⟩
  | [], y :: b, r, s, _, hb, hr, _, h => by
    have h : r = y :: (b ++ s) := h
    exact absurd (hb y (List.mem_cons_self ..)) (hr y (by rw [h]; rfl))
  | x :: a, [], r, s, ha, _, _, hs, h => by
    have h : x :: (a ++ r) = s := h
    exact absurd (ha x (List.mem_cons_self ..)) (hs x (by rw [← h]; rfl))
  | x :: a, y :: b, r, s, ha, hb, hr, hs, h => by
    have h : x :: (a ++ r) = y :: (b ++ s) := h
    injection h with h1 h2
    obtain ⟨e1, e2⟩ := span_d (fun c hc => ha c (List.mem_cons_of_mem _ hc)) (fun c hc => hb c (List.mem_cons_of_mem _ hc)) hr hs h2
    exact ⟨by rw [h1, e1], e2⟩
theorem cdn_app (a b : Str) : cdn (a ++ b) = cdn a ++ cdn b := by
  show (a.cps ++ b.cps).toList = _
  rw [Array.toList_append]
  rfl
theorem cdn_of (s : String) : cdn (Str.ofString s) = s.toList.map Char.toNat := by
  unfold cdn
  rw [Str.ofString_eq_toList]
theorem cdn_nat (n : Nat) : cdn (Str.ofString (Nat.repr n)) = dgs n := by
  rw [cdn_of, Nat.repr_eq_ofList_toDigits, String.toList_ofList]
  rfl
def icd (i : Int) : List Nat := if 0 ≤ i then dgs i.toNat else 45 :: dgs (-i).toNat
theorem cdn_int (i : Int) : cdn (PyData.int i).shown = icd i := by
  show cdn (Str.ofString (toString i)) = _
  unfold icd
  cases i with
  | ofNat n =>
    rw [if_pos (show (0 : Int) ≤ Int.ofNat n from Int.natCast_nonneg n)]
    exact cdn_nat n
  | negSucc n =>
    rw [if_neg (Int.not_le.mpr (Int.negSucc_lt_zero n))]
    show cdn (Str.ofString ("-" ++ Nat.repr (n + 1))) = _
    rw [cdn_of, String.toList_append, List.map_append, Nat.repr_eq_ofList_toDigits]
    simp only [String.toList_ofList]
    show [45] ++ dgs (n + 1) = _
    rw [show (-Int.negSucc n).toNat = n + 1 from rfl]
    rfl
theorem int_cut {i j : Int} {r s : List Nat} (hr : nD r) (hs : nD s) (h : icd i ++ r = icd j ++ s) : i = j ∧ r = s := by
  unfold icd at h
  split at h
  · split at h
    · obtain ⟨e1, e2⟩ := span_d (fun _ => dgs_d) (fun _ => dgs_d) hr hs h
      have := dgs_inj e1
      exact ⟨by omega, e2⟩
    · exfalso
      cases q : dgs i.toNat with
      | nil => exact dgs_ne _ q
      | cons c cs =>
        rw [q] at h
        have h : c :: (cs ++ r) = 45 :: (dgs (-j).toNat ++ s) := h
        injection h with h1 _
        have := dgs_d (n := i.toNat) (c := c) (by rw [q]; exact List.mem_cons_self ..)
        rw [h1] at this
        exact absurd this.1 (by decide)
  · split at h
    · exfalso
      cases q : dgs j.toNat with
      | nil => exact dgs_ne _ q
      | cons c cs =>
        rw [q] at h
        have h : 45 :: (dgs (-i).toNat ++ r) = c :: (cs ++ s) := h
        injection h with h1 _
        have := dgs_d (n := j.toNat) (c := c) (by rw [q]; exact List.mem_cons_self ..)
        rw [← h1] at this
        exact absurd this.1 (by decide)
    · have h : 45 :: (dgs (-i).toNat ++ r) = 45 :: (dgs (-j).toNat ++ s) := h
      injection h with _ h
      obtain ⟨e1, e2⟩ := span_d (fun _ => dgs_d) (fun _ => dgs_d) hr hs h
      have := dgs_inj e1
      exact ⟨by omega, e2⟩
theorem int_no {j : Int} {s u : List Nat} {c0 : Nat} (hc : ¬ isD c0) (h45 : c0 ≠ 45) (h : icd j ++ s = c0 :: u) : False := by
  unfold icd at h
  split at h
  · cases q : dgs j.toNat with
    | nil => exact dgs_ne _ q
    | cons c cs =>
      rw [q] at h
      injection h with h1 _
      have := dgs_d (n := j.toNat) (c := c) (by rw [q]; exact List.mem_cons_self ..)
      rw [h1] at this
      exact hc this
  · injection h with h1 _
    exact h45 h1.symm
instance (c : Nat) : Decidable (isD c) := by unfold isD; exact inferInstance
/-- what follows behind k items of a tuple -/
def rstT (k : Nat) : List PyData → List Nat
  | [] => if k = 1 then [44, 41] else [41]
  | x :: xs => [44, 32] ++ cdn x.shown ++ rstT (k + 1) xs
theorem comma : cdn ((", " : String) : Str) = [44, 32] := by decide +kernel
theorem shownAll_len : ∀ xs : List PyData, (PyData.shownAll xs).length = xs.length
  | [] => rfl
  | x :: xs => by simp only [PyData.shownAll, List.length_cons, shownAll_len xs]
theorem join_rst : ∀ (xs : List PyData) (x : PyData) (k : Nat), cdn (Str.join ((", " : String) : Str) (x.shown :: PyData.shownAll xs)) ++ (if k + xs.length = 1 then [44, 41] else [41]) = cdn x.shown ++ rstT k xs
  | [], x, k => rfl
  | y :: ys, x, k => by
    have ih := join_rst ys y (k + 1)
    show cdn (x.shown ++ ((", " : String) : Str) ++ Str.join ((", " : String) : Str) (y.shown :: PyData.shownAll ys)) ++ _ = cdn x.shown ++ ([44, 32] ++ cdn y.shown ++ rstT (k + 1) ys)
    rw [cdn_app, cdn_app, comma, show k + (y :: ys).length = k + 1 + ys.length by simp only [List.length_cons]; omega]
    simp only [List.append_assoc]
    rw [ih]
theorem cdn_tup (xs : List PyData) : cdn (PyData.tuple xs).shown = 40 :: (match xs with | [] => [41] | x :: xs => cdn x.shown ++ rstT 1 xs) := by
  show cdn (tupleText (PyData.shownAll xs)) = _
  unfold tupleText
  rw [cdn_app, cdn_app]
  cases xs with
  | nil => decide +kernel
  | cons x xs =>
    have j := join_rst xs x 1
    show cdn (("(" : String) : Str) ++ cdn (Str.join ((", " : String) : Str) (x.shown :: PyData.shownAll xs)) ++ cdn ((if (x.shown :: PyData.shownAll xs).length == 1 then (",)" : String) else ")") : String) = 40 :: (cdn x.shown ++ rstT 1 xs)
    rw [← j, show cdn (("(" : String) : Str) = [40] by decide +kernel]
    have : cdn ((if (x.shown :: PyData.shownAll xs).length == 1 then (",)" : String) else ")") : String) = if 1 + xs.length = 1 then [44, 41] else [41] := by
      rw [List.length_cons, shownAll_len]
      by_cases h : xs.length = 0
      · rw [if_pos (by rw [h]; rfl), if_pos (by omega)]
        decide +kernel
      · rw [if_neg (by intro z; have z := beq_iff_eq.mp z; omega), if_neg (by omega)]
        decide +kernel
    rw [this]
    simp only [List.cons_append, List.nil_append]
/-- an item begins with no closing parenthesis -/
theorem first_no (d : PyData) (hd : pln d = true) (r s : List Nat) (h : cdn d.shown ++ r = 41 :: s) : False := by
  cases d with
  | int i =>
    rw [cdn_int] at h
    exact int_no (by decide) (by decide) h
  | tuple xs =>
    rw [cdn_tup] at h
    injection h with h1 _
    exact absurd h1 (by decide)
  | _ => simp [pln] at hd
theorem rstT_nd (k : Nat) (xs : List PyData) (r : List Nat) : nD (rstT k xs ++ r) := by
  intro c h
  cases xs with
  | nil =>
    unfold rstT at h
    split at h
    · cases h; decide
    · cases h; decide
  | cons x xs => cases h; decide
mutual
theorem pln_cut : ∀ (d e : PyData) (r s : List Nat), pln d = true → pln e = true → nD r → nD s → cdn d.shown ++ r = cdn e.shown ++ s → d = e ∧ r = s
  | .int i, .int j, r, s, _, _, hr, hs, h => by
    rw [cdn_int, cdn_int] at h
    obtain ⟨e1, e2⟩ := int_cut hr hs h
    exact ⟨by rw [e1], e2⟩
  | .int i, .tuple ys, r, s, _, _, _, _, h => by
    rw [cdn_int, cdn_tup] at h
    exact (int_no (by decide) (by decide) h).elim
  | .tuple xs, .int j, r, s, _, _, _, _, h => by
    rw [cdn_int, cdn_tup] at h
    exact (int_no (by decide) (by decide) h.symm).elim
  | .tuple [], .tuple [], r, s, _, _, _, _, h => by
    rw [cdn_tup] at h
    injection h with _ h
    injection h with _ h
    exact ⟨rfl, h⟩
  | .tuple [], .tuple (y :: ys), r, s, _, he, _, _, h => by
    exfalso
    rw [cdn_tup, cdn_tup] at h
    injection h with _ h
    exact first_no y (by simp only [pln, plnAll, Bool.and_eq_true] at he; exact he.1) (rstT 1 ys ++ s) r (by rw [← List.append_assoc]; exact h.symm)
  | .tuple (x :: xs), .tuple [], r, s, hd, _, _, _, h => by
    exfalso
    rw [cdn_tup, cdn_tup] at h
    injection h with _ h
    exact first_no x (by simp only [pln, plnAll, Bool.and_eq_true] at hd; exact hd.1) (rstT 1 xs ++ r) s (by rw [← List.append_assoc]; exact h)
  | .tuple (x :: xs), .tuple (y :: ys), r, s, hd, he, _, _, h => by
    rw [cdn_tup, cdn_tup] at h
    injection h with _ h
    simp only [pln, plnAll, Bool.and_eq_true] at hd he
    have h : cdn x.shown ++ (rstT 1 xs ++ r) = cdn y.shown ++ (rstT 1 ys ++ s) := by rw [← List.append_assoc, ← List.append_assoc]; exact h
    obtain ⟨e1, e2⟩ := pln_cut x y _ _ hd.1 he.1 (rstT_nd 1 xs r) (rstT_nd 1 ys s) h
    obtain ⟨e3, e4⟩ := plnT_cut xs ys 1 r s hd.2 he.2 e2
    exact ⟨by rw [e1, e3], e4⟩
  | .none, _, _, _, h, _, _, _, _ => by simp [pln] at h
  | .bool _, _, _, _, h, _, _, _, _ => by simp [pln] at h
  | .str _, _, _, _, h, _, _, _, _ => by simp [pln] at h
  | .list _, _, _, _, h, _, _, _, _ => by simp [pln] at h
  | .dict _, _, _, _, h, _, _, _, _ => by simp [pln] at h
  | .int _, .none, _, _, _, h, _, _, _ => by simp [pln] at h
  | .int _, .bool _, _, _, _, h, _, _, _ => by simp [pln] at h
  | .int _, .str _, _, _, _, h, _, _, _ => by simp [pln] at h
  | .int _, .list _, _, _, _, h, _, _, _ => by simp [pln] at h
  | .int _, .dict _, _, _, _, h, _, _, _ => by simp [pln] at h
  | .tuple _, .none, _, _, _, h, _, _, _ => by simp [pln] at h
  | .tuple _, .bool _, _, _, _, h, _, _, _ => by simp [pln] at h
  | .tuple _, .str _, _, _, _, h, _, _, _ => by simp [pln] at h
  | .tuple _, .list _, _, _, _, h, _, _, _ => by simp [pln] at h
  | .tuple _, .dict _, _, _, _, h, _, _, _ => by simp [pln] at h
theorem plnT_cut : ∀ (xs ys : List PyData) (k : Nat) (r s : List Nat), plnAll xs = true → plnAll ys = true → rstT k xs ++ r = rstT k ys ++ s → xs = ys ∧ r = s
  | [], [], k, r, s, _, _, h => by
    unfold rstT at h
    split at h
    · injection h with _ h
      injection h with _ h
      exact ⟨rfl, h⟩
    · injection h with _ h
      exact ⟨rfl, h⟩
  | [], y :: ys, k, r, s, _, _, h => by
    exfalso
    unfold rstT at h
    split at h
    · injection h with _ h
      injection h with h _
      exact absurd h (by decide)
    · injection h with h _
      exact absurd h (by decide)
  | x :: xs, [], k, r, s, _, _, h => by
    exfalso
    unfold rstT at h
    split at h
    · injection h with _ h
      injection h with h _
      exact absurd h (by decide)
    · injection h with h _
      exact absurd h (by decide)
  | x :: xs, y :: ys, k, r, s, hd, he, h => by
    simp only [plnAll, Bool.and_eq_true] at hd he
    have h : [44, 32] ++ cdn x.shown ++ rstT (k + 1) xs ++ r = [44, 32] ++ cdn y.shown ++ rstT (k + 1) ys ++ s := h
    injection h with _ h
    injection h with _ h
    have h : cdn x.shown ++ (rstT (k + 1) xs ++ r) = cdn y.shown ++ (rstT (k + 1) ys ++ s) := by rw [← List.append_assoc, ← List.append_assoc]; exact h
    obtain ⟨e1, e2⟩ := pln_cut x y _ _ hd.1 he.1 (rstT_nd _ xs r) (rstT_nd _ ys s) h
    obtain ⟨e3, e4⟩ := plnT_cut xs ys (k + 1) r s hd.2 he.2 e2
    exact ⟨by rw [e1, e3], e4⟩
end
end L2

set_option Elab.async false
set_option linter.all false
set_option maxRecDepth 100000
namespace L2
open PySem PySem.Spec PyProof.Rows
/-! ### isinstance of an exception with a tuple of classes -/
section
variable {X : Cx}
end
end L2

set_option Elab.async false
set_option linter.all false
set_option maxRecDepth 100000
namespace L2
open PySem PySem.Spec PyProof.Rows
/-! ### a written constant of whole numbers, texts, truths, None and tuples of such: its data at once -/
section
variable {X : Cx} {K : PySem.W.Frag}
def tDt (K : PySem.W.Frag) (d : PyData) : TE := fun _ H Q => ∀ v H', Ch none H H' → Im K H' v d → Q v H'
def tDs (K : PySem.W.Frag) (ds : List PyData) : TA := fun _ H Q => ∀ vs H', Ch none H H' → ImAll K H' vs ds → Q vs H'
structure QD (X : Cx) (K : PySem.W.Frag) (e : Expr) (d : PyData) : Prop where
  h : PE X e (tDt K d)
structure QDs (X : Cx) (K : PySem.W.Frag) (es : List Expr) (ds : List PyData) : Prop where
  h : PA X es (tDs K ds)
  l : ds.length ≤ 1000
end
end L2

set_option Elab.async false
set_option linter.all false
set_option maxRecDepth 100000
namespace L2
open PySem PySem.Spec PyProof.Rows
/-! ### repr of tuples of whole numbers of up to 12900 bits -/
theorem big_lt {b : Nat} {i : Int} (h : lf b (.int i) = true) (hb : b ≤ 12900) : i.natAbs < 10 ^ 4300 :=
  Nat.lt_of_lt_of_le (of_decide_eq_true (by simpa only [lf] using h)) (Nat.le_trans (Nat.pow_le_pow_right (by decide) hb) pow_lo)
section
variable {prog : Program} {w : World} {A : Around} {E : Value → Shared → Prop} {s : Shared}
theorem repr_int_call {a : Int} {t : Tok} {Q : Value → Shared → Prop} (hn : s.heap.NoDigits) (ha : a.natAbs < 10 ^ 4300) (h : Q (.str (toString a) s.toks) { s with toks := s.toks + 1 }) :
    wpAny (model prog w) A (call (.builtin "int.__repr__") [.int a t]) Q E s := by
  refine wpAny_call_entry F.slot_int_repr (typeIs_int s a t) F.entry_int_repr ?_ (F.args_int_repr_1 _)
  unfold Builtin.«int.__repr__»
  show wpAny _ _ (do let r ← Builtin.overDigitLimit? a; _) _ _ s
  refine wpAny_bind (overDigitLimit_any hn (fun _ => ?_) (fun z => absurd ha (Nat.not_lt.mpr z)))
  exact wpAny_bind (wpAny_mkStr (wpAny_pure ⟨_, rfl, h⟩) (int_text_fits10 ha))
theorem repr_int_obj {a : Int} {t : Tok} {Q : Value → Shared → Prop} (hu : A.units < cLine) (hn : s.heap.NoDigits) (ha : a.natAbs < 10 ^ 4300) (h : Q (.str (toString a) s.toks) { s with toks := s.toks + 1 }) :
    wpAny (model prog w) A (pyReprObj (.int a t)) Q E s :=
  wpAny_pyReprObj_slot hu (typeIs_int s a t) F.slot_int_repr.toG (repr_int_call hn ha ⟨_, _, rfl, h⟩)
end
section
variable {prog : Program} {w : World} {h₀ : Heap}
mutual
theorem reprK_big (hN : h₀.NoDigits) {b : Nat} (hb : b ≤ 12900) : ∀ {v : Value} {d : PyData} {as : List Addr}, Reads h₀ v d as → pln d = true → lf b d = true → d.shown.length ≤ sizeLine → ∃ bs, ReadAtMost h₀ d.depth bs ∧ ReprK prog w bs h₀ d.depth v d.shown
  | _, _, _, .int i t, _, hl, _ => ⟨[], (fun _ h => nomatch h), by
    rw [PyData.shown_int]
    intro n hn A g E s Q hg _ hu hk hQ
    rw [pyReprUnder_leaf (v := .int i t) (by omega) (fun _ e => nomatch e)]
    unfold pyRepr
    exact wpAny_bind (repr_int_obj (by omega) (hN.keeps hk) (big_lt hl hb) (wpAny_pure (hQ s.heap _ fun _ _ e => e)))⟩
  | _, _, _, .tuple (a := a) (xs := xs) h1 h2 h3 h4, hp, hl, hz => by
    have hz' : (tupleText (PyData.shownAll xs)).length ≤ sizeLine := by simpa only [PyData.shown] using hz
    obtain ⟨bs, hbs, hk⟩ := reprKAll_big hN hb h4 (by simpa only [pln] using hp) (by simpa only [lf] using hl) (fun t ht => Nat.le_trans (tupleText_mem_le ht) hz')
    have r : Reads h₀ (.ref a) (.tuple xs) _ := .tuple h1 h2 h3 h4
    refine ⟨a :: bs, ReadAtMost.cons r (by simp only [PyData.depth]; omega) hbs, ?_⟩
    simp only [PyData.depth, PyData.shown]
    exact ReprK.tuple h1 h2 h3 (not_mem_of_deeper r (by simp only [PyData.depth]; omega) hbs) hk
  | _, _, _, .none, hp, _, _ => by simp [pln] at hp
  | _, _, _, .bool _, hp, _, _ => by simp [pln] at hp
  | _, _, _, .str _ _, hp, _, _ => by simp [pln] at hp
  | _, _, _, .list _ _ _ _, hp, _, _ => by simp [pln] at hp
  | _, _, _, .dict _ _ _ _ _, hp, _, _ => by simp [pln] at hp
theorem reprKAll_big (hN : h₀.NoDigits) {b : Nat} (hb : b ≤ 12900) : ∀ {vs : List Value} {ds : List PyData} {as : List Addr}, ReadsAll h₀ vs ds as → plnAll ds = true → lfAll b ds = true → (∀ t ∈ PyData.shownAll ds, t.length ≤ sizeLine) →
    ∃ bs, ReadAtMost h₀ (PyData.depthAll ds) bs ∧ ReprAllK prog w bs h₀ (PyData.depthAll ds) vs (PyData.shownAll ds)
  | _, _, _, .nil, _, _, _ => ⟨[], (fun _ h => nomatch h), by simp only [PyData.shownAll]; exact .nil⟩
  | _, _, _, .cons (d := d) (ds := ds) r rs, hp, hl, hz => by
    have hp : pln d = true ∧ plnAll ds = true := by simpa [plnAll] using hp
    have hl : lf b d = true ∧ lfAll b ds = true := by simpa [lfAll] using hl
    obtain ⟨b1, hb1, k1⟩ := reprK_big hN hb r hp.1 hl.1 (hz _ (by simp only [PyData.shownAll]; exact List.mem_cons_self ..))
    obtain ⟨b2, hb2, k2⟩ := reprKAll_big hN hb rs hp.2 hl.2 (fun t ht => hz t (by simp only [PyData.shownAll]; exact List.mem_cons_of_mem _ ht))
    refine ⟨b1 ++ b2, (hb1.mono (Nat.le_max_left _ _)).append (hb2.mono (Nat.le_max_right _ _)), ?_⟩
    simp only [PyData.depthAll, PyData.shownAll]
    exact .cons ((k1.more fun b hb => List.mem_append_left _ hb).level_le (Nat.le_max_left _ _)) (k2.more_le (fun b hb => List.mem_append_right _ hb) (Nat.le_max_right _ _))
end
variable {A : Around} {E : Value → Shared → Prop} {s : Shared}
end
mutual
theorem lf_short {b : Nat} (hb : b ≤ 12900) : ∀ d : PyData, pln d = true → lf b d = true → d.leavesShort 4301 = true
  | .int i, _, h => by
    simp only [PyData.leavesShort, decide_eq_true_eq]
    have e := int_text_length_le10 (k := 4300) (by decide) (big_lt h hb)
    rw [PyData.shown_int, PySem.ofString_length]
    exact e
  | .tuple xs, hp, h => by
    simp only [PyData.leavesShort]
    exact lfAll_short hb xs (by simpa only [pln] using hp) (by simpa only [lf] using h)
  | .none, hp, _ => by simp [pln] at hp
  | .bool _, hp, _ => by simp [pln] at hp
  | .str _, hp, _ => by simp [pln] at hp
  | .list _, hp, _ => by simp [pln] at hp
  | .dict _, hp, _ => by simp [pln] at hp
theorem lfAll_short {b : Nat} (hb : b ≤ 12900) : ∀ ds : List PyData, plnAll ds = true → lfAll b ds = true → PyData.leavesShortAll 4301 ds = true
  | [], _, _ => by simp [PyData.leavesShortAll]
  | d :: ds, hp, h => by
    have hp : pln d = true ∧ plnAll ds = true := by simpa [plnAll] using hp
    have h : lf b d = true ∧ lfAll b ds = true := by simpa [lfAll] using h
    simp [PyData.leavesShortAll, lf_short hb d hp.1 h.1, lfAll_short hb ds hp.2 h.2]
end
end L2

set_option Elab.async false
set_option linter.all false
set_option maxRecDepth 100000
namespace L2
open PySem PySem.Spec PyProof.Rows
/-! ### rounds over one bottom, closely -/
end L2

set_option Elab.async false
set_option linter.all false
set_option maxRecDepth 100000
namespace L2
open PySem PySem.Spec PyProof.Rows
/-! ### sorted over tuples that begin with two ints, the second ones all different -/
def TwoAt (h : Heap) (v : Value) (n k : Int) : Prop := ∃ (a : Addr) (o : Obj) (xs : Array Value) (m : Nat) (t u : Tok) (r : List Value), v = .ref a ∧ h.get? a = some o ∧ o.cls = .type "tuple" ∧ o.data = .seq xs m ∧ xs.toList = Value.int n t :: Value.int k u :: r
def two0 (h : Heap) : Value → Option (List (Int ⊕ List Nat))
  | .ref a => match h.get? a with
    | some o => match o.data with
      | .seq xs _ => match xs.toList with
        | .int n _ :: .int k _ :: _ => some [.inl n, .inl k]
        | _ => none
      | _ => none
    | none => none
  | _ => none
theorem TwoAt.key {h : Heap} {v : Value} {n k : Int} (x : TwoAt h v n k) : two0 h v = some [.inl n, .inl k] := by
  obtain ⟨a, o, xs, m, t, u, r, rfl, ho, hc, hd, he⟩ := x
  simp only [two0, ho, hd, he]
open Classical in
@[reducible] noncomputable def twoKind (h : Heap) (vs : List Value) : PyProof.Rows.KeyKind where
  toKeyOrd := listOrd itemOrd
  keyOf v := if v ∈ vs then two0 h v else none
  dflt := []
theorem twoKey {h : Heap} {vs : List Value} {v : Value} {n k : Int} (hm : v ∈ vs) (x : TwoAt h v n k) : (twoKind h vs).keyOf v = some [.inl n, .inl k] := by
  show (if v ∈ vs then two0 h v else none) = _
  rw [if_pos hm, x.key]
section
variable {prog : Program} {w : World} {A : Around} {E : Value → Shared → Prop} {s : Shared}
theorem same_lex {b : Bool} {Q : Bool → Shared → Prop} (hq : Q false s) : ∀ (r : List Value) (i : Nat), PySem.W.KatLex prog w A b false Q (r.zip r) i s
  | [], _ => PySem.W.kat_nil hq
  | p :: r, i => PySem.W.kat_cons (SeqAt.EqAt.same p prog w _ _ (PySem.W.kat_yes (same_lex hq r (i + 1))))
def TwoOk (h : Heap) (vs : List Value) : Prop := (∀ v ∈ vs, ∃ n k, TwoAt h v n k) ∧ ∀ v ∈ vs, ∀ w ∈ vs, ∀ n n' k, TwoAt h v n k → TwoAt h w n' k → v = w
theorem two_ltAt {h : Heap} {vs : List Value} (T : TwoOk h vs) (k : PyProof.Rows.G.KeepsTups h s.heap) : PyProof.Rows.G.LtAt prog w s (twoKind h vs) (tuples' true) := by
  intro A E x y as bs Q hx hy hq
  have mx : x ∈ vs := by
    refine Classical.byContradiction fun z => ?_
    have : (if x ∈ vs then two0 h x else none) = some as := hx
    rw [if_neg z] at this; cases this
  have my : y ∈ vs := by
    refine Classical.byContradiction fun z => ?_
    have : (if y ∈ vs then two0 h y else none) = some bs := hy
    rw [if_neg z] at this; cases this
  obtain ⟨n, i, Tx⟩ := T.1 x mx
  obtain ⟨m, j, Ty⟩ := T.1 y my
  rw [twoKey mx Tx] at hx
  rw [twoKey my Ty] at hy
  obtain rfl := Option.some.inj hx
  obtain rfl := Option.some.inj hy
  have hu := T.2 x mx y my n m
  obtain ⟨a, o, xs, e1, t, u, r, rfl, ho, hc, hd, he⟩ := id Tx
  obtain ⟨b, p, ys, e2, t2, u2, r2, rfl, hp, hc2, hd2, he2⟩ := id Ty
  refine PySem.W.kat_lt (k a o ho hc) hd (k b p hp hc2) hd2 ?_
  rw [he, he2]
  have hq : Q (lexLt itemOrd [.inl n, .inl i] [.inl m, .inl j]) s := hq
  refine PySem.W.kat_cons (wpAny_eqBool_int ?_)
  refine PySem.W.kat_go (fun e => PySem.W.kat_yes ?_) (fun e => PySem.W.kat_no ?_)
  · have e : n = m := by simpa using e
    subst e
    rw [lex_self] at hq
    refine PySem.W.kat_cons (wpAny_eqBool_int ?_)
    refine PySem.W.kat_go (fun e => PySem.W.kat_yes ?_) (fun e => PySem.W.kat_no ?_)
    · have e : i = j := by simpa using e
      subst e
      have := hu i Tx Ty
      cases this
      rw [ho] at hp
      cases hp
      rw [hd] at hd2
      cases hd2
      rw [he] at he2
      injection he2 with _ he2
      injection he2 with _ he2
      subst he2
      rw [lex_self] at hq
      have : decide (xs.size < xs.size) = false := decide_eq_false (Nat.lt_irrefl _)
      rw [this]
      exact same_lex hq _ _
    · have e : ¬ i = j := by simpa using e
      rw [lex_diff (fun x => e (Sum.inl.inj x))] at hq
      exact oneLt_any_int hq
  · have e : ¬ n = m := by simpa using e
    rw [lex_diff (fun x => e (Sum.inl.inj x))] at hq
    exact oneLt_any_int hq
theorem two_firsts {h : Heap} : ∀ {vs : List Value}, (∀ v ∈ vs, ∃ n k, TwoAt h v n k) → ∃ fs, TupsOf h (fun _ => false) vs fs
  | [], _ => ⟨[], .nil⟩
  | v :: vs, T => by
    obtain ⟨fs, r⟩ := two_firsts fun w hw => T w (List.mem_cons_of_mem _ hw)
    obtain ⟨n, k, a, o, xs, m, t, u, q, rfl, ho, hc, hd, he⟩ := T v (List.mem_cons_self ..)
    refine ⟨.int n t :: fs, .cons ⟨a, o, xs, m, rfl, ho, hc, hd, ?_, fun _ => ⟨_, _, rfl⟩, fun z => by cases z⟩ r⟩
    rw [← Array.getElem?_toList, he]
    rfl
/-- one key isn't behind the other -/
def le2 (x y : Int × Int) : Prop := x.1 < y.1 ∨ (x.1 = y.1 ∧ x.2 ≤ y.2)
theorem le2_of {n k m j : Int} (h : lexLt itemOrd [.inl m, .inl j] [.inl n, .inl k] = false) : le2 (n, k) (m, j) := by
  have a := lex_false.mp h
  have a1 : ¬ m < n := of_decide_eq_false a.1
  rcases a.2 with b | b
  · exact .inl (of_decide_eq_true b)
  · have c := lex_false.mp b
    have c1 : ¬ j < k := of_decide_eq_false c.1
    show n < m ∨ (n = m ∧ k ≤ j)
    omega
theorem sorted_two {l : Addr} {vs : List Value} {Q : Value → Shared → Prop} (hl : s.heap.IsList l vs.toArray) (T : TwoOk s.heap vs) (hL : vs.length ≤ sizeLine)
    (h : ∀ out : List Value, out.Perm vs → (∀ i j (hij : i ≤ j) (hj : j < out.length) n k m q, TwoAt s.heap out[i] n k → TwoAt s.heap out[j] m q → le2 (n, k) (m, q)) → Q (.ref (s.heap.objs.size + 1)) { s with heap := sortedAll s.heap vs out.toArray }) :
    wpAny (model prog w) A (call (.builtin "sorted") [.ref l]) Q E s := by
  obtain ⟨fs, F⟩ := two_firsts T.1
  refine PyProof.Rows.G.sortedG (κ := twoKind s.heap vs) hl (fun p hp => ?_) (fun s₂ k => two_ltAt (s := s₂) T k) (fun h2 _ _ s₂ _ k hq => tup_kind (s := s₂) (by rw [PyProof.Rows.G.TupsOf.length F]; omega) (PyProof.Rows.G.TupsOf.keep k F) hq) hL fun st' hp hs _ => ?_
  · rw [pairsOf_toList] at hp
    obtain ⟨_, hm⟩ := mem_zip_self hp
    obtain ⟨n, k, t⟩ := T.1 p.1 hm
    exact ⟨_, twoKey hm t⟩
  · have pl : (arrOf st').toList.Perm (vs.zip vs) := by
      have := Array.perm_iff_toList_perm.mp hp
      rwa [pairsOf_toList] at this
    have hz : (vs.zip vs).map (·.2) = vs := List.map_snd_zip (Nat.le_refl _)
    have pm : ((arrOf st').toList.map (·.2)).Perm vs := by
      have := pl.map (·.2)
      rwa [hz] at this
    have ea : (arrOf st').map (·.2) = ((arrOf st').toList.map (·.2)).toArray := by
      apply Array.ext'
      rw [Array.toList_map]
    rw [ea]
    refine h _ pm fun i j hij hj n k m q ti tj => ?_
    have hja : j < (arrOf st').size := by simpa using hj
    have hia : i < (arrOf st').size := by omega
    have kk : ∀ (x : Nat) (hx : x < (arrOf st').size) (hx2 : x < ((arrOf st').toList.map (·.2)).length) n k, TwoAt s.heap (((arrOf st').toList.map (·.2))[x]) n k → KK (twoKind s.heap vs) (arrOf st') x = [.inl n, .inl k] := by
      intro x hx hx2 n k t
      have mem : (arrOf st')[x] ∈ vs.zip vs := pl.mem_iff.mp (by simp)
      obtain ⟨e1, e2⟩ := mem_zip_self mem
      have e3 : ((arrOf st').toList.map (·.2))[x] = (arrOf st')[x].2 := by simp
      rw [e3, ← e1] at t
      unfold KK
      rw [Array.getElem?_eq_getElem hx]
      show ((twoKind s.heap vs).keyOf (arrOf st')[x].1).getD _ = _
      rw [twoKey e2 t]
      rfl
    have := hs i j hij (by rw [pairsOf_size]; have := pm.length_eq; omega)
    rw [kk i hia (by omega) n k ti, kk j hja hj m q tj] at this
    exact le2_of this
end
theorem perm_map {α β : Type} (f : α → β) : ∀ {l1 l2 : List β}, l1.Perm l2 → ∀ Z : List α, l2 = Z.map f → ∃ Z' : List α, Z'.Perm Z ∧ l1 = Z'.map f := by
  intro l1 l2 h
  induction h with
  | nil => intro Z e; exact ⟨[], by rw [List.map_eq_nil_iff.mp e.symm], rfl⟩
  | cons x _ ih =>
    intro Z e
    match Z, e with
    | z :: Z, e =>
      injection e with e1 e2
      obtain ⟨Z', p, e3⟩ := ih Z e2
      exact ⟨z :: Z', p.cons _, by rw [e3, e1]; rfl⟩
  | swap x y l =>
    intro Z e
    match Z, e with
    | z1 :: z2 :: Z, e =>
      injection e with e1 e2
      injection e2 with e2 e3
      exact ⟨z2 :: z1 :: Z, .swap .., by rw [e1, e2, e3]; rfl⟩
  | trans _ _ ih1 ih2 =>
    intro Z e
    obtain ⟨Z2, p2, e2⟩ := ih2 Z e
    obtain ⟨Z1, p1, e1⟩ := ih1 Z2 e2
    exact ⟨Z1, p1.trans p2, e1⟩
section
variable {X : Cx}
def TwoV (K : PySem.W.Frag) (H : Hp) (v : V) (x : Int × Int) : Prop := ∃ a ys, v = .ref a ∧ SqT K H a (.int x.1 :: .int x.2 :: ys)
/-- sorted(xs), the items tuples that begin with two ints, the second ones all different -/
def rSortT (K : PySem.W.Frag) : List V → Hp → VK → Prop := fun vs H Q => ∃ (a : Addr) (Z : List (V × Int × Int)), vs = [V.ref a] ∧ SqL K H a (Z.map (·.1)) ∧ Z.length ≤ 1000 ∧ (∀ z ∈ Z, TwoV K H z.1 z.2) ∧ (Z.map fun z => z.2.2).Nodup ∧
  ∀ (Z' : List (V × Int × Int)) (p : Addr), Z'.Perm Z → Z'.Pairwise (fun x y => le2 x.2 y.2) → H p = none → Q (.ref p) (upd H p (.lst (Z'.map (·.1))))
theorem twoV_at {pins : _} {σ : St} {H : Hp} {s : Shared} (I : Inv X pins σ H s) {v : V} {u : Value} {x : Int × Int} (t : TwoV X.K H v x) (r : RelV v u) : TwoAt s.heap u x.1 x.2 := by
  obtain ⟨a, ys, rfl, sq⟩ := t
  cases r
  obtain ⟨its, rv, ⟨o, ho, hc, n, hd⟩, _⟩ := I.tuple sq
  match its, rv with
  | i1 :: i2 :: its, .cons r1 (.cons r2 _) =>
    obtain ⟨t1, rfl⟩ := r1
    obtain ⟨t2, rfl⟩ := r2
    exact ⟨a, o, _, n, t1, t2, its, rfl, ho, hc, hd, rfl⟩
theorem two_inj {h : Heap} {v : Value} {n k m j : Int} (a : TwoAt h v n k) (b : TwoAt h v m j) : n = m ∧ k = j := by
  have := a.key.symm.trans b.key
  injection this with this
  injection this with e1 e2
  injection e2 with e2 _
  exact ⟨Sum.inl.inj e1, Sum.inl.inj e2⟩
theorem vals_zip : ∀ {xs : List V} {us : List Value}, Vals xs us → ∀ (Z : List (V × Int × Int)), xs = Z.map (·.1) → ∃ Y : List ((V × Int × Int) × Value), Y.map (·.1) = Z ∧ Y.map (·.2) = us ∧ ∀ y ∈ Y, RelV y.1.1 y.2
  | _, _, .nil, [], _ => ⟨[], rfl, rfl, fun _ h => nomatch h⟩
  | _, _, .cons r t, z :: Z, e => by
    injection e with e1 e2
    obtain ⟨Y, h1, h2, h3⟩ := vals_zip t Z e2
    refine ⟨(z, _) :: Y, by rw [List.map_cons, h1], by rw [List.map_cons, h2], fun y hy => ?_⟩
    rcases List.mem_cons.mp hy with rfl | hy
    · have e1 : _ = z.1 := e1
      show RelV z.1 _
      rw [← e1]; exact r
    · exact h3 y hy
theorem zip_vals : ∀ {Y : List ((V × Int × Int) × Value)}, (∀ y ∈ Y, RelV y.1.1 y.2) → Vals (Y.map fun y => y.1.1) (Y.map (·.2))
  | [], _ => .nil
  | y :: Y, h => .cons (h y (List.mem_cons_self ..)) (zip_vals fun z hz => h z (List.mem_cons_of_mem _ hz))
theorem nodup_at {α β : Type} {f : α → β} {l : List α} (h : (l.map f).Nodup) {x y : α} (hx : x ∈ l) (hy : y ∈ l) (e : f x = f y) : x = y := by
  induction l with
  | nil => cases hx
  | cons a l ih =>
    rw [List.map_cons, List.nodup_cons] at h
    rcases List.mem_cons.mp hx with h1 | h1
    · rcases List.mem_cons.mp hy with h2 | h2
      · rw [h1, h2]
      · rw [← h1, e] at h
        exact absurd (List.mem_map.mpr ⟨y, h2, rfl⟩) h.1
    · rcases List.mem_cons.mp hy with h2 | h2
      · rw [← h2, ← e] at h
        exact absurd (List.mem_map.mpr ⟨x, h1, rfl⟩) h.1
      · exact ih h.2 h1 h2
theorem cr_sortT : CallR X (.builtin "sorted") (rSortT X.K) := by
  intro pins s σ H vs us Q I r h
  obtain ⟨a, Z, rfl, hs, hL, hT, hN, q⟩ := h
  obtain ⟨its, rv, hl, _⟩ := I.list hs
  rw [Vals.ref1 r]
  obtain ⟨Y, y1, y2, y3⟩ := vals_zip rv Z rfl
  have at2 : ∀ y ∈ Y, TwoAt s.heap y.2 y.1.2.1 y.1.2.2 := fun y hy => twoV_at I (hT y.1 (by rw [← y1]; exact List.mem_map.mpr ⟨y, hy, rfl⟩)) (y3 y hy)
  have hlen : its.length = Z.length := by rw [← y1, ← y2]; simp
  have nd : (Y.map fun y => y.1.2.2).Nodup := by rw [← y1, List.map_map] at hN; exact hN
  have T : TwoOk s.heap its := by
    refine ⟨fun v hv => ?_, fun v hv w hw n n' k tv tw => ?_⟩
    · rw [← y2] at hv
      obtain ⟨y, hy, rfl⟩ := List.mem_map.mp hv
      exact ⟨_, _, at2 y hy⟩
    · rw [← y2] at hv hw
      obtain ⟨y, hy, rfl⟩ := List.mem_map.mp hv
      obtain ⟨z, hz, rfl⟩ := List.mem_map.mp hw
      have e1 := (two_inj (at2 y hy) tv).2
      have e2 := (two_inj (at2 z hz) tw).2
      rw [nodup_at nd hy hz (e1.trans e2.symm)]
  refine sorted_two hl.isList T (by rw [sizeLine_eq]; omega) fun out hp hsd => ?_
  rw [← y2] at hp
  obtain ⟨Y', pY, eY⟩ := perm_map (·.2) hp Y rfl
  have m' : ∀ y ∈ Y', y ∈ Y := fun y hy => pY.mem_iff.mp hy
  obtain ⟨ep, he'⟩ := PyProof.Rows.sortedAll_at s.heap its out.toArray
  have hlen2 : ((Y'.map (·.1)).map (·.1)).length ≤ sizeLine := by
    have := pY.length_eq
    have : Y.length = Z.length := by rw [← y1]; simp
    simp only [List.length_map]
    rw [sizeLine_eq]; omega
  have vl : Vals ((Y'.map (·.1)).map (·.1)) out := by
    rw [eY, List.map_map]
    exact zip_vals fun y hy => y3 y (m' y hy)
  refine ⟨.ref _, upd H (s.heap.objs.size + 1) (.lst ((Y'.map (·.1)).map (·.1))), I.laid (t' := s.toks) (fun _ _ => PyProof.Rows.sortedAll_old) (Nat.le_succ _) ⟨hlen2, out, ep, vl, he'⟩, rfl, q (Y'.map (·.1)) _ ?_ ?_ (I.hok.fresh (Nat.le_succ _))⟩
  · have := pY.map (·.1)
    rwa [y1] at this
  · rw [List.pairwise_iff_getElem]
    intro i j hi hj hij
    simp only [List.length_map] at hi hj
    have key := hsd i j (Nat.le_of_lt hij) (by rw [eY]; simpa using hj) Y'[i].1.2.1 Y'[i].1.2.2 Y'[j].1.2.1 Y'[j].1.2.2
    simp only [eY, List.getElem_map] at key ⊢
    exact key (at2 _ (m' _ (List.getElem_mem hi))) (at2 _ (m' _ (List.getElem_mem hj)))
theorem cr_sortTS {K : PySem.W.Frag} (h : X.K = K := by rfl) : CallR X (.builtin "sorted") (rSortT K) := by subst h; exact cr_sortT
/-! ### list.insert within bounds -/
def rInsert : V → List V → Hp → VK → Prop := fun x vs H Q => ∃ (l : Addr) (xs : List V) (k : Int) (y : V), x = .ref l ∧ vs = [.int k, y] ∧ H l = some (.lst xs) ∧ 0 ≤ k ∧ k ≤ (xs.length : Int) ∧ xs.length < 1000 ∧ Q .non (upd H l (.lst (xs.take k.toNat ++ y :: xs.drop k.toNat)))
theorem mt_insert : MtM X "list.insert" rInsert := by
  intro pins s σ H x vs v us Q I rx rv h
  obtain ⟨l, xs, k, y, rfl, rfl, hH, k0, k1, hz, q⟩ := h
  cases rx
  match us, rv with
  | [u1, u2], .cons r1 (.cons r2 .nil) =>
    obtain ⟨t1, rfl⟩ := r1
    obtain ⟨z, its, n, r, hl, e⟩ := I.lstM hH
    have hlen := r.length
    have fits : Builtin.List.listFitsIndex k = true := by
      unfold Builtin.List.listFitsIndex
      simp
      omega
    refine call_meets F.slot_list_insert ⟨_, e, rfl⟩ F.entry_list_insert (F.args_list_insert_3 _ _ _) (AutoSeq1.list_insert_list_int_val_1 l its.toArray n k t1 u2 (by simp [fits]) (by rw [List.size_toArray, sizeLine_eq]; omega)) ⟨e, ?_⟩
    refine ⟨.non, _, I.lset (its' := its.take k.toNat ++ u2 :: its.drop k.toNat) (t' := s.toks) hH e ?_ (Vals.append (r.take _) (.cons r2 (r.drop _))) ?_, rfl, q⟩
    · have e1 : ¬ k < 0 := by omega
      have e2 : min k.toNat its.length = k.toNat := by omega
      simp [e1, e2]
      exact List.take_of_length_le (by rw [List.length_drop]; omega)
    · rw [List.length_append, List.length_cons, List.length_take, List.length_drop, sizeLine_eq]
      omega
end
/-! ### a truth is a truth -/
section
variable {X : Cx}
theorem is_bool {prog : Program} {w : World} {A : Around} {E : Value → Shared → Prop} {s : Shared} {Q : Value → Shared → Prop} {a b : Bool} (h : Q (.bool (a == b)) s) : wpAny (model prog w) A (compareOp .Is (.bool a) (.bool b)) Q E s := by
  cases a <;> cases b <;> exact wpAny_pure h
theorem op_isB : OpR X (compareOp .Is) (fun x y H Q => ∃ a b, x = .bl a ∧ y = .bl b ∧ Q (.bl (a == b)) H) := by
  intro pins s σ H x y v u Q I rx ry h
  obtain ⟨a, b, rfl, rfl, q⟩ := h
  cases rx
  cases ry
  exact is_bool (fin_bl I q rfl)
end
/-! ### the readings over data -/
theorem i_ins {l : Addr} {ys : List V} {k : Int} {y : V} {H : Hp} {Q : VK} (e : H l = some (.lst ys)) (k0 : 0 ≤ k) (k1 : k ≤ (ys.length : Int)) (hl : ys.length < 1000) (h : ∀ H', Ch (some l) H H' → H' l = some (.lst (ys.take k.toNat ++ y :: ys.drop k.toNat)) → Q .non H') : rInsert (.ref l) [.int k, y] H Q :=
  ⟨l, ys, k, y, rfl, rfl, e, k0, k1, hl, h _ (Ch.at e) upd_same⟩
/-- a datum that begins with two ints -/
def twoD (x : Int × Int × PyData) : PyData := .tuple [.int x.1, .int x.2.1, x.2.2]
theorem im_two {K : PySem.W.Frag} {H : Hp} {v : V} {x : Int × Int × PyData} (h : Im K H v (twoD x)) : TwoV K H v (x.1, x.2.1) := by
  obtain ⟨a, ys, rfl, sq, al⟩ := Im.ref h
  match ys, al with
  | _, .cons h1 (.cons h2 r) =>
    obtain rfl := h1.int_eq
    obtain rfl := h2.int_eq
    exact ⟨a, _, rfl, sq⟩
theorem all_zip {K : PySem.W.Frag} {H : Hp} : ∀ {us : List V} {xs : List (Int × Int × PyData)}, ImAll K H us (xs.map twoD) → ∃ Y : List (V × Int × Int × PyData), Y.map (·.1) = us ∧ Y.map (·.2) = xs ∧ ∀ y ∈ Y, Im K H y.1 (twoD y.2)
  | _, [], .nil => ⟨[], rfl, rfl, fun _ h => nomatch h⟩
  | u :: us, x :: xs, .cons h t => by
    obtain ⟨Y, h1, h2, h3⟩ := all_zip t
    refine ⟨(u, x) :: Y, by rw [List.map_cons, h1], by rw [List.map_cons, h2], fun y hy => ?_⟩
    rcases List.mem_cons.mp hy with rfl | hy
    · exact h
    · exact h3 y hy
theorem zip_all {K : PySem.W.Frag} {H : Hp} : ∀ {Y : List (V × Int × Int × PyData)}, (∀ y ∈ Y, Im K H y.1 (twoD y.2)) → ImAll K H (Y.map (·.1)) ((Y.map (·.2)).map twoD)
  | [], _ => .nil
  | y :: Y, h => .cons (h y (List.mem_cons_self ..)) (zip_all fun z hz => h z (List.mem_cons_of_mem _ hz))
theorem i_sortT {K : PySem.W.Frag} {H : Hp} {Q : VK} {D : Addr} {us : List V} {xs : List (Int × Int × PyData)} (e : H D = some (.lst us)) (al : ImAll K H us (xs.map twoD)) (hl : xs.length ≤ 1000) (nd : (xs.map fun x => x.2.1).Nodup)
    (k : ∀ (xs' : List (Int × Int × PyData)) (p : Addr) (us' : List V) (H' : Hp), xs'.Perm xs → xs'.Pairwise (fun x y => le2 (x.1, x.2.1) (y.1, y.2.1)) → H p = none → Ch none H H' → H' p = some (.lst us') → ImAll K H' us' (xs'.map twoD) → Q (.ref p) H') : rSortT K [.ref D] H Q := by
  obtain ⟨Y, y1, y2, y3⟩ := all_zip al
  have hY : Y.length = xs.length := by rw [← y2]; simp
  refine ⟨D, Y.map fun y => (y.1, y.2.1, y.2.2.1), rfl, ?_, by simpa [hY] using hl, ?_, ?_, fun Z' p pm sd np => ?_⟩
  · rw [List.map_map]
    refine SqL.of ?_
    rw [e, ← y1]; rfl
  · intro z hz
    obtain ⟨y, hy, rfl⟩ := List.mem_map.mp hz
    exact im_two (y3 y hy)
  · rw [← y2, List.map_map] at nd
    rw [List.map_map]
    exact nd
  · obtain ⟨Y', pY, eY⟩ := perm_map (fun y : V × Int × Int × PyData => (y.1, y.2.1, y.2.2.1)) pm Y rfl
    have c : Ch none H (upd H p (.lst (Z'.map (·.1)))) := Ch.new np
    refine k (Y'.map (·.2)) p (Z'.map (·.1)) _ ?_ ?_ np c upd_same ?_
    · have := pY.map (·.2)
      rwa [y2] at this
    · rw [eY, List.pairwise_map] at sd
      rw [List.pairwise_map]
      exact sd
    · have z := zip_all (K := K) (H := H) (Y := Y') fun y hy => y3 y (pY.mem_iff.mp hy)
      have e2 : Z'.map (·.1) = Y'.map (·.1) := by rw [eY, List.map_map]; rfl
      rw [← e2] at z
      exact z.ch c
end L2

set_option Elab.async false
set_option linter.all false
set_option maxRecDepth 100000
set_option maxHeartbeats 8000000
namespace LW
open PySem PySem.Spec PyProof.Rows L2
def top (i : Nat) : Stmt := PySem.Challenge.pw_twicerun_k10_whole_runs_put_together.main.body.getD i (.Pass ⟨0, 0, 0, 0⟩)
end LW

set_option Elab.async false
set_option linter.all false
set_option maxRecDepth 100000
set_option maxHeartbeats 8000000
namespace LW
open PySem PySem.Spec PyProof.Rows L2
local macro_rules | `(tactic| walk_at "r1") => `(tactic| first
  | with_reducible refine r_seq ?_
  | with_reducible refine r_asg ?_
  | with_reducible refine r_ifs ?_
  | with_reducible refine r_ret ?_
  | with_reducible refine r_next ?_
  | with_reducible refine r_drop ?_
  | with_reducible refine r_op ?_
  | ((with_reducible refine' r_var ?e ?_); (case e => exact rfl))
  | with_reducible refine r_c ?_
  | with_reducible refine r_name ?_
  | with_reducible refine r_sub ?_
  | with_reducible refine r_test ?_
  | with_reducible refine r_tb ?_
  | with_reducible refine r_exb ?_
  | with_reducible refine r_and ?_
  | with_reducible refine r_or ?_
  | with_reducible refine r_not ?_
  | with_reducible refine r_andV ?_
  | with_reducible refine r_orV ?_
  | with_reducible refine r_notV ?_
  | with_reducible refine r_if ?_
  | with_reducible refine r_cons ?_
  | with_reducible refine r_K ?_
  | with_reducible refine r_nil ?_
  | with_reducible refine r_call ?_
  | with_reducible refine r_cb ?_
  | with_reducible refine r_un ?_
  | with_reducible refine r_parS ?_
  | with_reducible refine r_par2 ?_
  | with_reducible refine r_gcons ?_
  | with_reducible refine r_gnil ?_
  | with_reducible refine r_yes ?_
  | ((with_reducible refine r_wipe ?e ?_); (case e => exact rfl))
  | with_reducible refine r_add ?_
  | with_reducible refine r_sub2 ?_
  | with_reducible refine r_lt ?_
  | with_reducible refine r_le ?_
  | with_reducible refine r_gt ?_
  | with_reducible refine r_ge ?_
  | with_reducible refine r_eqI ?_
  | with_reducible refine r_neI ?_
  | with_reducible refine r_eqB ?_
  | with_reducible refine r_neB ?_
  | with_reducible refine r_eqS ?_
  | with_reducible refine r_neg ?_
  | with_reducible refine iteT ?_
  | with_reducible refine iteF ?_
  | with_reducible refine iteNT ?_
  | with_reducible refine iteNF ?_
  | ((with_reducible refine r_dT ?h ?_); (case h => first | exact rfl | assumption | omega))
  | ((with_reducible refine r_dF ?h ?_); (case h => first | assumption | omega | (intro z; cases z; done)))
  | ((with_reducible refine r_ndT ?h ?_); (case h => first | exact rfl | assumption | omega))
  | ((with_reducible refine r_ndF ?h ?_); (case h => first | assumption | omega | (intro z; cases z; done)))
  | ((with_reducible refine r_mod ?c ?_); (case c => first | assumption | decide | omega))
  | ((with_reducible refine r_fdiv ?c ?b ?_); (case c => first | assumption | decide | omega); (case b => first | with_reducible assumption | exact Bd.small' (by decide) (by decide) | exact Bd.small' (by omega) (by omega)))
  | ((with_reducible refine r_mul ?c ?_); (case c => first | exact .inl ⟨by decide, by decide⟩ | exact .inr ⟨by decide, by decide⟩ | exact .inr ⟨by omega, by omega⟩ | exact .inl ⟨by omega, by omega⟩))
  | ((with_reducible refine r_mulB ?c ?_); (case c => exact ⟨Bd.mono (by assumption) (by decide), Bd.mono (by assumption) (by decide)⟩))
  | ((with_reducible refine r_tup ?_))
  | ((with_reducible refine r_lst ?_))
  | ((with_reducible refine' r_ixL ?s ?e ?_); (case s => first | exact .inl (.inl upd_same) | exact SqL.of (by assumption)); (case e => exact rfl))
  | ((with_reducible refine' r_ixT ?s ?e ?_); (case s => first | assumption | exact .inl (.inl upd_same)); (case e => exact rfl))
  | ((with_reducible refine' r_setL ?e ?l ?_); (case e => first | exact upd_same | assumption); (case l => exact rfl))
  | ((with_reducible refine r_new ?l ?_); (case l => exact rfl))
  | with_reducible refine r_ex1 ?_
  | with_reducible refine r_ex2 ?_
  | with_reducible refine r_exi ?_
  | with_reducible refine r_non ?_
  | with_reducible refine r_sl ?_
  | with_reducible refine r_for ?_
  | with_reducible refine r_bm ?_
  | with_reducible refine r_offs ?_
  | with_reducible refine r_intB ?_
  | with_reducible refine r_rng1 ?_
  | with_reducible refine r_rng2 ?_
  | with_reducible refine r_lc ?_
  | with_reducible refine r_nopart ?_
  | with_reducible refine r_part ?_
  | ((with_reducible refine r_pow ?c ?_); (case c => exact ⟨by decide, by decide, by decide⟩))
  | ((with_reducible refine' r_lenL ?s ?_); (case s => first | exact .inl (.inl upd_same) | exact SqL.of (by assumption) | assumption))
  | ((with_reducible refine' r_lenT ?s ?_); (case s => first | assumption | exact .inl (.inl upd_same)))
  | ((with_reducible refine' i_isiD ?p ?k ?_); (case p => walk_at "im"); (case k => constructor))
  | ((with_reducible refine' r_isi ?t rfl ?k ?_); (case t => first | exact .of (.int _) | exact .of (.bl _) | exact .of (.str _) | exact .of .non | exact .sqT (by assumption) | exact .sqL (by assumption) | exact .sqL (.inl (.inr ⟨_, by assumption⟩)) | exact .frD (by assumption)); (case k => first | exact isi_int_tuple | exact isi_int_int | exact isi_int_bool | exact isi_int_str | exact isi_bool_tuple | exact isi_bool_int | exact isi_bool_bool | exact isi_bool_str | exact isi_str_tuple | exact isi_str_int | exact isi_str_bool | exact isi_str_str | exact isi_NoneType_tuple | exact isi_NoneType_int | exact isi_NoneType_bool | exact isi_NoneType_str | exact isi_tuple_tuple | exact isi_tuple_int | exact isi_tuple_bool | exact isi_tuple_str | exact isi_list_tuple | exact isi_list_int | exact isi_list_bool | exact isi_list_str | exact isi_dict_tuple | exact isi_dict_int | exact isi_dict_bool | exact isi_dict_str | exact isi_list_list | exact isi_tuple_list | exact isi_int_list | exact isi_str_list | exact isi_dict_list))
  | (dsimp only))
local macro_rules | `(tactic| walk_at "rr") => `(tactic| repeat (walk_at "r1"))
local macro_rules | `(tactic| walk_at "pu") => `(tactic| first
  | assumption
  | ((with_reducible refine Purse.ch (by assumption) ?_); walk_at "pu")
  | ((with_reducible refine Purse.chL (by assumption) (by assumption) ?_); walk_at "pu")
  | ((with_reducible refine Purse.chL (by assumption) (Ne.symm (by assumption)) ?_); walk_at "pu"))
local macro_rules | `(tactic| walk_at "ls") => `(tactic| first
  | assumption
  | with_reducible exact upd_same
  | ((with_reducible refine' Ch.ls (by assumption) ?h); (case h => walk_at "ls"))
  | ((with_reducible refine' Ch.lsP (by assumption) (by assumption) ?h); (case h => walk_at "ls"))
  | ((with_reducible refine' Ch.lsP (by assumption) (Ne.symm (by assumption)) ?h); (case h => walk_at "ls")))
local macro_rules | `(tactic| walk_at "im") => `(tactic| first
  | assumption
  | with_reducible exact Im.int _ | with_reducible exact Im.bl _ | with_reducible exact Im.str _ | with_reducible exact Im.non
  | ((with_reducible refine' Im.ch (by assumption) ?h); (case h => walk_at "im")))
local macro_rules | `(tactic| walk_at "ima") => `(tactic| first
  | with_reducible exact ImAll.nil
  | ((with_reducible refine' ImAll.cons ?a ?b); (case a => walk_at "im"); (case b => walk_at "ima"))
  | assumption
  | ((with_reducible refine' ImAll.ch (by assumption) ?h); (case h => walk_at "ima")))
local macro_rules | `(tactic| walk_at "fre") => `(tactic| first
  | assumption
  | ((with_reducible refine Ch.fr (by assumption) ?_); walk_at "fre"))
local macro_rules | `(tactic| walk_at "frj") => `(tactic| first
  | assumption
  | ((with_reducible refine' Ch.fr (H' := ?Hj) ?c ?n); (case n => assumption); (case c => walk_at "ch")))
local macro_rules | `(tactic| walk_at "ch") => `(tactic| first
  | with_reducible exact Ch.refl _
  | assumption
  | ((with_reducible refine Ch.step (by assumption) ?_); walk_at "ch")
  | ((with_reducible refine Ch.step' (by assumption) ?_); walk_at "ch")
  | ((with_reducible refine' Ch.own (by assumption) ?n ?_); (case n => walk_at "fre"); walk_at "ch"))
local macro_rules | `(tactic| walk_at "bd") => `(tactic| first
  | with_reducible assumption
  | exact Bd.mono (Bd.small' (by decide) (by decide)) (by decide)
  | exact Bd.mono (by assumption) (by decide)
  | exact Bd.mono (FQ.mono (by assumption) (Nat.le_refl _)).1 (by decide)
  | exact Bd.mono (FQ.mono (by assumption) (Nat.le_refl _)).2 (by decide)
  | exact Bd.mono (Bd.small' (by omega) (by omega)) (by decide))
local macro_rules | `(tactic| walk_at "r1") => `(tactic| first
  | with_reducible refine y_gcd ?_
  | ((with_reducible refine y_take ?p ?a ?b ?_); (case p => walk_at "pu"); (case a => first | decide | omega); (case b => first | decide | omega); intro _ _ _ _ _ _)
  | ((with_reducible refine' y_ar ?p ?q ?a ?b ?_); (case p => walk_at "im"); (case q => walk_at "im"); (case a => first | with_reducible assumption | exact FQ.mono (by assumption) (by decide)); (case b => first | with_reducible assumption | exact FQ.mono (by assumption) (by decide)); intro _ _ _ _)
  | ((with_reducible refine y_frac ?b ?n ?_); (case b => walk_at "bd"); (case n => first | decide | omega); intro _ _ _ _)
  | ((with_reducible refine y_low ?n ?b ?_); (case n => first | decide | omega); (case b => walk_at "bd"); intro _ _ _ _)
  | ((with_reducible refine y_great ?p ?a ?b ?_); (case p => walk_at "pu"); (case a => decide); (case b => decide); intro _ _ _ _ _)
  | with_reducible refine r_tupN ?_
  | with_reducible refine r_lstN ?_
  | ((with_reducible refine' i_tup (by assumption) ?l ?p ?_); (case l => exact rfl); (case p => walk_at "ima"); intro _ _ _ _ _)
  | ((with_reducible refine i_tupR ?l ?_); (case l => exact rfl); intro _ _ _ _ _)
  | ((with_reducible refine' r_gT ?s ?l ?_); (case s => exact .inl (.inl (by assumption))); (case l => exact rfl))
  | ((with_reducible refine' i_lstF (by assumption) ?l ?p ?_); (case l => exact rfl); (case p => walk_at "ima"); intro _ _ _ _ _)
  | ((with_reducible refine i_d0F (by assumption) ?_); intro _ _ _ _ _)
  | ((with_reducible refine' i_d1F (by assumption) ?e ?p ?_); (case e => exact rfl); (case p => walk_at "im"); intro _ _ _ _ _)
  | ((with_reducible refine i_lst ?l ?_); (case l => exact rfl); intro _ _ _ _ _)
  | ((with_reducible refine' i_ix ?p ?e ?_); (case p => walk_at "im"); (case e => exact rfl); intro _ _; (try dsimp only [vOf]))
  | ((with_reducible refine' i_len ?p ?_); (case p => walk_at "im"))
  | ((with_reducible refine' i_gtup2 ?n ?p ?_); (case n => exact rfl); (case p => walk_at "im"); intro _ _ _ _; (try dsimp only [vOf]))
  | ((with_reducible refine' i_gtup3 ?n ?p ?_); (case n => exact rfl); (case p => walk_at "im"); intro _ _ _ _ _ _; (try dsimp only [vOf]))
  | ((with_reducible refine' r_ixL ?s ?e ?_); (case s => exact .inl (.inl (by walk_at "ls"))); (case e => exact rfl))
  | ((with_reducible refine' r_lenL ?s ?_); (case s => exact .inl (.inl (by walk_at "ls"))))
  | ((with_reducible refine' i_isiD ?p ?k ?_); (case p => walk_at "im"); (case k => constructor))
  | with_reducible refine r_fz ?_
  | with_reducible refine r_rev ?_
  | with_reducible refine r_revL ?_
  | ((with_reducible refine' i_rev ?p ?_); (case p => walk_at "im"); intro _ _ _ _)
  | with_reducible refine r_chain ?_
  | with_reducible refine r_allG ?_
  | with_reducible refine r_sumG ?_
  | with_reducible refine r_tupG ?_
  | with_reducible refine r_zipT ?_
  | ((with_reducible refine' i_slT ?p ?_); (case p => walk_at "im"); intro _ _ _ _))
local macro_rules | `(tactic| walk_at "r1") => `(tactic| first
  | with_reducible refine r_parS3 ?_
  | with_reducible refine r_par3 ?_)
local macro_rules | `(tactic| walk_at "r1") => `(tactic| first
  | ((with_reducible refine y_takeB ?p ?a ?b ?_); (case p => walk_at "pu"); (case a => first | decide | omega); (case b => first | decide | omega); intro _ _ _ _ _ _))
local macro_rules | `(tactic| walk_at "r1") => `(tactic| first
  | ((with_reducible refine r_divP ?c ?_); (case c => first | assumption | decide | omega)))
section
variable {P : Program} {w : World} {K : PySem.W.Frag} {mg : Str → Option Value} {base : Heap} {f : Addr} {fd : FuncData}
abbrev s_is_whole : Stmt := top 8
abbrev N_is_whole : List Str := ["thing"]
abbrev P_is_whole : List Str := ["thing"]
theorem sc_is_whole : FnScope N_is_whole P_is_whole (defScope s_is_whole) := ⟨rfl, rfl, rfl, by decide +kernel, rfl, by decide +kernel, by decide +kernel⟩
theorem ok_is_whole (F : Fun K "is_whole" "is_whole" s_is_whole f fd) (T : Nob mg) : FnOk P w K mg base CX0 1 f fd P_is_whole (spB1 K isWh) := by
  refine F.ok sc_is_whole (fun vs H Q E h => ?_) (fun cdv A outer s H vs Q E hr h => ?_)
  · obtain ⟨v, d, rfl, _⟩ := h; rfl
  · obtain ⟨v, d, rfl, hd, k⟩ := h
    refine ⟨_, (pss_one (ps_ret (pe_and (pe_callB (call_isiS (K := K)) (by rfl) T.isinstance (by decide +kernel) (pa_Name (pv 0) (pa_Name (pe_bltn (v := .ty "int") (by rfl) T.int (by decide +kernel) rfl) pa_nil))) (pe_one (pe_not (pe_callB (call_isiS (K := K)) (by rfl) T.isinstance (by decide +kernel) (pa_Name (pv 0) (pa_Name (pe_bltn (v := .ty "bool") (by rfl) T.bool (by decide +kernel) rfl) pa_nil)))))))), ?_⟩
    cases hd <;> (walk_at "rr"; exact k H (Ch.refl H))
abbrev s_is_whole_within : Stmt := top 9
abbrev N_is_whole_within : List Str := ["thing", "least", "most"]
abbrev P_is_whole_within : List Str := ["thing", "least", "most"]
theorem sc_is_whole_within : FnScope N_is_whole_within P_is_whole_within (defScope s_is_whole_within) := ⟨rfl, rfl, rfl, by decide +kernel, rfl, by decide +kernel, by decide +kernel⟩
theorem ok_is_whole_within (F : Fun K "is_whole_within" "is_whole_within" s_is_whole_within f fd) (T : Nob mg) (c_is_whole : Cal P w K mg base CX0 "is_whole" 1 P_is_whole (spB1 K isWh)) : FnOk P w K mg base CX0 2 f fd P_is_whole_within (spWithin K) := by
  refine F.ok sc_is_whole_within (fun vs H Q E h => ?_) (fun cdv A outer s H vs Q E hr h => ?_)
  · obtain ⟨v, d, lo, hi, rfl, _⟩ := h; rfl
  · obtain ⟨v, d, lo, hi, rfl, hd, k⟩ := h
    refine ⟨_, (pss_one (ps_ret (pe_and (pe_cal c_is_whole hr rfl pass0 (pa_Name (pv 0) pa_nil)) (pe_one (pe_chain op_le op_le (pv 1) (pv 0) (pv 2)))))), ?_⟩
    walk_at "rr"
    refine y_b1 hd fun H1 c1 => ?_
    cases hw : isWh d with
    | false =>
      walk_at "rr"
      have e : within d lo hi = false := by cases d <;> first | rfl | cases hw
      rw [← e]; exact k H1 c1
    | true =>
      obtain ⟨i, rfl⟩ := isWh_iff hw
      obtain rfl := hd.int_eq
      walk_at "rr"
      refine ite2 (fun h1 => ?_) (fun h1 => ?_)
      · walk_at "rr"
        have := k H1 c1
        rw [show within (.int i) lo hi = decide (i ≤ hi) by show (decide (lo ≤ i) && decide (i ≤ hi)) = _; rw [h1, Bool.true_and]] at this
        exact this
      · have := k H1 c1
        rw [show within (.int i) lo hi = false by show (decide (lo ≤ i) && decide (i ≤ hi)) = _; rw [Bool.eq_false_iff.mpr h1, Bool.false_and]] at this
        exact this
abbrev s_is_pair : Stmt := top 10
abbrev N_is_pair : List Str := ["thing"]
abbrev P_is_pair : List Str := ["thing"]
theorem sc_is_pair : FnScope N_is_pair P_is_pair (defScope s_is_pair) := ⟨rfl, rfl, rfl, by decide +kernel, rfl, by decide +kernel, by decide +kernel⟩
theorem ok_is_pair (F : Fun K "is_pair" "is_pair" s_is_pair f fd) (T : Nob mg) : FnOk P w K mg base CX0 1 f fd P_is_pair (spB1 K isPr) := by
  refine F.ok sc_is_pair (fun vs H Q E h => ?_) (fun cdv A outer s H vs Q E hr h => ?_)
  · obtain ⟨v, d, rfl, _⟩ := h; rfl
  · obtain ⟨v, d, rfl, hd, k⟩ := h
    refine ⟨_, (pss_one (ps_ret (pe_and (pe_callB (call_isiS (K := K)) (by rfl) T.isinstance (by decide +kernel) (pa_Name (pv 0) (pa_Name (pe_bltn (v := .ty "tuple") (by rfl) T.tuple (by decide +kernel) rfl) pa_nil))) (pe_one (pe_cmpR (opEqS (K := K) hr.units) (pe_callB (callLenS (K := K)) (by rfl) T.len (by decide +kernel) (pa_Name (pv 0) pa_nil)) pe_int (nomark _)))))), ?_⟩
    have hd' := hd
    cases hd with
    | tup s al =>
      walk_at "rr"
      rename_i ds
      rw [show decide ((ds.length : Int) = 2) = decide (ds.length = 2) from decide_eq_decide.mpr (by omega)]
      exact k H (Ch.refl H)
    | _ => walk_at "rr"; exact k H (Ch.refl H)
abbrev s_common_divisor : Stmt := top 11
abbrev N_common_divisor : List Str := ["one", "other"]
abbrev P_common_divisor : List Str := ["one", "other"]
theorem sc_common_divisor : FnScope N_common_divisor P_common_divisor (defScope s_common_divisor) := ⟨rfl, rfl, rfl, by decide +kernel, rfl, by decide +kernel, by decide +kernel⟩
theorem ok_common_divisor (F : Fun K "common_divisor" "common_divisor" s_common_divisor f fd) (T : Nob mg) : FnOk P w K mg base CX0 1 f fd P_common_divisor (spGcd) := by
  refine F.ok sc_common_divisor (fun vs H Q E h => ?_) (fun cdv A outer s H vs Q E hr h => ?_)
  · obtain ⟨a, b, rfl, _⟩ := h; rfl
  · obtain ⟨a, b, rfl, k⟩ := h
    refine ⟨_, (pss_cons (ps_while PassesOwn.never (pt_cmpR (opNeS (K := K) hr.units) (pv 1) pe_int (nomark _)) (pss_one (ps_par (i := 0) (j := 1) (by rfl) sc_common_divisor.nd rfl rfl (by decide) rfl rfl (pa_Name (pv 1) (pa_BinOp (pe_op op_modN (pv 0) (pv 1)) pa_nil)) (by rfl))))
      (pss_one (ps_ret (pe_callB call_abs (by rfl) T.abs (by decide +kernel) (pa_Name (pv 0) pa_nil))))), ?_⟩
    walk_at "rr"
    refine r_while (fun x : Int × Int => [some (.int x.1), some (.int x.2)]) (fun x => Int.gcd x.1 x.2 = Int.gcd a b) (fun x => x.2.natAbs) (a, b) rfl rfl (fun x hx => ?_)
    walk_at "rr"
    refine ite2 (fun h1 => ?_) (fun h1 => ?_)
    · refine r_turn (a := x) rfl ?_
      have h2 : x.2 ≠ 0 := by simpa using h1
      walk_at "rr"
      refine r_modN h2 ?_
      walk_at "rr"
      refine r_wend (a' := (x.2, x.1.fmod x.2)) rfl ?_ ?_
      · exact (gcd_step _ _).trans hx
      · exact fmod_less _ h2
    · have h2 : x.2 = 0 := by simpa using h1
      walk_at "rr"
      rw [← hx, h2, Int.gcd_zero] at k
      rw [show (if x.1 < 0 then -x.1 else x.1) = (x.1.natAbs : Int) by split <;> omega]
      exact k
end


section
variable {P : Program} {w : World} {K : PySem.W.Frag} {mg : Str → Option Value} {base : Heap} {f : Addr} {fd : FuncData}
abbrev s_is_fraction : Stmt := top 12
abbrev N_is_fraction : List Str := ["thing", "top", "bottom"]
abbrev P_is_fraction : List Str := ["thing"]
theorem sc_is_fraction : FnScope N_is_fraction P_is_fraction (defScope s_is_fraction) := ⟨rfl, rfl, rfl, by decide +kernel, rfl, by decide +kernel, by decide +kernel⟩
theorem ok_is_fraction (F : Fun K "is_fraction" "is_fraction" s_is_fraction f fd) (T : Nob mg) (c_is_pair : Cal P w K mg base CX0 "is_pair" 1 P_is_pair (spB1 K isPr)) (c_is_whole : Cal P w K mg base CX0 "is_whole" 1 P_is_whole (spB1 K isWh)) (c_common_divisor : Cal P w K mg base CX0 "common_divisor" 1 P_common_divisor (spGcd)) : FnOk P w K mg base CX0 2 f fd P_is_fraction (spB1 K isFq) := by
  refine F.ok sc_is_fraction (fun vs H Q E h => ?_) (fun cdv A outer s H vs Q E hr h => ?_)
  · obtain ⟨v, d, rfl, _⟩ := h; rfl
  · obtain ⟨v, d, rfl, hd, k⟩ := h
    refine ⟨_, (pss_cons (ps_if (pt_not (pt_val (pe_cal c_is_pair hr rfl pass0 (pa_Name (pv 0) pa_nil)))) (pss_one (ps_ret pe_bl)) pss_nil)
      (pss_cons (ps_asg (pv 0) (pg_seqS (K := K) (n := 2) rfl (pgs_cons (pg_name (i := 1) sc_is_fraction.nd rfl (Or.inl rfl)) (pgs_cons (pg_name (i := 2) sc_is_fraction.nd rfl (Or.inl rfl)) pgs_nil))))
      (pss_cons (ps_if (PW.pt (pw_or (pt_not (pt_val (pe_cal c_is_whole hr rfl pass0 (pa_Name (pv 1) pa_nil)))) (pw_or1 (pt_not (pt_val (pe_cal c_is_whole hr rfl pass0 (pa_Name (pv 2) pa_nil))))))) (pss_one (ps_ret pe_bl)) pss_nil)
      (pss_one (ps_ret (pe_and (pe_cmpR op_ge (pv 2) pe_int (nomark _)) (pe_one (pe_cmpR (opEqS (K := K) hr.units) (pe_cal c_common_divisor hr rfl pass0 (pa_Name (pv 1) (pa_Name (pv 2) pa_nil))) pe_int (nomark _))))))))), ?_⟩
    walk_at "rr"
    refine y_b1 hd fun H1 c1 => ?_
    cases hp : isPr d with
    | false =>
      walk_at "rr"
      rw [← isFq_no hp]
      exact k H1 c1
    | true =>
      obtain ⟨a, b, rfl⟩ := isPr_iff hp
      walk_at "rr"
      rename_i u1 u2 i1 i2
      refine y_b1 i1 fun H2 c2 => ?_
      cases ha : isWh a with
      | false =>
        walk_at "rr"
        rw [← isFq_no2 (b := b) (.inl ha)]
        exact k H2 (by walk_at "ch")
      | true =>
        walk_at "rr"
        refine y_b1 (i2.ch c2) fun H3 c3 => ?_
        cases hb : isWh b with
        | false =>
          walk_at "rr"
          rw [← isFq_no2 (a := a) (.inr hb)]
          exact k H3 (by walk_at "ch")
        | true =>
          obtain ⟨t, rfl⟩ := isWh_iff ha
          obtain ⟨m, rfl⟩ := isWh_iff hb
          walk_at "rr"
          have kk := k H3 (by walk_at "ch")
          refine ite2 (fun h1 => ?_) (fun h1 => ?_)
          · walk_at "rr"
            rw [show isFq (.tuple [.int t, .int m]) = decide (Int.gcd t m = 1) by show (decide (1 ≤ m) && decide (Int.gcd t m = 1)) = _; rw [h1, Bool.true_and]] at kk
            rw [show decide (((Int.gcd t m : Nat) : Int) = 1) = decide (Int.gcd t m = 1) from decide_eq_decide.mpr (by omega)]
            exact kk
          · walk_at "rr"
            rw [show isFq (.tuple [.int t, .int m]) = false by show (decide (1 ≤ m) && decide (Int.gcd t m = 1)) = _; rw [Bool.eq_false_iff.mpr h1, Bool.false_and]] at kk
            exact kk
abbrev s_is_part : Stmt := top 19
abbrev N_is_part : List Str := ["thing"]
abbrev P_is_part : List Str := ["thing"]
theorem sc_is_part : FnScope N_is_part P_is_part (defScope s_is_part) := ⟨rfl, rfl, rfl, by decide +kernel, rfl, by decide +kernel, by decide +kernel⟩
theorem ok_is_part (F : Fun K "is_part" "is_part" s_is_part f fd) (T : Nob mg) (c_is_fraction : Cal P w K mg base CX0 "is_fraction" 2 P_is_fraction (spB1 K isFq)) : FnOk P w K mg base CX0 3 f fd P_is_part (spB1 K isPt) := by
  refine F.ok sc_is_part (fun vs H Q E h => ?_) (fun cdv A outer s H vs Q E hr h => ?_)
  · obtain ⟨v, d, rfl, _⟩ := h; rfl
  · obtain ⟨v, d, rfl, hd, k⟩ := h
    refine ⟨_, (pss_one (ps_ret (pe_and (pe_cal c_is_fraction hr rfl pass0 (pa_Name (pv 0) pa_nil)) (pe_one (pe_cmpR op_ge (pe_ix (ixS (K := K)) (pv 0) pe_int (fun _ _ => rfl)) pe_int (nomark _)))))), ?_⟩
    walk_at "rr"
    refine y_b1 hd fun H1 c1 => ?_
    have kk := k H1 c1
    unfold isPt at kk
    cases hf : isFq d with
    | false =>
      walk_at "rr"
      rw [hf, Bool.false_and] at kk
      exact kk
    | true =>
      obtain ⟨r, rfl⟩ := isFq_iff hf
      walk_at "rr"
      rw [hf, Bool.true_and] at kk
      exact kk
abbrev s_is_liquor : Stmt := top 20
abbrev N_is_liquor : List Str := ["thing"]
abbrev P_is_liquor : List Str := ["thing"]
theorem sc_is_liquor : FnScope N_is_liquor P_is_liquor (defScope s_is_liquor) := ⟨rfl, rfl, rfl, by decide +kernel, rfl, by decide +kernel, by decide +kernel⟩
theorem ok_is_liquor (F : Fun K "is_liquor" "is_liquor" s_is_liquor f fd) (T : Nob mg) (c_is_pair : Cal P w K mg base CX0 "is_pair" 1 P_is_pair (spB1 K isPr)) (c_is_part : Cal P w K mg base CX0 "is_part" 3 P_is_part (spB1 K isPt)) : FnOk P w K mg base CX0 4 f fd P_is_liquor (spB1 K isLq) := by
  refine F.ok sc_is_liquor (fun vs H Q E h => ?_) (fun cdv A outer s H vs Q E hr h => ?_)
  · obtain ⟨v, d, rfl, _⟩ := h; rfl
  · obtain ⟨v, d, rfl, hd, k⟩ := h
    refine ⟨_, (pss_one (ps_ret (pe_and (pe_cal c_is_pair hr rfl pass0 (pa_Name (pv 0) pa_nil)) (pe_and (pe_cal c_is_part hr rfl pass0 (pa_Subscript (pe_ix (ixS (K := K)) (pv 0) pe_int (fun _ _ => rfl)) pa_nil)) (pe_one (pe_cal c_is_part hr rfl pass0 (pa_Subscript (pe_ix (ixS (K := K)) (pv 0) pe_int (fun _ _ => rfl)) pa_nil))))))), ?_⟩
    walk_at "rr"
    refine y_b1 hd fun H1 c1 => ?_
    cases hp : isPr d with
    | false =>
      walk_at "rr"
      rw [← isLq_no hp]
      exact k H1 c1
    | true =>
      obtain ⟨a, b, rfl⟩ := isPr_iff hp
      walk_at "rr"
      refine y_b1 (by assumption) fun H2 c2 => ?_
      cases ha : isPt a with
      | false =>
        walk_at "rr"
        have kk := k H2 (by walk_at "ch")
        rw [show isLq (.tuple [a, b]) = false by show (isPt a && isPt b) = false; rw [ha, Bool.false_and]] at kk
        exact kk
      | true =>
        walk_at "rr"
        refine y_b1 (by assumption) fun H3 c3 => ?_
        have kk := k H3 (by walk_at "ch")
        rw [show isLq (.tuple [a, b]) = isPt b by show (isPt a && isPt b) = isPt b; rw [ha, Bool.true_and]] at kk
        exact kk
abbrev s_check_liquor : Stmt := top 21
abbrev N_check_liquor : List Str := ["thing"]
abbrev P_check_liquor : List Str := ["thing"]
theorem sc_check_liquor : FnScope N_check_liquor P_check_liquor (defScope s_check_liquor) := ⟨rfl, rfl, rfl, by decide +kernel, rfl, by decide +kernel, by decide +kernel⟩
theorem ok_check_liquor {C_NoLiquor : Addr} (F : Fun K "check_liquor" "check_liquor" s_check_liquor f fd) (T : Nob mg) (c_NoLiquor : ExcK K mg "NoLiquor" C_NoLiquor) (c_is_liquor : Cal P w K mg base CX0 "is_liquor" 4 P_is_liquor (spB1 K isLq)) : FnOk P w K mg base (CXE P w) 5 f fd P_check_liquor (spChk K isLq C_NoLiquor) := by
  refine F.okE sc_check_liquor (fun vs H Q E h => ?_) (fun cdv A outer s H vs Q E hr h => ?_)
  · obtain ⟨v, d, rfl, _⟩ := h; rfl
  · obtain ⟨v, d, rfl, hd, kE, k⟩ := h
    refine ⟨_, (pss_one (ps_if (pt_not (pt_val (pe_cal c_is_liquor hr rfl pass0 (pa_Name (pv 0) pa_nil)))) (pss_one (ps_raise (by rfl) c_NoLiquor.mg c_NoLiquor.ex (pa_Constant pe_str pa_nil))) pss_nil)), ?_⟩
    walk_at "rr"
    refine y_b1 hd fun H1 c1 => ?_
    cases hp : isLq d with
    | false =>
      walk_at "rr"
      exact ⟨by show 1 ≤ sizeLine; decide, kE hp H1 c1⟩
    | true =>
      walk_at "rr"
      exact k hp H1 c1
end


section
variable {P : Program} {w : World} {K : PySem.W.Frag} {mg : Str → Option Value} {base : Heap} {f : Addr} {fd : FuncData}
abbrev s_is_row : Stmt := top 25
abbrev N_is_row : List Str := ["thing"]
abbrev P_is_row : List Str := ["thing"]
theorem sc_is_row : FnScope N_is_row P_is_row (defScope s_is_row) := ⟨rfl, rfl, rfl, by decide +kernel, rfl, by decide +kernel, by decide +kernel⟩
theorem ok_is_row (F : Fun K "is_row" "is_row" s_is_row f fd) (T : Nob mg) (c_is_pair : Cal P w K mg base CX0 "is_pair" 1 P_is_pair (spB1 K isPr)) (c_is_whole_within : Cal P w K mg base CX0 "is_whole_within" 2 P_is_whole_within (spWithin K)) : FnOk P w K mg base CX0 3 f fd P_is_row (spB1 K isRw) := by
  refine F.ok sc_is_row (fun vs H Q E h => ?_) (fun cdv A outer s H vs Q E hr h => ?_)
  · obtain ⟨v, d, rfl, _⟩ := h; rfl
  · obtain ⟨v, d, rfl, hd, k⟩ := h
    refine ⟨_, (pss_one (ps_ret (pe_and (pe_cal c_is_pair hr rfl pass0 (pa_Name (pv 0) pa_nil)) (pe_and (pe_cal c_is_whole_within hr rfl pass0 (pa_Subscript (pe_ix (ixS (K := K)) (pv 0) pe_int (fun _ _ => rfl)) (pa_Constant pe_int (pa_Constant pe_int pa_nil)))) (pe_one (pe_cal c_is_whole_within hr rfl pass0 (pa_Subscript (pe_ix (ixS (K := K)) (pv 0) pe_int (fun _ _ => rfl)) (pa_Constant pe_int (pa_Constant pe_int pa_nil))))))))), ?_⟩
    walk_at "rr"
    refine y_b1 hd fun H1 c1 => ?_
    cases hp : isPr d with
    | false =>
      walk_at "rr"
      rw [← isRw_no hp]
      exact k H1 c1
    | true =>
      obtain ⟨a, b, rfl⟩ := isPr_iff hp
      walk_at "rr"
      refine y_within (by assumption) fun H2 c2 => ?_
      cases ha : within a 0 10 with
      | false =>
        walk_at "rr"
        have kk := k H2 (by walk_at "ch")
        rw [show isRw (.tuple [a, b]) = false by show (within a 0 10 && within b 0 10) = false; rw [ha, Bool.false_and]] at kk
        exact kk
      | true =>
        walk_at "rr"
        refine y_within (by assumption) fun H3 c3 => ?_
        have kk := k H3 (by walk_at "ch")
        rw [show isRw (.tuple [a, b]) = within b 0 10 by show (within a 0 10 && within b 0 10) = _; rw [ha, Bool.true_and]] at kk
        exact kk
abbrev s_tenths : Stmt := top 26
abbrev N_tenths : List Str := ["rows", "part", "row"]
abbrev P_tenths : List Str := ["rows", "part"]
theorem sc_tenths : FnScope N_tenths P_tenths (defScope s_tenths) := ⟨rfl, rfl, rfl, by decide +kernel, rfl, by decide +kernel, by decide +kernel⟩
theorem ok_tenths (F : Fun K "tenths" "tenths" s_tenths f fd) (T : Nob mg) {c_ t_ : Addr} (g_c : fd.code = .ref c_) (g_t : (c_, t_) ∈ base.life.ids) (g_h : PySem.W.CodeHd base c_ t_) (g_b : BM mg base) : FnOk P w K mg base CX0 8 f fd P_tenths (spTenths K) := by
  refine F.okT g_c sc_tenths (fun vs H Q E h => ?_) (fun A outer s H vs Q E hr h => ?_)
  · obtain ⟨v, ds, c, rfl, _⟩ := h; rfl
  · obtain ⟨v, ds, c, rfl, hv, hrw, hn, hc, k⟩ := h
    refine ⟨_, (pss_one (ps_ret (pe_sumG hr ⟨rfl, g_t, g_h, g_b⟩ rfl (by rfl) T.sum sc_tenths.nd (pi_seqS (K := K) (pv 0)) (blkOk_by (own := [("row", 2)]) (N := N_tenths) (sc := defScope s_tenths) (by decide +kernel)) (fun _ _ _ _ _ _ _ _ _ hr => (pg_name (i := 2) sc_tenths.nd rfl (Or.inl rfl))) (fun _ _ _ _ _ _ _ _ _ hr => pts_nil) (fun _ _ _ _ _ _ _ _ _ hr => (pe_ix (ixS (K := K)) (pv 2) (pv 1) (fun _ _ => rfl)))))), ?_⟩
    walk_at "rr"
    refine r_iT ?_
    walk_at "rr"
    refine i_sumT (tnOf c) hv hn (fun d hd => ?_) (fun i d hd x H1 hx c1 N S hN => ?_) fun H1 c1 => k H1 c1
    · have := tnOf_bd (c := c) (hrw d hd)
      omega
    · obtain ⟨a, b, rfl, _⟩ := isRw_iff (hrw d (List.mem_of_getElem? hd))
      rcases hc with rfl | rfl <;> (walk_at "rr"; exact hN H1 (Ch.refl H1))
abbrev s_are_rows : Stmt := top 27
abbrev N_are_rows : List Str := ["thing", "row"]
abbrev P_are_rows : List Str := ["thing"]
theorem sc_are_rows : FnScope N_are_rows P_are_rows (defScope s_are_rows) := ⟨rfl, rfl, rfl, by decide +kernel, rfl, by decide +kernel, by decide +kernel⟩
theorem ok_are_rows (F : Fun K "are_rows" "are_rows" s_are_rows f fd) (T : Nob mg) {c_ t_ : Addr} (g_c : fd.code = .ref c_) (g_t : (c_, t_) ∈ base.life.ids) (g_h : PySem.W.CodeHd base c_ t_) (g_b : BM mg base) (c_is_row : Cal P w K mg base CX0 "is_row" 3 P_is_row (spB1 K isRw)) (c_tenths : Cal P w K mg base CX0 "tenths" 8 P_tenths (spTenths K)) : FnOk P w K mg base CX0 16 f fd P_are_rows (spB1 K areRw) := by
  refine F.okT g_c sc_are_rows (fun vs H Q E h => ?_) (fun A outer s H vs Q E hr h => ?_)
  · obtain ⟨v, d, rfl, _⟩ := h; rfl
  · obtain ⟨v, d, rfl, hd, k⟩ := h
    refine ⟨_, (pss_cons (ps_if (PW.pt (pw_or (pt_not (pt_val (pe_callB (call_isiS (K := K)) (by rfl) T.isinstance (by decide +kernel) (pa_Name (pv 0) (pa_Name (pe_bltn (v := .ty "tuple") (by rfl) T.tuple (by decide +kernel) rfl) pa_nil))))) (pw_or1 (pt_not (pt_chain op_le op_le pe_int (pe_callB (callLenS (K := K)) (by rfl) T.len (by decide +kernel) (pa_Name (pv 0) pa_nil)) pe_int))))) (pss_one (ps_ret pe_bl)) pss_nil)
      (pss_cons (ps_if (pt_not (pt_val (pe_allG hr ⟨rfl, g_t, g_h, g_b⟩ rfl (by rfl) T.all sc_are_rows.nd (pi_seqS (K := K) (pv 0)) (blkOk_by (own := [("row", 1)]) (N := N_are_rows) (sc := defScope s_are_rows) (by decide +kernel)) (fun _ _ _ _ _ _ _ _ _ hr => (pg_name (i := 1) sc_are_rows.nd rfl (Or.inl rfl))) (fun _ _ _ _ _ _ _ _ _ hr => pts_nil) (fun _ _ _ _ _ _ _ _ _ hr => (pe_cal c_is_row hr rfl pass0 (pa_Name (pv 1) pa_nil)))))) (pss_one (ps_ret pe_bl)) pss_nil)
      (pss_one (ps_ret (pe_and (pe_cmpR op_le (pe_cal c_tenths hr rfl pass0 (pa_Name (pv 0) (pa_Constant pe_int pa_nil))) pe_int (nomark _)) (pe_one (pe_cmpR op_le (pe_cal c_tenths hr rfl pass0 (pa_Name (pv 0) (pa_Constant pe_int pa_nil))) pe_int (nomark _)))))))), ?_⟩
    have hd' := hd
    cases hd with
    | @tup t xs ds s al =>
      walk_at "rr"
      refine ite2 (fun h1 => ?_) (fun h1 => ?_)
      · walk_at "rr"
        cases h2 : decide ((ds.length : Int) ≤ 8) with
        | false =>
          walk_at "rr"
          have h2 : ¬ ds.length ≤ 8 := fun z => of_decide_eq_false h2 (by omega)
          have kk := k H (Ch.refl H)
          rw [show areRw (.tuple ds) = false by simp [areRw, h2]] at kk
          exact kk
        | true =>
          have h2 : ds.length ≤ 8 := by have := of_decide_eq_true h2; omega
          have h1 : 1 ≤ ds.length := by have := of_decide_eq_true h1; omega
          walk_at "rr"
          refine r_iT ?_
          walk_at "rr"
          refine i_allT isRw hd' (fun i d hd x H1 hx c1 N S hN => ?_) fun H1 c1 => ?_
          · walk_at "rr"
            exact y_b1 hx fun H2 c2 => hN H2 c2
          · cases ha : ds.all isRw with
            | false =>
              walk_at "rr"
              have kk := k H1 c1
              rw [show areRw (.tuple ds) = false by simp only [areRw, ha]; simp] at kk
              exact kk
            | true =>
              have hr' := List.all_eq_true.mp ha
              walk_at "rr"
              refine y_tenths (hd'.ch c1) hr' (by omega) (.inl rfl) fun H2 c2 => ?_
              walk_at "rr"
              refine ite2 (fun h3 => ?_) (fun h3 => ?_)
              · walk_at "rr"
                refine y_tenths ((hd'.ch c1).ch c2) hr' (by omega) (.inr rfl) fun H3 c3 => ?_
                walk_at "rr"
                have kk := k H3 (by walk_at "ch")
                rw [show areRw (.tuple ds) = decide (tnD 1 ds ≤ 10) by simp only [areRw, ha]; rw [decide_eq_true h1, decide_eq_true h2, h3]; simp] at kk
                exact kk
              · walk_at "rr"
                have kk := k H2 (by walk_at "ch")
                rw [show areRw (.tuple ds) = false by simp only [areRw, ha]; rw [Bool.eq_false_iff.mpr h3]; simp] at kk
                exact kk
      · walk_at "rr"
        have h1 : ¬ 1 ≤ ds.length := fun z => h1 (decide_eq_true (by omega))
        have kk := k H (Ch.refl H)
        rw [show areRw (.tuple ds) = false by simp only [areRw]; rw [decide_eq_false h1]; simp] at kk
        exact kk
    | _ => walk_at "rr"; exact k H (Ch.refl H)
end


section
variable {P : Program} {w : World} {K : PySem.W.Frag} {mg : Str → Option Value} {base : Heap} {f : Addr} {fd : FuncData}
abbrev s_is_still : Stmt := top 28
abbrev N_is_still : List Str := ["thing"]
abbrev P_is_still : List Str := ["thing"]
theorem sc_is_still : FnScope N_is_still P_is_still (defScope s_is_still) := ⟨rfl, rfl, rfl, by decide +kernel, rfl, by decide +kernel, by decide +kernel⟩
theorem ok_is_still (F : Fun K "is_still" "is_still" s_is_still f fd) (T : Nob mg) (c_is_pair : Cal P w K mg base CX0 "is_pair" 1 P_is_pair (spB1 K isPr)) (c_are_rows : Cal P w K mg base CX0 "are_rows" 16 P_are_rows (spB1 K areRw)) (c_is_whole_within : Cal P w K mg base CX0 "is_whole_within" 2 P_is_whole_within (spWithin K)) : FnOk P w K mg base CX0 17 f fd P_is_still (spB1 K isSt) := by
  refine F.ok sc_is_still (fun vs H Q E h => ?_) (fun cdv A outer s H vs Q E hr h => ?_)
  · obtain ⟨v, d, rfl, _⟩ := h; rfl
  · obtain ⟨v, d, rfl, hd, k⟩ := h
    refine ⟨_, (pss_one (ps_ret (pe_and (pe_cal c_is_pair hr rfl pass0 (pa_Name (pv 0) pa_nil)) (pe_and (pe_cal c_are_rows hr rfl pass0 (pa_Subscript (pe_ix (ixS (K := K)) (pv 0) pe_int (fun _ _ => rfl)) pa_nil)) (pe_one (pe_cal c_is_whole_within hr rfl pass0 (pa_Subscript (pe_ix (ixS (K := K)) (pv 0) pe_int (fun _ _ => rfl)) (pa_Constant pe_int (pa_Constant pe_int pa_nil))))))))), ?_⟩
    walk_at "rr"
    refine y_b1 hd fun H1 c1 => ?_
    cases hp : isPr d with
    | false =>
      walk_at "rr"
      rw [← isSt_no hp]
      exact k H1 c1
    | true =>
      obtain ⟨a, b, rfl⟩ := isPr_iff hp
      walk_at "rr"
      refine y_b1 (by assumption) fun H2 c2 => ?_
      cases ha : areRw a with
      | false =>
        walk_at "rr"
        have kk := k H2 (by walk_at "ch")
        rw [show isSt (.tuple [a, b]) = false by show (areRw a && within b 0 9) = false; rw [ha, Bool.false_and]] at kk
        exact kk
      | true =>
        walk_at "rr"
        refine y_within (by assumption) fun H3 c3 => ?_
        have kk := k H3 (by walk_at "ch")
        rw [show isSt (.tuple [a, b]) = within b 0 9 by show (areRw a && within b 0 9) = _; rw [ha, Bool.true_and]] at kk
        exact kk
abbrev s_check_still : Stmt := top 29
abbrev N_check_still : List Str := ["still"]
abbrev P_check_still : List Str := ["still"]
theorem sc_check_still : FnScope N_check_still P_check_still (defScope s_check_still) := ⟨rfl, rfl, rfl, by decide +kernel, rfl, by decide +kernel, by decide +kernel⟩
theorem ok_check_still {C_NoStill : Addr} (F : Fun K "check_still" "check_still" s_check_still f fd) (T : Nob mg) (c_NoStill : ExcK K mg "NoStill" C_NoStill) (c_is_still : Cal P w K mg base CX0 "is_still" 17 P_is_still (spB1 K isSt)) : FnOk P w K mg base (CXE P w) 18 f fd P_check_still (spChk K isSt C_NoStill) := by
  refine F.okE sc_check_still (fun vs H Q E h => ?_) (fun cdv A outer s H vs Q E hr h => ?_)
  · obtain ⟨v, d, rfl, _⟩ := h; rfl
  · obtain ⟨v, d, rfl, hd, kE, k⟩ := h
    refine ⟨_, (pss_one (ps_if (pt_not (pt_val (pe_cal c_is_still hr rfl pass0 (pa_Name (pv 0) pa_nil)))) (pss_one (ps_raise (by rfl) c_NoStill.mg c_NoStill.ex (pa_Constant pe_str pa_nil))) pss_nil)), ?_⟩
    walk_at "rr"
    refine y_b1 hd fun H1 c1 => ?_
    cases hp : isSt d with
    | false =>
      walk_at "rr"
      exact ⟨by show 1 ≤ sizeLine; decide, kE hp H1 c1⟩
    | true =>
      walk_at "rr"
      exact k hp H1 c1
abbrev s_is_cut : Stmt := top 30
abbrev N_is_cut : List Str := ["still", "thing", "many"]
abbrev P_is_cut : List Str := ["still", "thing"]
theorem sc_is_cut : FnScope N_is_cut P_is_cut (defScope s_is_cut) := ⟨rfl, rfl, rfl, by decide +kernel, rfl, by decide +kernel, by decide +kernel⟩
theorem ok_is_cut {C_NoStill : Addr} (F : Fun K "is_cut" "is_cut" s_is_cut f fd) (T : Nob mg) (c_check_still : Cal P w K mg base (CXE P w) "check_still" 18 P_check_still (spChk K isSt C_NoStill)) (c_is_pair : Cal P w K mg base CX0 "is_pair" 1 P_is_pair (spB1 K isPr)) (c_is_whole_within : Cal P w K mg base CX0 "is_whole_within" 2 P_is_whole_within (spWithin K)) : FnOk P w K mg base (CXE P w) 19 f fd P_is_cut (spCut K C_NoStill) := by
  refine F.okE sc_is_cut (fun vs H Q E h => ?_) (fun cdv A outer s H vs Q E hr h => ?_)
  · obtain ⟨v1, v2, d, e, rfl, _⟩ := h; rfl
  · obtain ⟨v1, v2, d, e, rfl, h1, h2, kE, k⟩ := h
    refine ⟨_, (pss_cons (ps_expr (pe_cal c_check_still hr rfl passE (pa_Name (pv 0) pa_nil)))
      (pss_cons (ps_set_Call (i := 2) sc_is_cut.nd rfl (Or.inl rfl) (pe_callB (callLenS (K := K)) (by rfl) T.len (by decide +kernel) (pa_Subscript (pe_ix (ixS (K := K)) (pv 0) pe_int (fun _ _ => rfl)) pa_nil)))
      (pss_one (ps_ret (pe_and (pe_cal c_is_pair hr rfl pass0 (pa_Name (pv 1) pa_nil)) (pe_and (pe_cal c_is_whole_within hr rfl pass0 (pa_Subscript (pe_ix (ixS (K := K)) (pv 1) pe_int (fun _ _ => rfl)) (pa_Constant pe_int (pa_Name (pv 2) pa_nil)))) (pe_one (pe_cal c_is_whole_within hr rfl pass0 (pa_Subscript (pe_ix (ixS (K := K)) (pv 1) pe_int (fun _ _ => rfl)) (pa_Subscript (pe_ix (ixS (K := K)) (pv 1) pe_int (fun _ _ => rfl)) (pa_Name (pv 2) pa_nil))))))))))), ?_⟩
    walk_at "rr"
    refine ⟨_, _, rfl, h1, kE, fun hs H1 c1 => ?_⟩
    obtain ⟨ds, loss, S⟩ := isSt_iff hs
    have hm := k hs
    obtain rfl := S.eq
    rw [show rowsOf (PyData.tuple [PyData.tuple ds, PyData.int loss]) = ds from rfl] at hm
    walk_at "rr"
    refine y_b1 (by walk_at "im") fun H2 c2 => ?_
    cases hp : isPr e with
    | false =>
      walk_at "rr"
      have kk := hm H2 (by walk_at "ch")
      rw [isCt_no hp] at kk
      exact kk
    | true =>
      obtain ⟨a, b, rfl⟩ := isPr_iff hp
      walk_at "rr"
      refine y_within (by assumption) fun H3 c3 => ?_
      have kk := hm H3 (by walk_at "ch")
      rw [isCt_pair] at kk
      cases ha : within a 0 ds.length with
      | false =>
        walk_at "rr"
        rw [ha, Bool.false_and] at kk
        exact kk
      | true =>
        cases a with
        | int i =>
          walk_at "rr"
          refine y_within (by assumption) fun H4 c4 => ?_
          have kk := hm H4 (by walk_at "ch")
          rw [isCt_pair, ha, Bool.true_and] at kk
          exact kk
        | _ => cases ha
abbrev s_check_cut : Stmt := top 31
abbrev N_check_cut : List Str := ["still", "cut"]
abbrev P_check_cut : List Str := ["still", "cut"]
theorem sc_check_cut : FnScope N_check_cut P_check_cut (defScope s_check_cut) := ⟨rfl, rfl, rfl, by decide +kernel, rfl, by decide +kernel, by decide +kernel⟩
def spChkCut (K : PySem.W.Frag) : Sp := fun vs H Q _ => ∃ v1 v2 d e, vs = [v1, v2] ∧ Im K H v1 d ∧ Im K H v2 e ∧ isSt d = true ∧ isCt (rowsOf d).length e = true ∧ ∀ H', Ch none H H' → Q .non H'
theorem ok_check_cut {C_NoStill : Addr} (F : Fun K "check_cut" "check_cut" s_check_cut f fd) (T : Nob mg) (c_is_cut : Cal P w K mg base (CXE P w) "is_cut" 19 P_is_cut (spCut K C_NoStill)) : FnOk P w K mg base CX0 20 f fd P_check_cut (spChkCut K) := by
  refine F.ok sc_check_cut (fun vs H Q E h => ?_) (fun cdv A outer s H vs Q E hr h => ?_)
  · obtain ⟨v1, v2, d, e, rfl, _⟩ := h; rfl
  · obtain ⟨v1, v2, d, e, rfl, h1, h2, hs, hc, k⟩ := h
    refine ⟨_, (pss_one (ps_if (pt_not (pt_val (pe_cal c_is_cut hr rfl passE0 (pa_Name (pv 0) (pa_Name (pv 1) pa_nil))))) (pss_one ps_never) pss_nil)), ?_⟩
    walk_at "rr"
    refine y_cut h1 h2 hs fun H1 c1 => ?_
    rw [hc]
    walk_at "rr"
    exact k H1 c1
end


section
variable {P : Program} {w : World} {K : PySem.W.Frag} {mg : Str → Option Value} {base : Heap} {f : Addr} {fd : FuncData}
abbrev s_falls : Stmt := top 33
abbrev N_falls : List Str := ["still", "rows", "row", "at", "ahead", "other"]
abbrev P_falls : List Str := ["still"]
theorem sc_falls : FnScope N_falls P_falls (defScope s_falls) := ⟨rfl, rfl, rfl, by decide +kernel, rfl, by decide +kernel, by decide +kernel⟩
def fil (ds : List PyData) : List PyData := ds.filter nzR
def spFalls (K : PySem.W.Frag) : Sp := fun vs H Q _ => ∃ (v : V) (d : PyData) (ds : List PyData) (loss : Int), vs = [v] ∧ Im K H v d ∧ St1 d ds loss ∧ ∀ H', Ch none H H' → Q (.bl (fallsL (fil ds))) H'
theorem y_falls {K : PySem.W.Frag} {H : Hp} {Q : VK} {E : XK} {v : V} {d : PyData} {ds : List PyData} {loss : Int} (hv : Im K H v d) (S : St1 d ds loss) (k : ∀ H', Ch none H H' → Q (.bl (fallsL (fil ds))) H') : spFalls K ([v] ++ []) H Q E := ⟨v, d, ds, loss, rfl, hv, S, k⟩
theorem fil_take {ds : List PyData} {i : Nat} {d : PyData} (h : ds[i]? = some d) : (ds.take (i + 1)).filter nzR = (ds.take i).filter nzR ++ (if nzR d = true then [d] else []) := by
  obtain ⟨hi, e⟩ := List.getElem?_eq_some_iff.mp h
  rw [List.take_succ_eq_append_getElem hi, List.filter_append, e]
  congr 1
  simp [List.filter_cons]
theorem row_bd {e : PyData} (h : isRw e = true) : ∃ a b : Int, e = .tuple [.int a, .int b] ∧ Bd 1000000 a ∧ Bd 1000000 b := by
  obtain ⟨a, b, rfl, a0, a1, b0, b1⟩ := isRw_iff h
  have f : ∀ x : Int, 0 ≤ x → x ≤ 10 → Bd 1000000 x := fun x h1 h2 => Bd.mono (n := 4) (by show x.natAbs < 2 ^ 4; omega) (by decide)
  exact ⟨a, b, rfl, f a a0 a1, f b b0 b1⟩
theorem ok_falls {C_NoStill : Addr} (F : Fun K "falls" "falls" s_falls f fd) (T : Nob mg) (c_check_still : Cal P w K mg base (CXE P w) "check_still" 18 P_check_still (spChk K isSt C_NoStill)) : FnOk P w K mg base CX0 19 f fd P_falls (spFalls K) := by
  refine F.ok sc_falls (fun vs H Q E h => ?_) (fun cdv A outer s H vs Q E hr h => ?_)
  · obtain ⟨v, d, ds, loss, rfl, _⟩ := h; rfl
  · obtain ⟨v, d, ds, loss, rfl, hv, S, hk⟩ := h
    refine ⟨_, (pss_cons (ps_expr (pe_cal c_check_still hr rfl passE0 (pa_Name (pv 0) pa_nil)))
      (pss_cons (ps_setLc (i := 1) (own := [("row", 2)]) (by rfl) sc_falls.nd rfl rfl (sw_true rfl rfl rfl (by decide +kernel)) (pi_seqS (K := K) (pe_ix (ixS (K := K)) (pv 0) pe_int (fun _ _ => rfl))) (blkOk_by (own := [("row", 2)]) (N := N_falls) (sc := defScope s_falls) (by first | decide +kernel | exact rfl)) (fun _ _ _ _ _ => (pg_name (i := 2) sc_falls.nd rfl (Or.inl rfl))) (fun _ _ _ _ _ => (pts_one (pt_cmpR (opNeS (K := K) hr.units) (pv 2) (pe_tup (pa_Constant pe_int (pa_Constant pe_int pa_nil))) (nomark _)))) (fun _ _ _ _ _ => (pv 2)))
      (pss_cons (ps_for PassesOwn.never rfl (pi_enumS (K := K) (by rfl) T.enumerate (pa_Name (pv 1) pa_nil)) (pg_seqS (K := K) (n := 2) rfl (pgs_cons (pg_name (i := 3) sc_falls.nd rfl (Or.inl rfl)) (pgs_cons (pg_name (i := 4) sc_falls.nd rfl (Or.inl rfl)) pgs_nil))) (pss_one (ps_for PassesOwn.never rfl (pi_seqS (K := K) (pe_slice (slB (K := K)) (pv 1) (po_some (pe_op (opAddS (K := K)) (pv 3) pe_int)) po_none)) (pg_name (i := 5) sc_falls.nd rfl (Or.inl rfl)) (pss_one (ps_if (pt_cmpR op_lt (pe_op opMul (pe_ix (ixS (K := K)) (pv 4) pe_int (fun _ _ => rfl)) (pe_ix (ixS (K := K)) (pv 5) pe_int (fun _ _ => rfl))) (pe_op opMul (pe_ix (ixS (K := K)) (pv 5) pe_int (fun _ _ => rfl)) (pe_ix (ixS (K := K)) (pv 4) pe_int (fun _ _ => rfl))) (nomark _)) (pss_one (ps_ret pe_bl)) pss_nil)))))
      (pss_one (ps_ret pe_bl))))), ?_⟩
    walk_at "rr"
    refine y_chk hv S.is fun H1 c1 => ?_
    have n8 := S.n8
    obtain rfl := S.eq
    have fr : ∀ e ∈ fil ds, isRw e = true := fun e he => S.rw e (List.mem_filter.mp he).1
    have fl : (fil ds).length ≤ 8 := Nat.le_trans (List.length_filter_le _ _) n8
    walk_at "rr"
    refine r_iT ?_
    walk_at "rr"
    rename_i u1 i1
    refine c_tupF (K := K) (es := ds) (fun i es => es = (ds.take i).filter nzR) (by omega) i1 rfl ?_ ?_
    · intro i H2 es x d hd hx c2 hP N S2 hN hS
      obtain ⟨a, b, rfl, _, _⟩ := row_bd (S.rw d (List.mem_of_getElem? hd))
      walk_at "rr"
      rename_i t3 H3 n3 c3 m3
      refine i_neI (hx.ch c3) m3 (sh_row _ _) (sh_row _ _) ?_
      rw [eqv_row0, Bool.not_not]
      have ft := fil_take hd
      cases hz : nzR (.tuple [.int a, .int b]) with
      | true =>
        rw [hz, if_pos rfl] at ft
        walk_at "rr"
        exact hN _ _ _ (hx.ch c3) c3 (by show _ = (ds.take (i + 1)).filter nzR; rw [ft, hP])
      | false =>
        rw [hz, if_neg (by decide), List.append_nil] at ft
        walk_at "rr"
        exact hS _ c3 (by show _ = (ds.take (i + 1)).filter nzR; rw [ft, hP])
    · intro D H2 us es nD eD al c2 hl hP
      have hP : es = fil ds := by rw [hP, List.take_length]; rfl
      subst hP
      walk_at "rr"
      refine r_enum ?_
      walk_at "rr"
      refine ⟨D, us, rfl, SqL.of eD, ?_⟩
      refine f_enumI (K := K) (es := fil ds) none (fun i σ H3 => ∃ va vb vc vd, σ = [some v, some (.ref D), va, vb, vc, vd] ∧ (∀ j k (hj : j < (fil ds).length) (hk : k < (fil ds).length), j < i → j < k → wkR (fil ds)[j] (fil ds)[k] = false) ∧ Ch none H2 H3) eD al (fun _ z => nomatch z) ⟨_, _, _, _, rfl, fun j k _ _ z => absurd z (Nat.not_lt_zero _), Ch.refl _⟩ (fun i σ H3 ⟨_, _, _, _, _, _, c⟩ => c) ?_ ?_
      · rintro i d x σ H3 H4 hd ⟨va, vb, vc, vd, rfl, hb, c3⟩ c4 hx
        obtain ⟨hi, ed⟩ := List.getElem?_eq_some_iff.mp hd
        obtain ⟨a, b, rfl, ga, gb⟩ := row_bd (fr d (List.mem_of_getElem? hd))
        have e4 : H4 D = some (.lst us) := (c3.trans c4).ls eD
        walk_at "rr"
        rename_i u1 u2 j1 j2
        refine r_iL ?_
        walk_at "rr"
        refine i_slL (SqL.of e4) fun q H5 nq c5 eq => ?_
        rw [cutV_lo (by omega), show ((i : Int) + 1).toNat = i + 1 by omega] at eq
        have aq : ImAll K H5 (us.drop (i + 1)) ((fil ds).drop (i + 1)) := (((al.ch c3).ch c4).ch c5).drop _
        refine ⟨q, rfl, ⟨_, SqL.of eq⟩, ?_⟩
        have j3 := j2.ch c5
        refine f_listI (K := K) (es := (fil ds).drop (i + 1)) none (fun i2 σ H6 => ∃ ve, σ = [some v, some (.ref D), va, some (.int i), some u2, ve] ∧ (∀ k (hk : k < (fil ds).length), i < k → k < i + 1 + i2 → wkR (fil ds)[i] (fil ds)[k] = false) ∧ Ch none H5 H6) eq aq (fun _ z => nomatch z) ⟨_, rfl, fun k _ z1 z2 => absurd z2 (by omega), Ch.refl _⟩ (fun i σ H3 ⟨_, _, _, c⟩ => c) ?_ ?_
        · rintro i2 d2 y σ H6 hd2 hy ⟨ve, rfl, hb2, c6⟩
          rw [List.getElem?_drop] at hd2
          obtain ⟨hi2, ed2⟩ := List.getElem?_eq_some_iff.mp hd2
          obtain ⟨a2, b2, rfl, ga2, gb2⟩ := row_bd (fr d2 (List.mem_of_getElem? hd2))
          have j4 := j3.ch c6
          walk_at "rr"
          have ew : wkR (fil ds)[i] (fil ds)[i + 1 + i2] = decide (a * b2 < a2 * b) := by rw [ed, ed2]; rfl
          cases hlt : decide (a * b2 < a2 * b) with
          | true =>
            have hk2 := hk H6 ((c1.trans (c2.trans (c3.trans c4))).trans (c5.trans c6))
            rw [fallsL_no hi hi2 (by omega) (ew.trans hlt)] at hk2
            walk_at "rr"
            exact hk2
          | false =>
            walk_at "rr"
            refine ⟨_, rfl, fun k hk z1 z2 => ?_, c6⟩
            rcases Nat.lt_or_ge k (i + 1 + i2) with h | h
            · exact hb2 k hk z1 h
            · have : k = i + 1 + i2 := by omega
              subst this
              rw [ew, hlt]
        · rintro σ H6 ⟨ve, rfl, hb2, c6⟩
          refine ⟨_, _, _, _, rfl, fun j k hj hk z1 z2 => ?_, (c3.trans c4).trans (c5.trans c6)⟩
          rcases Nat.lt_or_ge j i with h | h
          · exact hb j k hj hk h z2
          · have : j = i := by omega
            subst this
            exact hb2 k hk z2 (by rw [List.length_drop]; omega)
      · rintro σ H3 ⟨va, vb, vc, vd, rfl, hb, c3⟩
        have hk2 := hk H3 (by walk_at "ch")
        rw [fallsL_iff.mpr fun i j hi hj hij => hb i j hi hj hi hij] at hk2
        walk_at "rr"
        exact hk2
end


section
variable {P : Program} {w : World} {K : PySem.W.Frag} {mg : Str → Option Value} {base : Heap} {f : Addr} {fd : FuncData}
abbrev s_fraction : Stmt := top 13
abbrev N_fraction : List Str := ["top", "bottom", "divisor"]
abbrev P_fraction : List Str := ["top", "bottom"]
theorem sc_fraction : FnScope N_fraction P_fraction (defScope s_fraction) := ⟨rfl, rfl, rfl, by decide +kernel, rfl, by decide +kernel, by decide +kernel⟩
theorem ok_fraction {C_NoNumber : Addr} (F : Fun K "fraction" "fraction" s_fraction f fd) (T : Nob mg) (g_b : BM mg base) (g_tree : P.given.tree = none) (c_NoNumber : ExcK K mg "NoNumber" C_NoNumber) (c_common_divisor : Cal P w K mg base CX0 "common_divisor" 1 P_common_divisor (spGcd)) : FnOk P w K mg base (CXE P w) 34 f fd P_fraction (spFrac K C_NoNumber) := by
  refine F.okE sc_fraction (fun vs H Q E h => ?_) (fun cdv A outer s H vs Q E hr h => ?_)
  · obtain ⟨a, b, rfl, _⟩ := h; rfl
  · obtain ⟨t, b, rfl, hb, kE, k⟩ := h
    refine ⟨_, (pss_cons (ps_if (pt_cmpR (opEqS (K := K) hr.units) (pv 1) pe_int (nomark _)) (pss_one (ps_raise (by rfl) c_NoNumber.mg c_NoNumber.ex (pa_Constant pe_str pa_nil))) pss_nil)
      (pss_cons (ps_set_Call (i := 2) sc_fraction.nd rfl (Or.inl rfl) (pe_cal c_common_divisor hr rfl pass0 (pa_Name (pv 0) (pa_Name (pv 1) pa_nil))))
      (pss_cons (ps_if (pt_cmpR op_lt (pv 1) pe_int (nomark _)) (pss_one (ps_set_UnaryOp (i := 2) sc_fraction.nd rfl (Or.inl rfl) (pe_un un_neg (pv 2)))) pss_nil)
      (pss_one (ps_ret (pe_tup (pa_BinOp (pe_op (op_fdivP hr (by decide) g_b g_tree) (pv 0) (pv 2)) (pa_BinOp (pe_op (op_fdivP hr (by decide) g_b g_tree) (pv 1) (pv 2)) pa_nil)))))))), ?_⟩
    walk_at "rr"
    refine ite2 (fun h1 => ?_) (fun h1 => ?_)
    · have h2 : b = 0 := by simpa using h1
      exact ⟨by show 1 ≤ sizeLine; decide, kE h2⟩
    · have h2 : b ≠ 0 := by simpa using h1
      walk_at "rr"
      have hg := gcd_pos (t := t) h2
      have fin : ∀ g : Int, (g = if b < 0 then -(Int.gcd t b : Int) else (Int.gcd t b : Int)) → ∀ p, H p = none → Q (.ref p) (upd H p (.tup [.int (t.fdiv g), .int (b.fdiv g)])) := fun g eg p hp => by
        have e := frac_prog h2 eg
        rw [frac_fq h2] at e
        refine k h2 _ _ (Ch.new hp) ?_
        have := Im.mk (K := K) hp (.cons (.int (t.fdiv g)) (.cons (.int (b.fdiv g)) .nil))
        rw [show (PyData.tuple [.int (t.fdiv g), .int (b.fdiv g)]) = dq (Rat.divInt t b) from dq_of (p := (t.fdiv g, b.fdiv g)) e] at this
        exact this
      refine ite2 (fun h3 => ?_) (fun h3 => ?_)
      · have h4 : b < 0 := by simpa using h3
        walk_at "rr"
        refine r_divPN (by omega) ?_
        walk_at "rr"
        refine r_divPN (by omega) ?_
        refine r_nil ?_
        exact ⟨by show 2 ≤ sizeLine; decide, fun p hp => fin _ (by rw [if_pos h4]) p hp⟩
      · have h4 : ¬ b < 0 := by simpa using h3
        walk_at "rr"
        rename_i p H' np ch im
        refine k h2 _ _ ch ?_
        rw [dq_of (p := (t / _, b / _)) (show (t / (Int.gcd t b : Int), b / (Int.gcd t b : Int)) = fq (Rat.divInt t b) by rw [← frac_fq h2, frac_pos (by omega)])] at im
        exact im
abbrev s_plus : Stmt := top 14
abbrev N_plus : List Str := ["a", "b", "divisor", "top", "rest"]
abbrev P_plus : List Str := ["a", "b"]
theorem sc_plus : FnScope N_plus P_plus (defScope s_plus) := ⟨rfl, rfl, rfl, by decide +kernel, rfl, by decide +kernel, by decide +kernel⟩
theorem ok_plus (F : Fun K "plus" "plus" s_plus f fd) (T : Nob mg) (g_b : BM mg base) (g_tree : P.given.tree = none) (c_common_divisor : Cal P w K mg base CX0 "common_divisor" 1 P_common_divisor (spGcd)) : FnOk P w K mg base CX0 34 f fd P_plus (spAr K (· + ·)) := by
  refine F.ok sc_plus (fun vs H Q E h => ?_) (fun cdv A outer s H vs Q E hr h => ?_)
  · obtain ⟨v1, v2, p, q, rfl, _⟩ := h; rfl
  · obtain ⟨v1, v2, p, q, rfl, i1, i2, ⟨b1, b2⟩, ⟨b3, b4⟩, k⟩ := h
    unfold dq at i1 i2
    have ap := p.den_pos
    have bp := q.den_pos
    have gp : (0 : Int) < (Int.gcd (p.den : Int) (q.den : Int) : Int) := gcd_pos (by omega)
    have gb : Bd 400000 (Int.gcd (p.den : Int) (q.den : Int) : Int) := Bd.le b2 (by have := Nat.le_of_dvd ap (Nat.gcd_dvd_left p.den q.den); show Nat.gcd p.den q.den ≤ p.den; exact this)
    have e1 : Bd 1000000 p.num := b1.mono (by decide)
    have e2 : Bd 1000000 q.num := b3.mono (by decide)
    have e3 : Bd 1000000 ((p.den : Int) / (Int.gcd (p.den : Int) (q.den : Int) : Int)) := (Bd.le b2 (natAbs_div_le _ _ gp)).mono (by decide)
    have e4 : Bd 1000000 ((q.den : Int) / (Int.gcd (p.den : Int) (q.den : Int) : Int)) := (Bd.le b4 (natAbs_div_le _ _ gp)).mono (by decide)
    refine ⟨_, (pss_cons (ps_set_Call (i := 2) sc_plus.nd rfl (Or.inl rfl) (pe_cal c_common_divisor hr rfl pass0 (pa_Subscript (pe_ix (ixS (K := K)) (pv 0) pe_int (fun _ _ => rfl)) (pa_Subscript (pe_ix (ixS (K := K)) (pv 1) pe_int (fun _ _ => rfl)) pa_nil))))
      (pss_cons (ps_set_BinOp (i := 3) sc_plus.nd rfl (Or.inl rfl) (pe_op (opAddS (K := K)) (pe_op opMul (pe_ix (ixS (K := K)) (pv 0) pe_int (fun _ _ => rfl)) (pe_op (op_fdivP hr (by decide) g_b g_tree) (pe_ix (ixS (K := K)) (pv 1) pe_int (fun _ _ => rfl)) (pv 2))) (pe_op opMul (pe_ix (ixS (K := K)) (pv 1) pe_int (fun _ _ => rfl)) (pe_op (op_fdivP hr (by decide) g_b g_tree) (pe_ix (ixS (K := K)) (pv 0) pe_int (fun _ _ => rfl)) (pv 2)))))
      (pss_cons (ps_set_Call (i := 4) sc_plus.nd rfl (Or.inl rfl) (pe_cal c_common_divisor hr rfl pass0 (pa_Name (pv 3) (pa_Name (pv 2) pa_nil))))
      (pss_one (ps_ret (pe_tup (pa_BinOp (pe_op (op_fdivP hr (by decide) g_b g_tree) (pv 3) (pv 4)) (pa_BinOp (pe_op opMul (pe_op (op_fdivP hr (by decide) g_b g_tree) (pe_ix (ixS (K := K)) (pv 0) pe_int (fun _ _ => rfl)) (pv 2)) (pe_op (op_fdivP hr (by decide) g_b g_tree) (pe_ix (ixS (K := K)) (pv 1) pe_int (fun _ _ => rfl)) (pv 4))) pa_nil)))))))), ?_⟩
    walk_at "rr"
    have key := plus_fq p q _ _ _ rfl rfl rfl
    generalize hd : (Int.gcd (p.den : Int) (q.den : Int) : Int) = d at *
    generalize ht : p.num * ((q.den : Int) / d) + q.num * ((p.den : Int) / d) = top at *
    have rp : (0 : Int) < (Int.gcd top d : Int) := gcd_pos (by omega)
    have rb : Bd 400000 (Int.gcd top d : Int) := Bd.le gb (by have := Nat.le_of_dvd (Int.natAbs_pos.mpr (by omega)) (Int.gcd_dvd_natAbs_right top d); omega)
    have e5 : Bd 1000000 ((q.den : Int) / (Int.gcd top d : Int)) := (Bd.le b4 (natAbs_div_le _ _ rp)).mono (by decide)
    walk_at "rr"
    rename_i im
    refine k _ _ (by assumption) ?_
    rw [dq_of (p := (top / _, _)) key] at im
    exact im
abbrev s_times : Stmt := top 15
abbrev N_times : List Str := ["a", "b", "one", "other"]
abbrev P_times : List Str := ["a", "b"]
theorem sc_times : FnScope N_times P_times (defScope s_times) := ⟨rfl, rfl, rfl, by decide +kernel, rfl, by decide +kernel, by decide +kernel⟩
theorem ok_times {C_NoNumber : Addr} (F : Fun K "times" "times" s_times f fd) (T : Nob mg) (c_fraction : Cal P w K mg base (CXE P w) "fraction" 34 P_fraction (spFrac K C_NoNumber)) : FnOk P w K mg base CX0 35 f fd P_times (spAr K (· * ·)) := by
  refine F.ok sc_times (fun vs H Q E h => ?_) (fun cdv A outer s H vs Q E hr h => ?_)
  · obtain ⟨v1, v2, p, q, rfl, _⟩ := h; rfl
  · obtain ⟨v1, v2, p, q, rfl, i1, i2, ⟨b1, b2⟩, ⟨b3, b4⟩, k⟩ := h
    unfold dq at i1 i2
    have n1 := den_ne p
    have n2 := den_ne q
    have g1 := FQ.divInt n2 b1 b4
    have g2 := FQ.divInt n1 b3 b2
    refine ⟨_, (pss_cons (ps_par (i := 2) (j := 3) (by rfl) sc_times.nd rfl rfl (by decide) rfl rfl (pa_Call (pe_cal c_fraction hr rfl passE0 (pa_Subscript (pe_ix (ixS (K := K)) (pv 0) pe_int (fun _ _ => rfl)) (pa_Subscript (pe_ix (ixS (K := K)) (pv 1) pe_int (fun _ _ => rfl)) pa_nil))) (pa_Call (pe_cal c_fraction hr rfl passE0 (pa_Subscript (pe_ix (ixS (K := K)) (pv 1) pe_int (fun _ _ => rfl)) (pa_Subscript (pe_ix (ixS (K := K)) (pv 0) pe_int (fun _ _ => rfl)) pa_nil))) pa_nil)) (by rfl))
      (pss_one (ps_ret (pe_tup (pa_BinOp (pe_op opMul (pe_ix (ixS (K := K)) (pv 2) pe_int (fun _ _ => rfl)) (pe_ix (ixS (K := K)) (pv 3) pe_int (fun _ _ => rfl))) (pa_BinOp (pe_op opMul (pe_ix (ixS (K := K)) (pv 2) pe_int (fun _ _ => rfl)) (pe_ix (ixS (K := K)) (pv 3) pe_int (fun _ _ => rfl))) pa_nil)))))), ?_⟩
    walk_at "rr"
    have h1 : Bd 1000000 (Rat.divInt p.num q.den).num := g1.1.mono (by decide)
    have h2 : Bd 1000000 (Rat.divInt q.num p.den).num := g2.1.mono (by decide)
    have h3 : Bd 1000000 ((Rat.divInt p.num q.den).den : Int) := g1.2.mono (by decide)
    have h4 : Bd 1000000 ((Rat.divInt q.num p.den).den : Int) := g2.2.mono (by decide)
    walk_at "rr"
    rename_i im
    refine k _ _ (by walk_at "ch") ?_
    show Im K _ _ (dq (p * q))
    rw [← dq_of (times_fq p q)]
    exact im
end


section
variable {P : Program} {w : World} {K : PySem.W.Frag} {mg : Str → Option Value} {base : Heap} {f : Addr} {fd : FuncData}
abbrev s_over : Stmt := top 16
abbrev N_over : List Str := ["a", "b"]
abbrev P_over : List Str := ["a", "b"]
theorem sc_over : FnScope N_over P_over (defScope s_over) := ⟨rfl, rfl, rfl, by decide +kernel, rfl, by decide +kernel, by decide +kernel⟩
theorem ok_over {C_NoNumber : Addr} (F : Fun K "over" "over" s_over f fd) (T : Nob mg) (c_fraction : Cal P w K mg base (CXE P w) "fraction" 34 P_fraction (spFrac K C_NoNumber)) (c_times : Cal P w K mg base CX0 "times" 35 P_times (spAr K (· * ·))) : FnOk P w K mg base (CXE P w) 36 f fd P_over (spOver K C_NoNumber) := by
  refine F.okE sc_over (fun vs H Q E h => ?_) (fun cdv A outer s H vs Q E hr h => ?_)
  · obtain ⟨v1, v2, p, q, rfl, _⟩ := h; rfl
  · obtain ⟨v1, v2, p, q, rfl, i1, i2, f1, f2, kE, k⟩ := h
    have i2' := i2
    unfold dq at i2'
    refine ⟨_, (pss_one (ps_ret (pe_cal c_times hr rfl pass0 (pa_Name (pv 0) (pa_Call (pe_cal c_fraction hr rfl passE (pa_Subscript (pe_ix (ixS (K := K)) (pv 1) pe_int (fun _ _ => rfl)) (pa_Subscript (pe_ix (ixS (K := K)) (pv 1) pe_int (fun _ _ => rfl)) pa_nil))) pa_nil))))), ?_⟩
    walk_at "rr"
    refine ⟨_, _, rfl, f2.1, fun z => kE (Rat.num_eq_zero.mp z), fun z v H' c m => ?_⟩
    have z' : q ≠ 0 := fun e => z (Rat.num_eq_zero.mpr e)
    rw [inv_fq] at m
    walk_at "rr"
    refine y_ar (by walk_at "im") m f1 ?_ fun v4 H4 c4 m4 => ?_
    · have := FQ.divInt (n := 400000) z f2.2 f2.1
      rwa [inv_fq] at this
    · rw [← Rat.div_def] at m4
      exact k z' v4 H4 (by walk_at "ch") m4
abbrev s_below : Stmt := top 17
abbrev N_below : List Str := ["a", "b"]
abbrev P_below : List Str := ["a", "b"]
theorem sc_below : FnScope N_below P_below (defScope s_below) := ⟨rfl, rfl, rfl, by decide +kernel, rfl, by decide +kernel, by decide +kernel⟩
theorem ok_below (F : Fun K "below" "below" s_below f fd) (T : Nob mg) : FnOk P w K mg base CX0 1 f fd P_below (spBelow K) := by
  refine F.ok sc_below (fun vs H Q E h => ?_) (fun cdv A outer s H vs Q E hr h => ?_)
  · obtain ⟨v1, v2, p, q, rfl, _⟩ := h; rfl
  · obtain ⟨v1, v2, p, q, rfl, i1, i2, ⟨b1, b2⟩, ⟨b3, b4⟩, k⟩ := h
    unfold dq at i1 i2
    have h1 : Bd 1000000 p.num := b1.mono (by decide)
    have h2 : Bd 1000000 q.num := b3.mono (by decide)
    have h3 : Bd 1000000 (p.den : Int) := b2.mono (by decide)
    have h4 : Bd 1000000 (q.den : Int) := b4.mono (by decide)
    refine ⟨_, (pss_one (ps_ret (pe_cmpR op_lt (pe_op opMul (pe_ix (ixS (K := K)) (pv 0) pe_int (fun _ _ => rfl)) (pe_ix (ixS (K := K)) (pv 1) pe_int (fun _ _ => rfl))) (pe_op opMul (pe_ix (ixS (K := K)) (pv 1) pe_int (fun _ _ => rfl)) (pe_ix (ixS (K := K)) (pv 0) pe_int (fun _ _ => rfl))) (nomark _)))), ?_⟩
    walk_at "rr"
    rw [show decide (p.num * (q.den : Int) < q.num * (p.den : Int)) = decide (p < q) from decide_eq_decide.mpr (below_iff p q)]
    exact k
abbrev s_measures : Stmt := top 22
abbrev N_measures : List Str := ["liquor"]
abbrev P_measures : List Str := ["liquor"]
theorem sc_measures : FnScope N_measures P_measures (defScope s_measures) := ⟨rfl, rfl, rfl, by decide +kernel, rfl, by decide +kernel, by decide +kernel⟩
theorem ok_measures (F : Fun K "measures" "measures" s_measures f fd) (T : Nob mg) (c_plus : Cal P w K mg base CX0 "plus" 34 P_plus (spAr K (· + ·))) : FnOk P w K mg base CX0 35 f fd P_measures (spMs K) := by
  refine F.ok sc_measures (fun vs H Q E h => ?_) (fun cdv A outer s H vs Q E hr h => ?_)
  · obtain ⟨v, l, rfl, _⟩ := h; rfl
  · obtain ⟨v, l, rfl, hv, f1, f2, k⟩ := h
    unfold L2.dl at hv
    have F1 : FQ 8999 l.1 := f1.mono (by decide)
    have F2 : FQ 8999 l.2 := f2.mono (by decide)
    refine ⟨_, (pss_one (ps_ret (pe_cal c_plus hr rfl pass0 (pa_Subscript (pe_ix (ixS (K := K)) (pv 0) pe_int (fun _ _ => rfl)) (pa_Subscript (pe_ix (ixS (K := K)) (pv 0) pe_int (fun _ _ => rfl)) pa_nil))))), ?_⟩
    walk_at "rr"
    rename_i im
    exact k _ _ (by walk_at "ch") im
end


section
variable {P : Program} {w : World} {K : PySem.W.Frag} {mg : Str → Option Value} {base : Heap} {f : Addr} {fd : FuncData}
abbrev s_strength : Stmt := top 23
abbrev N_strength : List Str := ["liquor", "whole"]
abbrev P_strength : List Str := ["liquor"]
theorem sc_strength : FnScope N_strength P_strength (defScope s_strength) := ⟨rfl, rfl, rfl, by decide +kernel, rfl, by decide +kernel, by decide +kernel⟩
theorem ok_strength {C_NoNumber : Addr} (F : Fun K "strength" "strength" s_strength f fd) (T : Nob mg) (c_measures : Cal P w K mg base CX0 "measures" 35 P_measures (spMs K)) (c_over : Cal P w K mg base (CXE P w) "over" 36 P_over (spOver K C_NoNumber)) : FnOk P w K mg base CX0 37 f fd P_strength (spStr K) := by
  refine F.ok sc_strength (fun vs H Q E h => ?_) (fun cdv A outer s H vs Q E hr h => ?_)
  · obtain ⟨v, l, rfl, _⟩ := h; rfl
  · obtain ⟨v, l, rfl, hv, f1, f2, k⟩ := h
    refine ⟨_, (pss_cons (ps_set_Call (i := 1) sc_strength.nd rfl (Or.inl rfl) (pe_cal c_measures hr rfl pass0 (pa_Name (pv 0) pa_nil)))
      (pss_cons (ps_if (pt_cmpR (opEqS (K := K) hr.units) (pe_ix (ixS (K := K)) (pv 1) pe_int (fun _ _ => rfl)) pe_int (nomark _)) (pss_one (ps_ret pe_non)) pss_nil)
      (pss_one (ps_ret (pe_cal c_over hr rfl passE0 (pa_Subscript (pe_ix (ixS (K := K)) (pv 0) pe_int (fun _ _ => rfl)) (pa_Name (pv 1) pa_nil))))))), ?_⟩
    walk_at "rr"
    refine y_ms hv f1 f2 fun u H1 c1 m1 => ?_
    have hv1 := hv.ch c1
    unfold L2.dl at hv1
    walk_at "rr"
    refine ite2 (fun h1 => ?_) (fun h1 => ?_)
    · have z : l.1 + l.2 = 0 := Rat.num_eq_zero.mp (of_decide_eq_true h1)
      walk_at "rr"
      refine k _ _ (by walk_at "ch") ?_
      unfold strD
      rw [if_pos z]
      exact .non
    · have z : l.1 + l.2 ≠ 0 := fun e => h1 (decide_eq_true (Rat.num_eq_zero.mpr e))
      walk_at "rr"
      refine y_over (p := l.1) (q := l.1 + l.2) (by assumption) (by walk_at "im") (f1.mono (by decide)) ((f1.add f2).mono (by decide)) z fun w H2 c2 m2 => ?_
      refine k _ _ (by walk_at "ch") ?_
      unfold strD
      rw [if_neg z]
      exact m2
end


section
variable {P : Program} {w : World} {K : PySem.W.Frag} {mg : Str → Option Value} {base : Heap} {f : Addr} {fd : FuncData}
abbrev s_shares_of : Stmt := top 32
abbrev N_shares_of : List Str := ["still", "cut", "part", "rows", "loss", "heart_from", "tails_from", "left", "heads", "heart", "tails", "off"]
abbrev P_shares_of : List Str := ["still", "cut", "part"]
theorem sc_shares_of : FnScope N_shares_of P_shares_of (defScope s_shares_of) := ⟨rfl, rfl, rfl, by decide +kernel, rfl, by decide +kernel, by decide +kernel⟩
theorem ok_shares_of {C_NoNumber : Addr} (F : Fun K "shares_of" "shares_of" s_shares_of f fd) (T : Nob mg) (c_tenths : Cal P w K mg base CX0 "tenths" 8 P_tenths (spTenths K)) (c_fraction : Cal P w K mg base (CXE P w) "fraction" 34 P_fraction (spFrac K C_NoNumber)) : FnOk P w K mg base CX0 35 f fd P_shares_of (spShr K) := by
  refine F.ok sc_shares_of (fun vs H Q E h => ?_) (fun cdv A outer s H vs Q E hr h => ?_)
  · obtain ⟨v1, v2, d, ds, loss, h, t, c, rfl, _⟩ := h; rfl
  · obtain ⟨v1, v2, d, ds, loss, hh, t, c, rfl, h1, S, h2, h0, ht, tn, hc, k⟩ := h
    obtain rfl := S.eq
    have r1 : ∀ e ∈ ds.take hh.toNat, isRw e = true := fun e he => S.rw e (List.mem_of_mem_take he)
    have r2 : ∀ e ∈ (ds.drop hh.toNat).take (t.toNat - hh.toNat), isRw e = true := fun e he => S.rw e (List.mem_of_mem_drop (List.mem_of_mem_take he))
    have r3 : ∀ e ∈ ds.drop t.toNat, isRw e = true := fun e he => S.rw e (List.mem_of_mem_drop he)
    have n8 := S.n8
    have l0 := S.l0
    have l9 := S.l9
    refine ⟨_, (pss_cons (ps_asg (pv 0) (pg_seqS (K := K) (n := 2) rfl (pgs_cons (pg_name (i := 3) sc_shares_of.nd rfl (Or.inl rfl)) (pgs_cons (pg_name (i := 4) sc_shares_of.nd rfl (Or.inl rfl)) pgs_nil))))
      (pss_cons (ps_asg (pv 1) (pg_seqS (K := K) (n := 2) rfl (pgs_cons (pg_name (i := 5) sc_shares_of.nd rfl (Or.inl rfl)) (pgs_cons (pg_name (i := 6) sc_shares_of.nd rfl (Or.inl rfl)) pgs_nil))))
      (pss_cons (ps_set_BinOp (i := 7) sc_shares_of.nd rfl (Or.inl rfl) (pe_op op_sub pe_int (pv 4)))
      (pss_cons (ps_set_Call (i := 8) sc_shares_of.nd rfl (Or.inl rfl) (pe_cal c_tenths hr rfl pass0 (pa_Subscript (pe_slice (slB (K := K)) (pv 3) po_none (po_some (pv 5))) (pa_Name (pv 2) pa_nil))))
      (pss_cons (ps_set_Call (i := 9) sc_shares_of.nd rfl (Or.inl rfl) (pe_cal c_tenths hr rfl pass0 (pa_Subscript (pe_slice (slB (K := K)) (pv 3) (po_some (pv 5)) (po_some (pv 6))) (pa_Name (pv 2) pa_nil))))
      (pss_cons (ps_set_Call (i := 10) sc_shares_of.nd rfl (Or.inl rfl) (pe_cal c_tenths hr rfl pass0 (pa_Subscript (pe_slice (slB (K := K)) (pv 3) (po_some (pv 6)) po_none) (pa_Name (pv 2) pa_nil))))
      (pss_cons (ps_set_BinOp (i := 11) sc_shares_of.nd rfl (Or.inl rfl) (pe_op (opAddS (K := K)) (pe_op (opAddS (K := K)) (pv 8) (pv 9)) (pv 10)))
      (pss_one (ps_ret (pe_tupQ (qa_Call (QE.mk (pe_cal c_fraction hr rfl passE0 (pa_BinOp (pe_op opMul (pv 8) (pv 7)) (pa_Constant pe_int pa_nil)))) (qa_Call (QE.mk (pe_cal c_fraction hr rfl passE0 (pa_BinOp (pe_op opMul (pv 9) (pv 7)) (pa_Constant pe_int pa_nil)))) (qa_Call (QE.mk (pe_cal c_fraction hr rfl passE0 (pa_BinOp (pe_op opMul (pv 10) (pv 7)) (pa_Constant pe_int pa_nil)))) (qa_Call (QE.mk (pe_cal c_fraction hr rfl passE0 (pa_BinOp (pe_op op_sub pe_int (pv 11)) (pa_Constant pe_int pa_nil)))) (qa_Call (QE.mk (pe_cal c_fraction hr rfl passE0 (pa_BinOp (pe_op opMul (pv 11) (pv 4)) (pa_Constant pe_int pa_nil)))) qa_nil))))))))))))))), ?_⟩
    walk_at "rr"
    rename_i m1
    rw [cutD_hi h0] at m1
    refine y_tenths m1 r1 (by rw [List.length_take]; omega) hc fun H1 c1 => ?_
    walk_at "rr"
    rename_i m2
    rw [cutD_mid h0 (by omega)] at m2
    refine y_tenths m2 r2 (by rw [List.length_take, List.length_drop]; omega) hc fun H2 c2 => ?_
    walk_at "rr"
    rename_i m3
    rw [cutD_lo (by omega)] at m3
    refine y_tenths m3 r3 (by rw [List.length_drop]; omega) hc fun H3 c3 => ?_
    have e := tnD_split c ds hh.toNat t.toNat (by omega)
    walk_at "rr"
    rw [e] at *
    rename_i im
    exact k _ _ (by walk_at "ch") im
abbrev s_share_of : Stmt := top 35
abbrev N_share_of : List Str := ["charge", "spirit_share", "water_share"]
abbrev P_share_of : List Str := ["charge", "spirit_share", "water_share"]
theorem sc_share_of : FnScope N_share_of P_share_of (defScope s_share_of) := ⟨rfl, rfl, rfl, by decide +kernel, rfl, by decide +kernel, by decide +kernel⟩
theorem ok_share_of (F : Fun K "share_of" "share_of" s_share_of f fd) (T : Nob mg) (c_times : Cal P w K mg base CX0 "times" 35 P_times (spAr K (· * ·))) : FnOk P w K mg base CX0 36 f fd P_share_of (spShare K) := by
  refine F.ok sc_share_of (fun vs H Q E h => ?_) (fun cdv A outer s H vs Q E hr h => ?_)
  · obtain ⟨v1, v2, v3, l, a, b, rfl, _⟩ := h; rfl
  · obtain ⟨v1, v2, v3, l, a, b, rfl, h1, h2, h3, f1, f2, f3, f4, k⟩ := h
    unfold L2.dl at h1
    refine ⟨_, (pss_one (ps_ret (pe_tup (pa_Call (pe_cal c_times hr rfl pass0 (pa_Name (pv 1) (pa_Subscript (pe_ix (ixS (K := K)) (pv 0) pe_int (fun _ _ => rfl)) pa_nil))) (pa_Call (pe_cal c_times hr rfl pass0 (pa_Name (pv 2) (pa_Subscript (pe_ix (ixS (K := K)) (pv 0) pe_int (fun _ _ => rfl)) pa_nil))) pa_nil))))), ?_⟩
    walk_at "rr"
    rename_i im
    exact k _ _ (by walk_at "ch") im
end


section
variable {P : Program} {w : World} {K : PySem.W.Frag} {mg : Str → Option Value} {base : Heap} {f : Addr} {fd : FuncData}
abbrev s_parts_of : Stmt := top 36
abbrev N_parts_of : List Str := ["still", "cut", "charge", "spirit_shares", "water_shares", "spirit", "water"]
abbrev P_parts_of : List Str := ["still", "cut", "charge"]
theorem sc_parts_of : FnScope N_parts_of P_parts_of (defScope s_parts_of) := ⟨rfl, rfl, rfl, by decide +kernel, rfl, by decide +kernel, by decide +kernel⟩
theorem ok_parts_of (F : Fun K "parts_of" "parts_of" s_parts_of f fd) (T : Nob mg) {c_ t_ : Addr} (g_c : fd.code = .ref c_) (g_t : (c_, t_) ∈ base.life.ids) (g_h : PySem.W.CodeHd base c_ t_) (g_b : BM mg base) (c_shares_of : Cal P w K mg base CX0 "shares_of" 35 P_shares_of (spShr K)) (c_share_of : Cal P w K mg base CX0 "share_of" 36 P_share_of (spShare K)) : FnOk P w K mg base CX0 44 f fd P_parts_of (spRun K) := by
  refine F.okT g_c sc_parts_of (fun vs H Q E h => ?_) (fun A outer s H vs Q E hr h => ?_)
  · obtain ⟨v1, v2, v3, d, ds, loss, hh, t, l, rfl, _⟩ := h; rfl
  · obtain ⟨v1, v2, v3, d, ds, loss, hh, t, l, rfl, h1, S, h2, h0, ht, tn, h3, l0, l1, f1, f2, k⟩ := h
    refine ⟨_, (pss_cons (ps_par (i := 3) (j := 4) (by rfl) sc_parts_of.nd rfl rfl (by decide) rfl rfl (pa_Call (pe_cal c_shares_of hr rfl pass0 (pa_Name (pv 0) (pa_Name (pv 1) (pa_Constant pe_int pa_nil)))) (pa_Call (pe_cal c_shares_of hr rfl pass0 (pa_Name (pv 0) (pa_Name (pv 1) (pa_Constant pe_int pa_nil)))) pa_nil)) (by rfl))
      (pss_one (ps_ret (pe_tupG hr ⟨rfl, g_t, g_h, g_b⟩ rfl (by rfl) T.tuple sc_parts_of.nd (pi_zipT (K := K) (by rfl) T.zip (pa_Name (pv 3) (pa_Name (pv 4) pa_nil))) (blkOk_by (own := [("spirit", 5), ("water", 6)]) (N := N_parts_of) (sc := defScope s_parts_of) (by decide +kernel)) (fun _ _ _ _ _ _ _ _ _ hr => (pg_seqS (K := K) (n := 2) rfl (pgs_cons (pg_name (i := 5) sc_parts_of.nd rfl (Or.inl rfl)) (pgs_cons (pg_name (i := 6) sc_parts_of.nd rfl (Or.inl rfl)) pgs_nil)))) (fun _ _ _ _ _ _ _ _ _ hr => pts_nil) (fun _ _ _ _ _ _ _ _ _ hr => (pe_cal c_share_of hr rfl pass0 (pa_Name (pv 2) (pa_Name (pv 5) (pa_Name (pv 6) pa_nil))))))))), ?_⟩
    walk_at "rr"
    refine y_shr h1 S h2 h0 ht tn (.inl rfl) fun va Ha ca ma => ?_
    walk_at "rr"
    refine y_shr (h1.ch ca) S (h2.ch ca) h0 ht tn (.inr rfl) fun vb Hb cb mb => ?_
    walk_at "rr"
    refine i_tupZ (fun x y => dl (ratOf x * l.1, ratOf y * l.2)) (ma.ch cb) mb rfl (by show 5 ≤ 1000; decide) (fun i d1 d2 e1 e2 x H1 hx c1 N S2 hN => ?_) fun u H1 c1 m1 => ?_
    · obtain ⟨r1, m1, rfl⟩ := List.mem_map.mp (List.mem_of_getElem? e1)
      obtain ⟨r2, m2, rfl⟩ := List.mem_map.mp (List.mem_of_getElem? e2)
      walk_at "rr"
      refine y_share (l := l) (by walk_at "im") (by assumption) (by assumption) f1 f2 ((shr_fq S _ m1).mono (by decide)) ((shr_fq S _ m2).mono (by decide)) fun y H4 c4 m4 => ?_
      rw [ratOf_dq, ratOf_dq] at hN
      exact hN y H4 c4 m4
    · refine k u H1 (by walk_at "ch") ?_
      have e : List.zipWith (fun x y => dl (ratOf x * l.1, ratOf y * l.2)) ((shr ds loss hh t 0).map dq) ((shr ds loss hh t 1).map dq) = (prt ds loss hh t l).map dl := by
        unfold prt
        rw [List.zipWith_map, List.map_zipWith]
        simp only [ratOf_dq]
      rw [e] at m1
      exact m1
abbrev s_run : Stmt := top 37
abbrev N_run : List Str := ["still", "cut", "charge"]
abbrev P_run : List Str := ["still", "cut", "charge"]
theorem sc_run : FnScope N_run P_run (defScope s_run) := ⟨rfl, rfl, rfl, by decide +kernel, rfl, by decide +kernel, by decide +kernel⟩
theorem ok_run {C_NoLiquor : Addr} (F : Fun K "run" "run" s_run f fd) (T : Nob mg) (c_check_cut : Cal P w K mg base CX0 "check_cut" 20 P_check_cut (spChkCut K)) (c_check_liquor : Cal P w K mg base (CXE P w) "check_liquor" 5 P_check_liquor (spChk K isLq C_NoLiquor)) (c_parts_of : Cal P w K mg base CX0 "parts_of" 44 P_parts_of (spRun K)) : FnOk P w K mg base CX0 45 f fd P_run (spRun K) := by
  refine F.ok sc_run (fun vs H Q E h => ?_) (fun cdv A outer s H vs Q E hr h => ?_)
  · obtain ⟨v1, v2, v3, d, ds, loss, hh, t, l, rfl, _⟩ := h; rfl
  · obtain ⟨v1, v2, v3, d, ds, loss, hh, t, l, rfl, h1, S, h2, h0, ht, tn, h3, l0, l1, f1, f2, k⟩ := h
    refine ⟨_, (pss_cons (ps_expr (pe_cal c_check_cut hr rfl pass0 (pa_Name (pv 0) (pa_Name (pv 1) pa_nil))))
      (pss_cons (ps_expr (pe_cal c_check_liquor hr rfl passE0 (pa_Name (pv 2) pa_nil)))
      (pss_one (ps_ret (pe_cal c_parts_of hr rfl pass0 (pa_Name (pv 0) (pa_Name (pv 1) (pa_Name (pv 2) pa_nil)))))))), ?_⟩
    walk_at "rr"
    refine ⟨_, _, _, _, rfl, h1, h2, S.is, ?_, fun H1 c1 => ?_⟩
    · obtain rfl := S.eq
      show (decide (0 ≤ hh) && decide (hh ≤ (ds.length : Int)) && decide (hh ≤ t) && decide (t ≤ (ds.length : Int))) = true
      rw [decide_eq_true h0, decide_eq_true (by omega : hh ≤ (ds.length : Int)), decide_eq_true ht, decide_eq_true tn]; rfl
    walk_at "rr"
    refine y_chk (h3.ch c1) (isLq_dl l0 l1) fun H2 c2 => ?_
    walk_at "rr"
    exact ⟨_, _, _, _, _, _, _, _, _, rfl, (h1.ch c1).ch c2, S, (h2.ch c1).ch c2, h0, ht, tn, (h3.ch c1).ch c2, l0, l1, f1, f2, fun v H3 c3 m3 => k v H3 (by walk_at "ch") m3⟩
end


section
variable {P : Program} {w : World} {K : PySem.W.Frag} {mg : Str → Option Value} {base : Heap} {f : Addr} {fd : FuncData}
abbrev s_rows_of : Stmt := top 38
abbrev N_rows_of : List Str := ["still", "charge", "rows", "loss", "left", "a", "b"]
abbrev P_rows_of : List Str := ["still", "charge"]
theorem sc_rows_of : FnScope N_rows_of P_rows_of (defScope s_rows_of) := ⟨rfl, rfl, rfl, by decide +kernel, rfl, by decide +kernel, by decide +kernel⟩
theorem ok_rows_of {C_NoNumber : Addr} {C_NoLiquor : Addr} {C_NoStill : Addr} (F : Fun K "rows_of" "rows_of" s_rows_of f fd) (T : Nob mg) {c_ t_ : Addr} (g_c : fd.code = .ref c_) (g_t : (c_, t_) ∈ base.life.ids) (g_h : PySem.W.CodeHd base c_ t_) (g_b : BM mg base) (c_check_still : Cal P w K mg base (CXE P w) "check_still" 18 P_check_still (spChk K isSt C_NoStill)) (c_check_liquor : Cal P w K mg base (CXE P w) "check_liquor" 5 P_check_liquor (spChk K isLq C_NoLiquor)) (c_fraction : Cal P w K mg base (CXE P w) "fraction" 34 P_fraction (spFrac K C_NoNumber)) (c_share_of : Cal P w K mg base CX0 "share_of" 36 P_share_of (spShare K)) : FnOk P w K mg base CX0 44 f fd P_rows_of (spRows K) := by
  refine F.okT g_c sc_rows_of (fun vs H Q E h => ?_) (fun A outer s H vs Q E hr h => ?_)
  · obtain ⟨v1, v3, d, ds, loss, l, rfl, _⟩ := h; rfl
  · obtain ⟨v1, v3, d, ds, loss, l, rfl, h1, S, h3, l0, l1, f1, f2, k⟩ := h
    refine ⟨_, (pss_cons (ps_expr (pe_cal c_check_still hr rfl passE0 (pa_Name (pv 0) pa_nil)))
      (pss_cons (ps_expr (pe_cal c_check_liquor hr rfl passE0 (pa_Name (pv 1) pa_nil)))
      (pss_cons (ps_asg (pv 0) (pg_seqS (K := K) (n := 2) rfl (pgs_cons (pg_name (i := 2) sc_rows_of.nd rfl (Or.inl rfl)) (pgs_cons (pg_name (i := 3) sc_rows_of.nd rfl (Or.inl rfl)) pgs_nil))))
      (pss_cons (ps_set_BinOp (i := 4) sc_rows_of.nd rfl (Or.inr rfl) (pe_op op_sub pe_int (pv 3)))
      (pss_one (ps_ret (pe_tupG hr ⟨rfl, g_t, g_h, g_b⟩ rfl (by rfl) T.tuple sc_rows_of.nd (pi_seqS (K := K) (pv 2)) (blkOk_by (own := [("a", 5), ("b", 6)]) (N := N_rows_of) (sc := defScope s_rows_of) (by decide +kernel)) (fun _ _ _ _ _ _ _ _ _ hr => (pg_seqS (K := K) (n := 2) rfl (pgs_cons (pg_name (i := 5) sc_rows_of.nd rfl (Or.inl rfl)) (pgs_cons (pg_name (i := 6) sc_rows_of.nd rfl (Or.inl rfl)) pgs_nil)))) (fun _ _ _ _ _ _ _ _ _ hr => pts_nil) (fun _ _ _ _ _ _ _ _ _ hr => (pe_cal c_share_of hr rfl pass0 (pa_Name (pv 1) (pa_Call (pe_cal c_fraction hr rfl passE0 (pa_BinOp (pe_op opMul (pv 5) (pv 4)) (pa_Constant pe_int pa_nil))) (pa_Call (pe_cal c_fraction hr rfl passE0 (pa_BinOp (pe_op opMul (pv 6) (pv 4)) (pa_Constant pe_int pa_nil))) pa_nil)))))))))))), ?_⟩
    walk_at "rr"
    refine y_chk h1 S.is fun H1 c1 => ?_
    walk_at "rr"
    refine y_chk (h3.ch c1) (isLq_dl l0 l1) fun H2 c2 => ?_
    obtain rfl := S.eq
    have s0 := S.l0
    have s9 := S.l9
    walk_at "rr"
    refine r_iT ?_
    walk_at "rr"
    refine i_tupT (fun e => dl (Rat.divInt (tnOf 0 e * (10 - loss)) 100 * l.1, Rat.divInt (tnOf 1 e * (10 - loss)) 100 * l.2)) (by assumption) (by have := S.n8; omega) (fun i e he x H3 hx c3 N S2 hN => ?_) fun u H3 c3 m3 => ?_
    · have hr' := S.rw e (List.mem_of_getElem? he)
      obtain ⟨a, b, rfl, a0, a1, b0, b1⟩ := isRw_iff hr'
      have fa : FQ 8999 (Rat.divInt (a * (10 - loss)) 100) := fq_small a (10 - loss) a0 (by omega) (by omega) (by omega)
      have fb : FQ 8999 (Rat.divInt (b * (10 - loss)) 100) := fq_small b (10 - loss) b0 (by omega) (by omega) (by omega)
      walk_at "rr"
      exact y_share (l := l) (by walk_at "im") (by walk_at "im") (by assumption) f1 f2 fa fb fun y H4 c4 m4 => hN y H4 (by walk_at "ch") m4
    · refine k u H3 (by walk_at "ch") ?_
      unfold rwsOf
      rw [List.map_map]
      exact m3
end


section
variable {P : Program} {w : World} {K : PySem.W.Frag} {mg : Str → Option Value} {base : Heap} {f : Addr} {fd : FuncData}
abbrev s_check_strengths : Stmt := top 39
abbrev N_check_strengths : List Str := ["high", "low"]
abbrev P_check_strengths : List Str := ["high", "low"]
theorem sc_check_strengths : FnScope N_check_strengths P_check_strengths (defScope s_check_strengths) := ⟨rfl, rfl, rfl, by decide +kernel, rfl, by decide +kernel, by decide +kernel⟩
theorem ok_check_strengths (F : Fun K "check_strengths" "check_strengths" s_check_strengths f fd) (T : Nob mg) (c_is_whole_within : Cal P w K mg base CX0 "is_whole_within" 2 P_is_whole_within (spWithin K)) : FnOk P w K mg base CX0 3 f fd P_check_strengths (spChkS) := by
  refine F.ok sc_check_strengths (fun vs H Q E h => ?_) (fun cdv A outer s H vs Q E hr h => ?_)
  · obtain ⟨h, l, rfl, _⟩ := h; rfl
  · obtain ⟨hi, lo, rfl, l0, l1, l2, k⟩ := h
    refine ⟨_, (pss_one (ps_if (PW.pt (pw_or (pt_not (pt_val (pe_cal c_is_whole_within hr rfl pass0 (pa_Name (pv 0) (pa_Constant pe_int (pa_Constant pe_int pa_nil)))))) (pw_or1 (pt_not (pt_val (pe_cal c_is_whole_within hr rfl pass0 (pa_Name (pv 1) (pa_Constant pe_int (pa_Name (pv 0) pa_nil))))))))) (pss_one ps_never) pss_nil)), ?_⟩
    walk_at "rr"
    refine y_within (K := K) (.int hi) fun H1 c1 => ?_
    rw [show within (.int hi) 0 100 = true by show (decide (0 ≤ hi) && decide (hi ≤ 100)) = true; rw [decide_eq_true (by omega : 0 ≤ hi), decide_eq_true l2]; rfl]
    walk_at "rr"
    refine y_within (K := K) (.int lo) fun H2 c2 => ?_
    rw [show within (.int lo) 0 hi = true by show (decide (0 ≤ lo) && decide (lo ≤ hi)) = true; rw [decide_eq_true l0, decide_eq_true l1]; rfl]
    walk_at "rr"
    exact k H2 (by walk_at "ch")
abbrev s_first_no_stronger : Stmt := top 40
abbrev N_first_no_stronger : List Str := ["strengths", "high", "at", "found"]
abbrev P_first_no_stronger : List Str := ["strengths", "high"]
theorem sc_first_no_stronger : FnScope N_first_no_stronger P_first_no_stronger (defScope s_first_no_stronger) := ⟨rfl, rfl, rfl, by decide +kernel, rfl, by decide +kernel, by decide +kernel⟩
theorem ok_first_no_stronger (F : Fun K "first_no_stronger" "first_no_stronger" s_first_no_stronger f fd) (T : Nob mg) (c_below : Cal P w K mg base CX0 "below" 1 P_below (spBelow K)) : FnOk P w K mg base CX0 2 f fd P_first_no_stronger (spFns K) := by
  refine F.ok sc_first_no_stronger (fun vs H Q E h => ?_) (fun cdv A outer s H vs Q E hr h => ?_)
  · obtain ⟨a, v, xs, ss, r, rfl, _⟩ := h; rfl
  · obtain ⟨a, v, xs, ss, r, rfl, ea, al, hv, fr, fs, hn, k⟩ := h
    refine ⟨_, (pss_cons (ps_for PassesOwn.never rfl (pi_enumS (K := K) (by rfl) T.enumerate (pa_Name (pv 0) pa_nil)) (pg_seqS (K := K) (n := 2) rfl (pgs_cons (pg_name (i := 2) sc_first_no_stronger.nd rfl (Or.inl rfl)) (pgs_cons (pg_name (i := 3) sc_first_no_stronger.nd rfl (Or.inl rfl)) pgs_nil))) (pss_one (ps_if (PW.pt (pw_and (pt_cmpR op_notN (pv 3) pe_non (nomark _)) (pw_and1 (pt_not (pt_val (pe_cal c_below hr rfl pass0 (pa_Name (pv 1) (pa_Name (pv 3) pa_nil)))))))) (pss_one (ps_ret (pv 2))) pss_nil)))
      (pss_one (ps_ret (pe_callB (callLenS (K := K)) (by rfl) T.len (by decide +kernel) (pa_Name (pv 0) pa_nil))))), ?_⟩
    walk_at "rr"
    refine r_enum ?_
    walk_at "rr"
    refine ⟨a, xs, rfl, SqL.of ea, ?_⟩
    refine f_enumI (K := K) none (fun i σ H2 => ∃ va vb, σ = [some (.ref a), some v, va, vb] ∧ (∀ j (hj : j < ss.length), j < i → noStr r ss[j] = false) ∧ Ch none H H2) ea al (fun _ z => nomatch z) ⟨_, _, rfl, fun j _ z => absurd z (Nat.not_lt_zero _), Ch.refl _⟩ (fun i σ H2 ⟨_, _, _, _, c⟩ => c) ?_ ?_
    · rintro i d x σ H2 H3 hd ⟨va, vb, rfl, hb, c2⟩ c3 hx
      rw [List.getElem?_map] at hd
      obtain ⟨o, ho, rfl⟩ := Option.map_eq_some_iff.mp hd
      have hi : i < ss.length := (List.getElem?_eq_some_iff.mp ho).1
      have eo : ss[i] = o := (List.getElem?_eq_some_iff.mp ho).2
      have nxt : noStr r o = false → ∀ j (hj : j < ss.length), j < i + 1 → noStr r ss[j] = false := fun z j hj hji => by
        rcases Nat.lt_or_ge j i with h | h
        · exact hb j hj h
        · have : j = i := by omega
          subst this
          rw [eo]; exact z
      cases o with
      | none =>
        unfold od at hx
        walk_at "rr"
        exact ⟨_, _, rfl, nxt rfl, by walk_at "ch"⟩
      | some y =>
        unfold od dq at hx
        walk_at "rr"
        rename_i u1 u2 j1 j2
        obtain ⟨ad, ys, rfl, _, _⟩ := id j2.ref
        rw [show decide (V.ref ad = V.non) = false from rfl]
        walk_at "rr"
        refine y_below (p := r) (q := y) (by walk_at "im") j2 (FQ.mono fr (by decide)) (FQ.mono (fs y (by rw [← eo]; exact List.getElem_mem hi)) (by decide)) ?_
        walk_at "rr"
        cases hlt : decide (r < y) with
        | true =>
          walk_at "rr"
          exact ⟨_, _, rfl, nxt (by show (!decide (r < y)) = false; rw [hlt]; rfl), by walk_at "ch"⟩
        | false =>
          walk_at "rr"
          have e : ss.findIdx (noStr r) = i := (List.findIdx_eq hi).mpr ⟨by rw [eo]; show (!decide (r < y)) = true; rw [hlt]; rfl, fun j hj => hb j (by omega) hj⟩
          have kk := k H3 (by walk_at "ch")
          rw [e] at kk
          exact kk
    · rintro σ H2 ⟨va, vb, rfl, hb, c2⟩
      have e : ss.findIdx (noStr r) = ss.length := List.findIdx_eq_length.mpr fun x hx => by
        obtain ⟨j, hj, rfl⟩ := List.getElem_of_mem hx
        exact hb j hj (by rw [List.length_map]; exact hj)
      walk_at "rr"
      (try refine r_lenL (SqL.of (c2.ls ea)) ?_)
      have kk := k H2 c2
      rw [e] at kk
      rw [al.length, List.length_map]
      exact kk
end


section
variable {P : Program} {w : World} {K : PySem.W.Frag} {mg : Str → Option Value} {base : Heap} {f : Addr} {fd : FuncData}
abbrev s_first_weaker : Stmt := top 41
abbrev N_first_weaker : List Str := ["strengths", "start", "low", "at", "found"]
abbrev P_first_weaker : List Str := ["strengths", "start", "low"]
theorem sc_first_weaker : FnScope N_first_weaker P_first_weaker (defScope s_first_weaker) := ⟨rfl, rfl, rfl, by decide +kernel, rfl, by decide +kernel, by decide +kernel⟩
theorem ok_first_weaker (F : Fun K "first_weaker" "first_weaker" s_first_weaker f fd) (T : Nob mg) (c_below : Cal P w K mg base CX0 "below" 1 P_below (spBelow K)) : FnOk P w K mg base CX0 2 f fd P_first_weaker (spFw K) := by
  refine F.ok sc_first_weaker (fun vs H Q E h => ?_) (fun cdv A outer s H vs Q E hr h => ?_)
  · obtain ⟨a, v, xs, ss, r, st, rfl, _⟩ := h; rfl
  · obtain ⟨a, v, xs, ss, r, st, rfl, ea, al, hv, fr, fs, hn, hst, k⟩ := h
    have lx : xs.length = ss.length := by rw [al.length, List.length_map]
    refine ⟨_, (pss_cons (ps_for PassesOwn.never rfl (pi_range2 (by rfl) T.range (pa_Name (pv 1) (pa_Call (pe_callB (callLenS (K := K)) (by rfl) T.len (by decide +kernel) (pa_Name (pv 0) pa_nil)) pa_nil))) (pg_name (i := 3) sc_first_weaker.nd rfl (Or.inl rfl)) (pss_cons (ps_set_Subscript (i := 4) sc_first_weaker.nd rfl (Or.inl rfl) (pe_ix (ixS (K := K)) (pv 0) (pv 3) (fun _ _ => rfl)))
      (pss_one (ps_if (PW.pt (pw_and (pt_cmpR op_notN (pv 4) pe_non (nomark _)) (pw_and1 (pt_val (pe_cal c_below hr rfl pass0 (pa_Name (pv 4) (pa_Name (pv 2) pa_nil))))))) (pss_one (ps_ret (pv 3))) pss_nil))))
      (pss_one (ps_ret (pe_callB (callLenS (K := K)) (by rfl) T.len (by decide +kernel) (pa_Name (pv 0) pa_nil))))), ?_⟩
    walk_at "rr"
    refine ⟨⟨by omega, by omega, by omega, by omega⟩, f_range (fun i σ H2 => ∃ va vb, σ = [some (.ref a), some (.int st), some v, va, vb] ∧ (∀ j (hj : st + j < ss.length), j < i → weakr r ss[st + j] = false) ∧ Ch none H H2) ⟨_, _, rfl, fun j _ z => absurd z (Nat.not_lt_zero _), Ch.refl _⟩ ?_ ?_⟩
    · rintro i σ H2 hi ⟨va, vb, rfl, hb, c2⟩
      have hi2 : st + i < ss.length := by omega
      obtain ⟨u, hu, iu⟩ := (al.ch c2).at (i := st + i) (d := od ss[st + i]) (by rw [List.getElem?_map, List.getElem?_eq_getElem hi2]; rfl)
      have nxt : weakr r ss[st + i] = false → ∀ j (hj : st + j < ss.length), j < i + 1 → weakr r ss[st + j] = false := fun z j hj hji => by
        rcases Nat.lt_or_ge j i with h | h
        · exact hb j hj h
        · have : j = i := by omega
          subst this; exact z
      walk_at "rr"
      refine r_ixL (SqL.of (c2.ls ea)) (v := u) (by rw [show (st : Int) + (i : Int) = ((st + i : Nat) : Int) by omega]; exact atI_nat hu) ?_
      walk_at "rr"
      cases hc : ss[st + i] with
      | none =>
        rw [hc] at iu
        have : u = .non := by cases iu; rfl
        subst this
        walk_at "rr"
        exact ⟨_, _, rfl, nxt (by rw [hc]; rfl), by walk_at "ch"⟩
      | some y =>
        rw [hc] at iu
        have iu : Im K H2 u (dq y) := iu
        obtain ⟨ad, ys, rfl, _, _⟩ := id iu.ref
        rw [show decide (V.ref ad = V.non) = false from rfl]
        walk_at "rr"
        refine y_below (p := y) (q := r) iu (by walk_at "im") (FQ.mono (fs y (by rw [← hc]; exact List.getElem_mem hi2)) (by decide)) (FQ.mono fr (by decide)) ?_
        walk_at "rr"
        cases hlt : decide (y < r) with
        | false =>
          walk_at "rr"
          exact ⟨_, _, rfl, nxt (by rw [hc]; exact hlt), by walk_at "ch"⟩
        | true =>
          walk_at "rr"
          have e : (ss.drop st).findIdx (weakr r) = i := (List.findIdx_eq (by rw [List.length_drop]; omega)).mpr ⟨by rw [List.getElem_drop, hc]; exact hlt, fun j hj => by rw [List.getElem_drop]; exact hb j (by omega) hj⟩
          have kk := k H2 (by walk_at "ch")
          rw [e] at kk
          rw [show (st : Int) + (i : Int) = ((st + i : Nat) : Int) by omega]
          exact kk
    · rintro σ H2 ⟨va, vb, rfl, hb, c2⟩
      have e : (ss.drop st).findIdx (weakr r) = (ss.drop st).length := List.findIdx_eq_length.mpr fun x hx => by
        obtain ⟨j, hj, rfl⟩ := List.getElem_of_mem hx
        rw [List.length_drop] at hj
        rw [List.getElem_drop]
        exact hb j (by omega) (by omega)
      walk_at "rr"
      (try refine r_lenL (SqL.of (c2.ls ea)) ?_)
      have kk := k H2 c2
      rw [e, List.length_drop, show st + (ss.length - st) = ss.length by omega] at kk
      rw [lx]
      exact kk
end


section
variable {P : Program} {w : World} {K : PySem.W.Frag} {mg : Str → Option Value} {base : Heap} {f : Addr} {fd : FuncData}
abbrev s_cut_by : Stmt := top 42
abbrev N_cut_by : List Str := ["still", "charge", "high", "low", "strengths", "row", "heart_from"]
abbrev P_cut_by : List Str := ["still", "charge", "high", "low"]
theorem sc_cut_by : FnScope N_cut_by P_cut_by (defScope s_cut_by) := ⟨rfl, rfl, rfl, by decide +kernel, rfl, by decide +kernel, by decide +kernel⟩
theorem ok_cut_by {C_NoNumber : Addr} (F : Fun K "cut_by" "cut_by" s_cut_by f fd) (T : Nob mg) (c_rows_of : Cal P w K mg base CX0 "rows_of" 44 P_rows_of (spRows K)) (c_strength : Cal P w K mg base CX0 "strength" 37 P_strength (spStr K)) (c_check_strengths : Cal P w K mg base CX0 "check_strengths" 3 P_check_strengths (spChkS)) (c_fraction : Cal P w K mg base (CXE P w) "fraction" 34 P_fraction (spFrac K C_NoNumber)) (c_first_no_stronger : Cal P w K mg base CX0 "first_no_stronger" 2 P_first_no_stronger (spFns K)) (c_first_weaker : Cal P w K mg base CX0 "first_weaker" 2 P_first_weaker (spFw K)) : FnOk P w K mg base CX0 45 f fd P_cut_by (spCutBy K) := by
  refine F.ok sc_cut_by (fun vs H Q E h => ?_) (fun cdv A outer s H vs Q E hr h => ?_)
  · obtain ⟨v1, v3, d, ds, loss, l, hi, lo, rfl, _⟩ := h; rfl
  · obtain ⟨v1, v3, d, ds, loss, l, hi, lo, rfl, h1, S, h3, lq, l0, l1, l2, k⟩ := h
    have n8 := S.n8
    have lr : (rwsOf ds loss l).length ≤ 1000 := by unfold rwsOf; rw [List.length_map]; omega
    have fq := rws_fq S lq
    refine ⟨_, (pss_cons (ps_setLc (i := 4) (own := [("row", 5)]) (by rfl) sc_cut_by.nd rfl rfl (sw_true rfl rfl rfl (by decide +kernel)) (pi_seqS (K := K) (pe_cal c_rows_of hr rfl pass0 (pa_Name (pv 0) (pa_Name (pv 1) pa_nil)))) (blkOk_by (own := [("row", 5)]) (N := N_cut_by) (sc := defScope s_cut_by) (by first | decide +kernel | exact rfl)) (fun _ _ _ _ _ => (pg_name (i := 5) sc_cut_by.nd rfl (Or.inl rfl))) (fun _ _ _ _ _ => pts_nil) (fun _ _ _ _ _ => (pe_cal c_strength hr rfl pass0 (pa_Name (pv 5) pa_nil))))
      (pss_cons (ps_expr (pe_cal c_check_strengths hr rfl pass0 (pa_Name (pv 2) (pa_Name (pv 3) pa_nil))))
      (pss_cons (ps_set_Call (i := 6) sc_cut_by.nd rfl (Or.inl rfl) (pe_cal c_first_no_stronger hr rfl pass0 (pa_Name (pv 4) (pa_Call (pe_cal c_fraction hr rfl passE0 (pa_Name (pv 2) (pa_Constant pe_int pa_nil))) pa_nil))))
      (pss_one (ps_ret (pe_tup (pa_Name (pv 6) (pa_Call (pe_cal c_first_weaker hr rfl pass0 (pa_Name (pv 4) (pa_Name (pv 6) (pa_Call (pe_cal c_fraction hr rfl passE0 (pa_Name (pv 3) (pa_Constant pe_int pa_nil))) pa_nil)))) pa_nil)))))))), ?_⟩
    walk_at "rr"
    refine r_iT ?_
    walk_at "rr"
    refine y_rows h1 S h3 lq.p1 lq.p2 (lq.f1.mono (by decide)) (lq.f2.mono (by decide)) fun v H1 c1 m1 => ?_
    refine c_tupD (K := K) (fun i es => es = (((rwsOf ds loss l).map strO).take i).map od) (by rw [List.length_map]; exact lr) m1 rfl ?_ ?_
    · intro i H2 es x d2 hd hx c2 hl e N2 S2 hN
      rw [List.getElem?_map] at hd
      obtain ⟨m, hm, rfl⟩ := Option.map_eq_some_iff.mp hd
      have hi : i < (rwsOf ds loss l).length := (List.getElem?_eq_some_iff.mp hm).1
      have f := fq m (List.mem_of_getElem? hm)
      walk_at "rr"
      refine y_str hx (f.1.mono (by decide)) (f.2.1.mono (by decide)) fun u H3 c3 m3 => ?_
      rw [strD_od] at m3
      refine hN _ _ _ m3 c3 ?_
      show _ = List.map od (List.take (i + 1) _)
      rw [e, List.take_succ_eq_append_getElem (by rw [List.length_map]; exact hi), List.map_append, List.getElem_map, show (rwsOf ds loss l)[i] = m from (List.getElem?_eq_some_iff.mp hm).2]
      rfl
    · intro D H2 us es nD eD al c2 hl e
      rw [e, List.take_of_length_le (by rw [List.length_map, List.length_map]; exact Nat.le_refl _)] at al
      have fs : ∀ x, some x ∈ (rwsOf ds loss l).map strO → FQ 8999 x := fun x hx => by
        obtain ⟨m, hm, em⟩ := List.mem_map.mp hx
        have f := fq m hm
        exact (strO_fq f.1 f.2.1 em).mono (by decide)
      have fh : FQ 8999 (Rat.divInt hi 100) := FQ.mono (n := 64) (FQ.divInt (by decide) (by show hi.natAbs < 2 ^ 64; omega) (by show (100 : Int).natAbs < 2 ^ 64; decide)) (by decide)
      have fl : FQ 8999 (Rat.divInt lo 100) := FQ.mono (n := 64) (FQ.divInt (by decide) (by show lo.natAbs < 2 ^ 64; omega) (by show (100 : Int).natAbs < 2 ^ 64; decide)) (by decide)
      walk_at "rr"
      refine ⟨hi, lo, rfl, l0, l1, l2, fun H3 c3 => ?_⟩
      walk_at "rr"
      refine y_fns (by walk_at "ls") (ImAll.ch (by assumption) (ImAll.ch c3 al)) (by assumption) fh fs (by rw [List.length_map]; exact lr) fun H5 c5 => ?_
      walk_at "rr"
      refine y_fw (by walk_at "ls") (ImAll.ch (by assumption) (ImAll.ch c5 (ImAll.ch (by assumption) (ImAll.ch c3 al)))) (by assumption) fl fs (by rw [List.length_map]; exact lr) List.findIdx_le_length fun H7 c7 => ?_
      walk_at "rr"
      rename_i im
      exact k _ _ (by walk_at "ch") im
end


section
variable {P : Program} {w : World} {K : PySem.W.Frag} {mg : Str → Option Value} {base : Heap} {f : Addr} {fd : FuncData}
abbrev s__law_take : Stmt := top 46
abbrev N__law_take : List Str := ["_law_purse_here", "_law_many", "_law_old", "_law_taken"]
abbrev P__law_take : List Str := ["_law_purse_here", "_law_many"]
theorem sc__law_take : FnScope N__law_take P__law_take (defScope s__law_take) := ⟨rfl, rfl, rfl, by decide +kernel, rfl, by decide +kernel, by decide +kernel⟩
theorem ok__law_take (F : Fun K "_law_take" "_law_take" s__law_take f fd) (T : Nob mg) : FnOk P w K mg base CX0 1 f fd P__law_take (spTake) := by
  refine F.ok sc__law_take (fun vs H Q E h => ?_) (fun cdv A outer s H vs Q E hr h => ?_)
  · obtain ⟨p, m, rfl, _⟩ := h; rfl
  · obtain ⟨p, m, rfl, ⟨a, b, c, hp, hb⟩, m0, m1, k⟩ := h
    refine ⟨_, (pss_cons (ps_asg (pe_op (opAddS (K := K)) (pe_ix (ixS (K := K)) (pv 0) pe_int (fun _ _ => rfl)) pe_int) (pg_sub (pv 0) pe_int set_list))
      (pss_cons (ps_set_Subscript (i := 2) sc__law_take.nd rfl (Or.inl rfl) (pe_ix (ixS (K := K)) (pv 0) pe_int (fun _ _ => rfl)))
      (pss_cons (ps_asg (pe_op op_modN (pe_op (opAddS (K := K)) (pe_op (opAddS (K := K)) (pe_op opMul (pv 2) (pe_op (opAddS (K := K)) (pe_op op_modN (pv 2) pe_int) pe_int)) (pe_op opMul pe_int (pe_ix (ixS (K := K)) (pv 0) pe_int (fun _ _ => rfl)))) pe_int) pe_int) (pg_sub (pv 0) pe_int set_list))
      (pss_cons (ps_if (pt_cmpR op_gt (pe_ix (ixS (K := K)) (pv 0) pe_int (fun _ _ => rfl)) pe_int (nomark _)) (pss_cons (ps_set_BinOp (i := 3) sc__law_take.nd rfl (Or.inl rfl) (pe_op op_modN (pe_ix (ixS (K := K)) (pv 0) pe_int (fun _ _ => rfl)) (pv 1)))
      (pss_cons (ps_asg (pe_op op_fdivB (pe_ix (ixS (K := K)) (pv 0) pe_int (fun _ _ => rfl)) (pv 1)) (pg_sub (pv 0) pe_int set_list))
      (pss_one (ps_ret (pv 3))))) pss_nil)
      (pss_one (ps_ret (pe_op op_modN (pe_op op_fdivB (pe_ix (ixS (K := K)) (pv 0) pe_int (fun _ _ => rfl)) pe_int) (pv 1)))))))), ?_⟩
    walk_at "rr"
    refine ite2 (fun h1 => ?_) (fun h1 => ?_)
    · walk_at "rr"
      exact k _ _ (Int.emod_nonneg _ (by omega)) (Int.emod_lt_of_pos _ m0) (((Ch.at hp).trans (Ch.at upd_same)).trans (Ch.at upd_same)) ⟨_, _, _, upd_same, Int.ediv_nonneg hb (by omega)⟩
    · walk_at "rr"
      exact k _ _ (Int.emod_nonneg _ (by omega)) (Int.emod_lt_of_pos _ m0) ((Ch.at hp).trans (Ch.at upd_same)) ⟨_, _, _, upd_same, hb⟩
abbrev s__law_low : Stmt := top 47
abbrev N__law_low : List Str := ["_law_top", "_law_bottom", "_law_a", "_law_b"]
abbrev P__law_low : List Str := ["_law_top", "_law_bottom"]
theorem sc__law_low : FnScope N__law_low P__law_low (defScope s__law_low) := ⟨rfl, rfl, rfl, by decide +kernel, rfl, by decide +kernel, by decide +kernel⟩
theorem ok__law_low (F : Fun K "_law_low" "_law_low" s__law_low f fd) (T : Nob mg) (g_b : BM mg base) (g_tree : P.given.tree = none) : FnOk P w K mg base CX0 33 f fd P__law_low (spLow K) := by
  refine F.ok sc__law_low (fun vs H Q E h => ?_) (fun cdv A outer s H vs Q E hr h => ?_)
  · obtain ⟨t, b, rfl, _⟩ := h; rfl
  · obtain ⟨t, b, rfl, b0, hb, k⟩ := h
    refine ⟨_, (pss_cons (ps_par (i := 2) (j := 3) (by rfl) sc__law_low.nd rfl rfl (by decide) rfl rfl (pa_Call (pe_callB call_abs (by rfl) T.abs (by decide +kernel) (pa_Name (pv 0) pa_nil)) (pa_Name (pv 1) pa_nil)) (by rfl))
      (pss_cons (ps_while PassesOwn.never (pt_cmpR op_gt (pv 3) pe_int (nomark _)) (pss_one (ps_par (i := 2) (j := 3) (by rfl) sc__law_low.nd rfl rfl (by decide) rfl rfl (pa_Name (pv 3) (pa_BinOp (pe_op op_modN (pv 2) (pv 3)) pa_nil)) (by rfl))))
      (pss_one (ps_ret (pe_tup (pa_BinOp (pe_op (op_fdivP hr (by decide) g_b g_tree) (pv 0) (pv 2)) (pa_BinOp (pe_op (op_fdivP hr (by decide) g_b g_tree) (pv 1) (pv 2)) pa_nil))))))), ?_⟩
    walk_at "rr"
    refine r_while (fun x : Int × Int => [some (.int t), some (.int b), some (.int x.1), some (.int x.2)]) (fun x => Int.gcd x.1 x.2 = Int.gcd t b ∧ 0 ≤ x.1 ∧ 0 ≤ x.2) (fun x => x.2.natAbs) ((if t < 0 then -t else t), b) rfl ⟨?_, ?_, ?_⟩ (fun x hx => ?_)
    · show Int.gcd (if t < 0 then -t else t) b = Int.gcd t b
      split
      · exact Int.neg_gcd
      · rfl
    · show 0 ≤ (if t < 0 then -t else t)
      split <;> omega
    · exact Int.le_of_lt b0
    · obtain ⟨hx, x0, y0⟩ := hx
      walk_at "rr"
      refine ite2 (fun h1 => ?_) (fun h1 => ?_)
      · refine r_turn (a := x) rfl ?_
        have h2 : 0 < x.2 := by simpa using h1
        walk_at "rr"
        have e : x.1.fmod x.2 = x.1 % x.2 := Int.fmod_eq_emod_of_nonneg _ y0
        refine r_wend (a' := (x.2, x.1 % x.2)) rfl ⟨?_, y0, Int.emod_nonneg _ (by omega)⟩ ?_
        · rw [← hx, ← gcd_step x.1 x.2, e]
        · rw [← e]; exact fmod_less _ (by omega)
      · have h2 : x.2 = 0 := by
          have : ¬ 0 < x.2 := by simpa using h1
          omega
        have e : x.1 = (Int.gcd t b : Int) := by rw [← hx, h2, Int.gcd_zero]; omega
        have hg := gcd_pos (t := t) (b := b) (by omega)
        have hgb : Bd 400000 x.1 := by
          rw [e]
          exact Bd.le hb (by have := Nat.le_of_dvd (Int.natAbs_pos.mpr (by omega)) (Int.gcd_dvd_natAbs_right t b); omega)
        have x1 : 0 < x.1 := by omega
        walk_at "rr"
        rename_i im
        refine k _ _ (by assumption) ?_
        rw [dq_of (p := (t / x.1, b / x.1)) (r := Rat.divInt t b) (by rw [← frac_fq (by omega), frac_pos b0, ← e])] at im
        exact im
end


section
variable {P : Program} {w : World} {K : PySem.W.Frag} {mg : Str → Option Value} {base : Heap} {f : Addr} {fd : FuncData}
abbrev s__law_cell : Stmt := top 44
abbrev N__law_cell : List Str := ["_law_script", "_law_k"]
abbrev P__law_cell : List Str := ["_law_script", "_law_k"]
theorem sc__law_cell : FnScope N__law_cell P__law_cell (defScope s__law_cell) := ⟨rfl, rfl, rfl, by decide +kernel, rfl, by decide +kernel, by decide +kernel⟩
theorem ok__law_cell (F : Fun K "_law_cell" "_law_cell" s__law_cell f fd) (T : Nob mg) : FnOk P w K mg base CX0 1 f fd P__law_cell (spCell K) := by
  refine F.ok sc__law_cell (fun vs H Q E h => ?_) (fun cdv A outer s H vs Q E hr h => ?_)
  · obtain ⟨a, ns, n, rfl, _⟩ := h; rfl
  · obtain ⟨a, ns, n, rfl, hs, n0, k⟩ := h
    refine ⟨_, (pss_cons (ps_if (pt_cmpR op_lt (pv 1) (pe_callB (callLenS (K := K)) (by rfl) T.len (by decide +kernel) (pa_Name (pv 0) pa_nil)) (nomark _)) (pss_one (ps_ret (pe_ix (ixS (K := K)) (pv 0) (pv 1) (fun _ _ => rfl)))) pss_nil)
      (pss_one (ps_ret (pe_op (opAddS (K := K)) (pe_op (opAddS (K := K)) (pe_op opMul (pe_callB (cr_sumS (K := K) rfl) (by rfl) T.sum (by decide +kernel) (pa_Subscript (pe_slice (slB (K := K)) (pv 0) po_none (po_some pe_int)) pa_nil)) pe_int) (pe_op opMul pe_int (pe_op (opAddS (K := K)) (pv 1) pe_int))) pe_int)))), ?_⟩
    walk_at "rr"
    refine ite2 (fun h1 => ?_) (fun h1 => ?_)
    · have h2 : n < (ns.length : Int) := by simpa using h1
      walk_at "rr"
      obtain ⟨i, rfl⟩ := Int.eq_ofNat_of_zero_le n0
      have h3 : i < ns.length := by omega
      refine r_ixL hs (atI_nat (v := V.int ns[i]) (by simp [h3])) ?_
      exact k _ _ (Ch.refl H)
    · walk_at "rr"
      refine i_slL hs fun p H1 hp c1 e1 => ?_
      obtain ⟨ms, em⟩ := cutV_ints ns none (some 3)
      rw [em] at e1
      walk_at "rr"
      refine r_sum (ns := ms) (.inl (.inl e1)) ?_
      walk_at "rr"
      exact k _ _ c1
abbrev s__law_purse : Stmt := top 45
abbrev N__law_purse : List Str := ["_law_cell_here", "_law_digits"]
abbrev P__law_purse : List Str := ["_law_cell_here"]
theorem sc__law_purse : FnScope N__law_purse P__law_purse (defScope s__law_purse) := ⟨rfl, rfl, rfl, by decide +kernel, rfl, by decide +kernel, by decide +kernel⟩
theorem ok__law_purse (F : Fun K "_law_purse" "_law_purse" s__law_purse f fd) (T : Nob mg) : FnOk P w K mg base CX0 1 f fd P__law_purse (spPurse) := by
  refine F.ok sc__law_purse (fun vs H Q E h => ?_) (fun cdv A outer s H vs Q E hr h => ?_)
  · obtain ⟨c, rfl, _⟩ := h; rfl
  · obtain ⟨c, rfl, k⟩ := h
    refine ⟨_, (pss_cons (ps_set_Constant (i := 1) sc__law_purse.nd rfl (Or.inl rfl) pe_int)
      (pss_cons (ps_if (PW.pt (pw_or (pt_cmpR op_lt (pv 0) pe_int (nomark _)) (pw_or1 (pt_cmpR op_ge (pv 0) (pe_op op_pow pe_int pe_int) (nomark _))))) (pss_one (ps_set_Call (i := 1) sc__law_purse.nd rfl (Or.inl rfl) (pe_callB call_abs (by rfl) T.abs (by decide +kernel) (pa_Name (pv 0) pa_nil)))) pss_nil)
      (pss_one (ps_ret (pe_lst (pa_BinOp (pe_op op_modN (pv 0) pe_int) (pa_Name (pv 1) (pa_Constant pe_int pa_nil)))))))), ?_⟩
    walk_at "rr"
    have fin : ∀ b : Int, 0 ≤ b → ∀ p H', H p = none → Ch none H H' → H' p = some (.lst [.int (c % 2147483629), .int b, .int 0]) → Q (.ref p) H' := fun b hb p H' hp ch e => k p _ hp ch ⟨_, _, _, e, hb⟩
    refine ite2 (fun h1 => ?_) (fun h1 => ?_)
    · walk_at "rr"
      refine fin _ ?_ _ _ (by assumption) (by assumption) (by assumption); split <;> omega
    · walk_at "rr"
      refine ite2 (fun h2 => ?_) (fun h2 => ?_)
      · walk_at "rr"
        refine fin _ ?_ _ _ (by assumption) (by assumption) (by assumption); split <;> omega
      · walk_at "rr"
        refine fin _ ?_ _ _ (by assumption) (by assumption) (by assumption); omega
end


section
variable {P : Program} {w : World} {K : PySem.W.Frag} {mg : Str → Option Value} {base : Heap} {f : Addr} {fd : FuncData}
abbrev s__law_add : Stmt := top 48
abbrev N__law_add : List Str := ["_law_one", "_law_other"]
abbrev P__law_add : List Str := ["_law_one", "_law_other"]
theorem sc__law_add : FnScope N__law_add P__law_add (defScope s__law_add) := ⟨rfl, rfl, rfl, by decide +kernel, rfl, by decide +kernel, by decide +kernel⟩
def spLAdd (K : PySem.W.Frag) : Sp := fun vs H Q _ => ∃ v1 v2 p q, vs = [v1, v2] ∧ Im K H v1 (dq p) ∧ Im K H v2 (dq q) ∧ FQ 4000 p ∧ FQ 4000 q ∧ ∀ v H', Ch none H H' → Im K H' v (dq (p + q)) → Q v H'
theorem y_ladd {K : PySem.W.Frag} {H : Hp} {Q : VK} {E : XK} {v1 v2 : V} {p q : Rat} (h1 : Im K H v1 (dq p)) (h2 : Im K H v2 (dq q)) (f1 : FQ 4000 p) (f2 : FQ 4000 q) (k : ∀ v H', Ch none H H' → Im K H' v (dq (p + q)) → Q v H') : spLAdd K ([v1, v2] ++ []) H Q E := ⟨v1, v2, p, q, rfl, h1, h2, f1, f2, k⟩
theorem ok__law_add (F : Fun K "_law_add" "_law_add" s__law_add f fd) (T : Nob mg) (c__law_low : Cal P w K mg base CX0 "_law_low" 33 P__law_low (spLow K)) : FnOk P w K mg base CX0 34 f fd P__law_add (spLAdd K) := by
  refine F.ok sc__law_add (fun vs H Q E h => ?_) (fun cdv A outer s H vs Q E hr h => ?_)
  · obtain ⟨v1, v2, p, q, rfl, _⟩ := h; rfl
  · obtain ⟨v1, v2, p, q, rfl, i1, i2, ⟨b1, b2⟩, ⟨b3, b4⟩, k⟩ := h
    unfold dq at i1 i2
    have e1 : Bd 1000000 p.num := b1.mono (by decide)
    have e2 : Bd 1000000 q.num := b3.mono (by decide)
    have e3 : Bd 1000000 (p.den : Int) := b2.mono (by decide)
    have e4 : Bd 1000000 (q.den : Int) := b4.mono (by decide)
    refine ⟨_, (pss_one (ps_ret (pe_cal c__law_low hr rfl pass0 (pa_BinOp (pe_op (opAddS (K := K)) (pe_op opMul (pe_ix (ixS (K := K)) (pv 0) pe_int (fun _ _ => rfl)) (pe_ix (ixS (K := K)) (pv 1) pe_int (fun _ _ => rfl))) (pe_op opMul (pe_ix (ixS (K := K)) (pv 1) pe_int (fun _ _ => rfl)) (pe_ix (ixS (K := K)) (pv 0) pe_int (fun _ _ => rfl)))) (pa_BinOp (pe_op opMul (pe_ix (ixS (K := K)) (pv 0) pe_int (fun _ _ => rfl)) (pe_ix (ixS (K := K)) (pv 1) pe_int (fun _ _ => rfl))) pa_nil))))), ?_⟩
    walk_at "rr"
    refine y_low (Int.mul_pos (by have := p.den_pos; omega) (by have := q.den_pos; omega)) ((b2.mul b4).mono (by decide)) fun v H1 c1 m1 => ?_
    rw [← add_divInt] at m1
    exact k v H1 c1 m1
abbrev s__law_mul : Stmt := top 49
abbrev N__law_mul : List Str := ["_law_one", "_law_other"]
abbrev P__law_mul : List Str := ["_law_one", "_law_other"]
theorem sc__law_mul : FnScope N__law_mul P__law_mul (defScope s__law_mul) := ⟨rfl, rfl, rfl, by decide +kernel, rfl, by decide +kernel, by decide +kernel⟩
theorem ok__law_mul (F : Fun K "_law_mul" "_law_mul" s__law_mul f fd) (T : Nob mg) (c__law_low : Cal P w K mg base CX0 "_law_low" 33 P__law_low (spLow K)) : FnOk P w K mg base CX0 34 f fd P__law_mul (spMul K) := by
  refine F.ok sc__law_mul (fun vs H Q E h => ?_) (fun cdv A outer s H vs Q E hr h => ?_)
  · obtain ⟨v1, v2, p, q, rfl, _⟩ := h; rfl
  · obtain ⟨v1, v2, p, q, rfl, i1, i2, ⟨b1, b2⟩, ⟨b3, b4⟩, k⟩ := h
    unfold dq at i1 i2
    have e1 : Bd 1000000 p.num := b1.mono (by decide)
    have e2 : Bd 1000000 q.num := b3.mono (by decide)
    have e3 : Bd 1000000 (p.den : Int) := b2.mono (by decide)
    have e4 : Bd 1000000 (q.den : Int) := b4.mono (by decide)
    refine ⟨_, (pss_one (ps_ret (pe_cal c__law_low hr rfl pass0 (pa_BinOp (pe_op opMul (pe_ix (ixS (K := K)) (pv 0) pe_int (fun _ _ => rfl)) (pe_ix (ixS (K := K)) (pv 1) pe_int (fun _ _ => rfl))) (pa_BinOp (pe_op opMul (pe_ix (ixS (K := K)) (pv 0) pe_int (fun _ _ => rfl)) (pe_ix (ixS (K := K)) (pv 1) pe_int (fun _ _ => rfl))) pa_nil))))), ?_⟩
    walk_at "rr"
    refine y_low (Int.mul_pos (by have := p.den_pos; omega) (by have := q.den_pos; omega)) ((b2.mul b4).mono (by decide)) fun v H1 c1 m1 => ?_
    rw [← mul_divInt] at m1
    exact k v H1 c1 m1
abbrev s__law_of : Stmt := top 52
abbrev N__law_of : List Str := ["_law_part", "_law_liquor_here"]
abbrev P__law_of : List Str := ["_law_part", "_law_liquor_here"]
theorem sc__law_of : FnScope N__law_of P__law_of (defScope s__law_of) := ⟨rfl, rfl, rfl, by decide +kernel, rfl, by decide +kernel, by decide +kernel⟩
theorem ok__law_of (F : Fun K "_law_of" "_law_of" s__law_of f fd) (T : Nob mg) (c__law_mul : Cal P w K mg base CX0 "_law_mul" 34 P__law_mul (spMul K)) : FnOk P w K mg base CX0 35 f fd P__law_of (spOf K) := by
  refine F.ok sc__law_of (fun vs H Q E h => ?_) (fun cdv A outer s H vs Q E hr h => ?_)
  · obtain ⟨v1, v2, p, l, rfl, _⟩ := h; rfl
  · obtain ⟨v1, v2, p, l, rfl, i1, i2, f1, f2, f3, k⟩ := h
    unfold L2.dl at i2
    refine ⟨_, (pss_one (ps_ret (pe_tup (pa_Call (pe_cal c__law_mul hr rfl pass0 (pa_Name (pv 0) (pa_Subscript (pe_ix (ixS (K := K)) (pv 1) pe_int (fun _ _ => rfl)) pa_nil))) (pa_Call (pe_cal c__law_mul hr rfl pass0 (pa_Name (pv 0) (pa_Subscript (pe_ix (ixS (K := K)) (pv 1) pe_int (fun _ _ => rfl)) pa_nil))) pa_nil))))), ?_⟩
    walk_at "rr"
    refine y_mul i1 (by assumption) f1 f2 fun va Ha ca ma => ?_
    walk_at "rr"
    refine y_mul (by walk_at "im") (by assumption) f1 f3 fun vb Hb cb mb => ?_
    walk_at "rr"
    rename_i im
    exact k _ _ (by walk_at "ch") im
abbrev s__law_less : Stmt := top 50
abbrev N__law_less : List Str := ["_law_one", "_law_other"]
abbrev P__law_less : List Str := ["_law_one", "_law_other"]
theorem sc__law_less : FnScope N__law_less P__law_less (defScope s__law_less) := ⟨rfl, rfl, rfl, by decide +kernel, rfl, by decide +kernel, by decide +kernel⟩
def spBelow4 (K : PySem.W.Frag) : Sp := fun vs H Q _ => ∃ v1 v2 p q, vs = [v1, v2] ∧ Im K H v1 (dq p) ∧ Im K H v2 (dq q) ∧ FQ 8999 p ∧ FQ 8999 q ∧ Q (.bl (decide (p < q))) H
theorem y_less {K : PySem.W.Frag} {H : Hp} {Q : VK} {E : XK} {v1 v2 : V} {p q : Rat} (h1 : Im K H v1 (dq p)) (h2 : Im K H v2 (dq q)) (f1 : FQ 8999 p) (f2 : FQ 8999 q) (k : Q (.bl (decide (p < q))) H) : spBelow4 K ([v1, v2] ++ []) H Q E := ⟨v1, v2, p, q, rfl, h1, h2, f1, f2, k⟩
theorem ok__law_less (F : Fun K "_law_less" "_law_less" s__law_less f fd) (T : Nob mg) : FnOk P w K mg base CX0 1 f fd P__law_less (spBelow4 K) := by
  refine F.ok sc__law_less (fun vs H Q E h => ?_) (fun cdv A outer s H vs Q E hr h => ?_)
  · obtain ⟨v1, v2, p, q, rfl, _⟩ := h; rfl
  · obtain ⟨v1, v2, p, q, rfl, i1, i2, ⟨b1, b2⟩, ⟨b3, b4⟩, k⟩ := h
    unfold dq at i1 i2
    have h1 : Bd 1000000 p.num := b1.mono (by decide)
    have h2 : Bd 1000000 q.num := b3.mono (by decide)
    have h3 : Bd 1000000 (p.den : Int) := b2.mono (by decide)
    have h4 : Bd 1000000 (q.den : Int) := b4.mono (by decide)
    refine ⟨_, (pss_one (ps_ret (pe_cmpR op_lt (pe_op opMul (pe_ix (ixS (K := K)) (pv 0) pe_int (fun _ _ => rfl)) (pe_ix (ixS (K := K)) (pv 1) pe_int (fun _ _ => rfl))) (pe_op opMul (pe_ix (ixS (K := K)) (pv 1) pe_int (fun _ _ => rfl)) (pe_ix (ixS (K := K)) (pv 0) pe_int (fun _ _ => rfl))) (nomark _)))), ?_⟩
    walk_at "rr"
    rw [show decide (p.num * (q.den : Int) < q.num * (p.den : Int)) = decide (p < q) from decide_eq_decide.mpr (below_iff p q)]
    exact k
abbrev s__law_all : Stmt := top 53
abbrev N__law_all : List Str := ["_law_liquor_here"]
abbrev P__law_all : List Str := ["_law_liquor_here"]
theorem sc__law_all : FnScope N__law_all P__law_all (defScope s__law_all) := ⟨rfl, rfl, rfl, by decide +kernel, rfl, by decide +kernel, by decide +kernel⟩
theorem ok__law_all (F : Fun K "_law_all" "_law_all" s__law_all f fd) (T : Nob mg) (c__law_add : Cal P w K mg base CX0 "_law_add" 34 P__law_add (spLAdd K)) : FnOk P w K mg base CX0 35 f fd P__law_all (spMs K) := by
  refine F.ok sc__law_all (fun vs H Q E h => ?_) (fun cdv A outer s H vs Q E hr h => ?_)
  · obtain ⟨v, l, rfl, _⟩ := h; rfl
  · obtain ⟨v, l, rfl, hv, f1, f2, k⟩ := h
    unfold L2.dl at hv
    refine ⟨_, (pss_one (ps_ret (pe_cal c__law_add hr rfl pass0 (pa_Subscript (pe_ix (ixS (K := K)) (pv 0) pe_int (fun _ _ => rfl)) (pa_Subscript (pe_ix (ixS (K := K)) (pv 0) pe_int (fun _ _ => rfl)) pa_nil))))), ?_⟩
    walk_at "rr"
    exact y_ladd (by assumption) (by assumption) f1 f2 fun u H1 c1 m1 => k u H1 c1 m1
end


section
variable {P : Program} {w : World} {K : PySem.W.Frag} {mg : Str → Option Value} {base : Heap} {f : Addr} {fd : FuncData}
abbrev s__law_both : Stmt := top 51
abbrev N__law_both : List Str := ["_law_one", "_law_other"]
abbrev P__law_both : List Str := ["_law_one", "_law_other"]
theorem sc__law_both : FnScope N__law_both P__law_both (defScope s__law_both) := ⟨rfl, rfl, rfl, by decide +kernel, rfl, by decide +kernel, by decide +kernel⟩
def dla (l m : Rat × Rat) : Rat × Rat := (l.1 + m.1, l.2 + m.2)
def spTog (K : PySem.W.Frag) : Sp := fun vs H Q _ => ∃ v u l m, vs = [v, u] ∧ Im K H v (dl l) ∧ Im K H u (dl m) ∧ FQ 4000 l.1 ∧ FQ 4000 l.2 ∧ FQ 4000 m.1 ∧ FQ 4000 m.2 ∧ ∀ w H', Ch none H H' → Im K H' w (dl (dla l m)) → Q w H'
theorem y_tog {K : PySem.W.Frag} {H : Hp} {Q : VK} {E : XK} {v u : V} {l m : Rat × Rat} (h1 : Im K H v (dl l)) (h2 : Im K H u (dl m)) (f1 : FQ 4000 l.1) (f2 : FQ 4000 l.2) (f3 : FQ 4000 m.1) (f4 : FQ 4000 m.2) (k : ∀ w H', Ch none H H' → Im K H' w (dl (dla l m)) → Q w H') : spTog K ([v, u] ++ []) H Q E := ⟨v, u, l, m, rfl, h1, h2, f1, f2, f3, f4, k⟩
theorem ok__law_both (F : Fun K "_law_both" "_law_both" s__law_both f fd) (T : Nob mg) (c__law_add : Cal P w K mg base CX0 "_law_add" 34 P__law_add (spLAdd K)) : FnOk P w K mg base CX0 35 f fd P__law_both (spTog K) := by
  refine F.ok sc__law_both (fun vs H Q E h => ?_) (fun cdv A outer s H vs Q E hr h => ?_)
  · obtain ⟨v, u, l, m, rfl, _⟩ := h; rfl
  · obtain ⟨v, u, l, m, rfl, h1, h2, f1, f2, f3, f4, k⟩ := h
    unfold L2.dl at h1 h2
    refine ⟨_, (pss_one (ps_ret (pe_tup (pa_Call (pe_cal c__law_add hr rfl pass0 (pa_Subscript (pe_ix (ixS (K := K)) (pv 0) pe_int (fun _ _ => rfl)) (pa_Subscript (pe_ix (ixS (K := K)) (pv 1) pe_int (fun _ _ => rfl)) pa_nil))) (pa_Call (pe_cal c__law_add hr rfl pass0 (pa_Subscript (pe_ix (ixS (K := K)) (pv 0) pe_int (fun _ _ => rfl)) (pa_Subscript (pe_ix (ixS (K := K)) (pv 1) pe_int (fun _ _ => rfl)) pa_nil))) pa_nil))))), ?_⟩
    walk_at "rr"
    refine y_ladd (p := l.1) (q := m.1) (by walk_at "im") (by walk_at "im") f1 f3 fun w1 H1 c1 m1 => ?_
    walk_at "rr"
    refine y_ladd (p := l.2) (q := m.2) (by walk_at "im") (by walk_at "im") f2 f4 fun w2 H2 c2 m2 => ?_
    walk_at "rr"
    rename_i im
    exact k _ _ (by walk_at "ch") im
abbrev s__law_heap : Stmt := top 54
abbrev N__law_heap : List Str := ["_law_liquors", "_law_heap_here", "_law_liquor_here"]
abbrev P__law_heap : List Str := ["_law_liquors"]
theorem sc__law_heap : FnScope N__law_heap P__law_heap (defScope s__law_heap) := ⟨rfl, rfl, rfl, by decide +kernel, rfl, by decide +kernel, by decide +kernel⟩
def spHeapT (K : PySem.W.Frag) : Sp := fun vs H Q _ => ∃ v ls, vs = [v] ∧ Im K H v (.tuple (List.map dl ls)) ∧ (∀ l ∈ ls, FQ 4000 (Prod.fst l) ∧ FQ 4000 (Prod.snd l)) ∧ (∀ i, i ≤ ls.length → FQ 4000 (sumL (ls.take i)).1 ∧ FQ 4000 (sumL (ls.take i)).2) ∧ ∀ u H', Ch none H H' → Im K H' u (dl (sumL ls)) → Q u H'
theorem y_heapT {K : PySem.W.Frag} {H : Hp} {Q : VK} {E : XK} {v : V} {ls : List (Rat × Rat)} (h : Im K H v (.tuple (List.map dl ls))) (fl : ∀ l ∈ ls, FQ 4000 (Prod.fst l) ∧ FQ 4000 (Prod.snd l)) (fs : ∀ i, i ≤ ls.length → FQ 4000 (sumL (ls.take i)).1 ∧ FQ 4000 (sumL (ls.take i)).2) (k : ∀ u H', Ch none H H' → Im K H' u (dl (sumL ls)) → Q u H') : spHeapT K ([v] ++ []) H Q E := ⟨v, ls, rfl, h, fl, fs, k⟩
theorem ok__law_heap (F : Fun K "_law_heap" "_law_heap" s__law_heap f fd) (T : Nob mg) (c__law_both : Cal P w K mg base CX0 "_law_both" 35 P__law_both (spTog K)) : FnOk P w K mg base CX0 36 f fd P__law_heap (spHeapT K) := by
  refine F.ok sc__law_heap (fun vs H Q E h => ?_) (fun cdv A outer s H vs Q E hr h => ?_)
  · obtain ⟨v, ls, rfl, _⟩ := h; rfl
  · obtain ⟨v, ls, rfl, hv, fl, fs, k⟩ := h
    refine ⟨_, (pss_cons (ps_set_Tuple (i := 1) sc__law_heap.nd rfl (Or.inl rfl) (pe_tup (pa_Tuple (pe_tup (pa_Constant pe_int (pa_Constant pe_int pa_nil))) (pa_Tuple (pe_tup (pa_Constant pe_int (pa_Constant pe_int pa_nil))) pa_nil))))
      (pss_cons (ps_for PassesOwn.never rfl (pi_seqS (K := K) (pv 0)) (pg_name (i := 2) sc__law_heap.nd rfl (Or.inl rfl)) (pss_one (ps_set_Call (i := 1) sc__law_heap.nd rfl (Or.inl rfl) (pe_cal c__law_both hr rfl pass0 (pa_Name (pv 1) (pa_Name (pv 2) pa_nil))))))
      (pss_one (ps_ret (pv 1))))), ?_⟩
    walk_at "rr"
    rename_i t1 H1 n1 c1 m1 t2 H2 n2 c2 m2 t3 H3 n3 c3 m3
    have m3 : Im K H3 (.ref t3) (dl (0, 0)) := m3
    have c13 := (c1.trans c2).trans c3
    refine r_iT ?_
    walk_at "rr"
    refine f_tupI (K := K) (es := ls.map dl) none (fun i σ H5 => ∃ hv vb, σ = [some v, some hv, vb] ∧ Im K H5 hv (dl (sumL (ls.take i))) ∧ Ch none H3 H5) (hv.ch c13) ⟨_, _, rfl, m3, Ch.refl _⟩ (fun i σ H5 ⟨_, _, _, _, c⟩ => c) ?_ ?_
    · rintro i d x σ H5 hd hx ⟨hv, vb, rfl, m5, c5⟩
      rw [List.getElem?_map] at hd
      obtain ⟨l, hl, rfl⟩ := Option.map_eq_some_iff.mp hd
      obtain ⟨hi, el⟩ := List.getElem?_eq_some_iff.mp hl
      have f1 := fl l (List.mem_of_getElem? hl)
      have f2 := fs i (by omega)
      walk_at "rr"
      refine y_tog m5 hx f2.1 f2.2 f1.1 f1.2 fun w H6 c6 m6 => ?_
      walk_at "rr"
      refine ⟨_, _, rfl, ?_, c5.trans c6⟩
      rw [sumL_take hi, el]
      exact m6
    · rintro σ H5 ⟨hv, vb, rfl, m5, c5⟩
      rw [List.length_map, List.take_length] at m5
      walk_at "rr"
      exact k _ _ (c13.trans c5) m5
end


section
variable {P : Program} {w : World} {K : PySem.W.Frag} {mg : Str → Option Value} {base : Heap} {f : Addr} {fd : FuncData}
abbrev s__law_tenths : Stmt := top 55
abbrev N__law_tenths : List Str := ["_law_purse_here", "_law_many", "_law_left", "_law_row", "_law_k"]
abbrev P__law_tenths : List Str := ["_law_purse_here", "_law_many"]
theorem sc__law_tenths : FnScope N__law_tenths P__law_tenths (defScope s__law_tenths) := ⟨rfl, rfl, rfl, by decide +kernel, rfl, by decide +kernel, by decide +kernel⟩
theorem ok__law_tenths (F : Fun K "_law_tenths" "_law_tenths" s__law_tenths f fd) (T : Nob mg) (c__law_take : Cal P w K mg base CX0 "_law_take" 1 P__law_take (spTake)) : FnOk P w K mg base CX0 2 f fd P__law_tenths (spLTen) := by
  refine F.ok sc__law_tenths (fun vs H Q E h => ?_) (fun cdv A outer s H vs Q E hr h => ?_)
  · obtain ⟨p, many, rfl, _⟩ := h; rfl
  · obtain ⟨p, many, rfl, hP, m1, m8, k⟩ := h
    refine ⟨_, (pss_cons (ps_par (i := 2) (j := 3) (by rfl) sc__law_tenths.nd rfl rfl (by decide) rfl rfl (pa_Constant pe_int (pa_List (pe_lst pa_nil) pa_nil)) (by rfl))
      (pss_cons (ps_for PassesOwn.never rfl (pi_range1 (by rfl) T.range (pa_Name (pv 1) pa_nil)) (pg_name (i := 4) sc__law_tenths.nd rfl (Or.inl rfl)) (pss_cons (ps_expr (pe_bm PySem.F.plainAttrs_list PySem.F.slot_list_append PySem.F.type_list_append mt_append (pv 3) (pa_Subscript (pe_ix (ixS (K := K)) (pe_lst (pa_Call (pe_cal c__law_take hr rfl pass0 (pa_Name (pv 0) (pa_BinOp (pe_op (opAddS (K := K)) (pv 2) pe_int) pa_nil))) (pa_Call (pe_cal c__law_take hr rfl pass0 (pa_Name (pv 0) (pa_BinOp (pe_op (opAddS (K := K)) (pe_callB (call_min2 rfl) (by rfl) T.min (by decide +kernel) (pa_Name (pv 2) (pa_Constant pe_int pa_nil))) pe_int) pa_nil))) pa_nil))) (pe_cal c__law_take hr rfl pass0 (pa_Name (pv 0) (pa_Constant pe_int pa_nil))) (fun _ _ => rfl)) pa_nil)))
      (pss_one (ps_set_BinOp (i := 2) sc__law_tenths.nd rfl (Or.inl rfl) (pe_op op_sub (pv 2) (pe_ix (ixS (K := K)) (pv 3) (pv 4) (fun _ _ => rfl)))))))
      (pss_cons (ps_if (pt_cmpR (opEqS (K := K) hr.units) (pe_cal c__law_take hr rfl pass0 (pa_Name (pv 0) (pa_Constant pe_int pa_nil))) pe_int (nomark _)) (pss_cons (ps_set_Call (i := 4) sc__law_tenths.nd rfl (Or.inl rfl) (pe_cal c__law_take hr rfl pass0 (pa_Name (pv 0) (pa_Name (pv 1) pa_nil))))
      (pss_one (ps_asg (pe_op (opAddS (K := K)) (pe_ix (ixS (K := K)) (pv 3) (pv 4) (fun _ _ => rfl)) (pv 2)) (pg_sub (pv 3) (pv 4) set_list)))) pss_nil)
      (pss_one (ps_ret (pv 3)))))), ?_⟩
    walk_at "rr"
    rename_i l H1 nl c1 el
    have lp : l ≠ p := hP.ne nl
    refine ⟨by omega, by omega, f_range (fun i σ H2 => ∃ (ns : List Int) (left : Int) (v4 : Option V), σ = [some (.ref p), some (.int many), some (.int left), some (.ref l), v4] ∧ H2 l = some (.lst (ns.map V.int)) ∧ ns.length = i ∧ (∀ n ∈ ns, 0 ≤ n) ∧ ns.sum + left = 10 ∧ 0 ≤ left ∧ left ≤ 10 ∧ Ch (some p) H H2 ∧ Purse H2 p)
      ⟨[], 10, none, rfl, el, rfl, by simp, by simp, by decide, by decide, by walk_at "ch", by walk_at "pu"⟩ ?_ ?_⟩
    · rintro i σ H2 hi ⟨ns, left, v4, rfl, el2, hl, hpos, hsum, hleft, hl10, c2, hP2⟩
      walk_at "rr"
      refine i_tyL (by walk_at "ls") ?_
      walk_at "rr"
      rename_i y1 H3 y10 y11 c3 hP3 y2 H4 y20 y21 c4 hP4 q H5 nq c5 eq w H6 w0 w1 c6 hP6
      have qp : q ≠ p := hP4.ne nq
      have y22 : y2 ≤ left := by
        have : (if (2 : Int) < left then (2 : Int) else left) ≤ left := by split <;> omega
        omega
      refine i_pick (ys := [.int y1, .int y2]) (by walk_at "ls") w0 w1 fun x hx => ?_
      obtain ⟨y, rfl, y0, yl⟩ : ∃ y : Int, x = .int y ∧ 0 ≤ y ∧ y ≤ left := by
        simp only [List.mem_cons, List.not_mem_nil, or_false] at hx
        rcases hx with rfl | rfl
        · exact ⟨y1, rfl, y10, by omega⟩
        · exact ⟨y2, rfl, y20, y22⟩
      walk_at "rr"
      refine i_app (ys := ns.map V.int) (by walk_at "ls") (by rw [List.length_map]; omega) fun H7 c7 e7 => ?_
      rw [map_snoc] at e7
      walk_at "rr"
      refine r_ixL (.inl (.inl e7)) (atD_z (v := .int y) (by simp [← hl])) ?_
      walk_at "rr"
      refine ⟨ns ++ [y], left - y, _, rfl, e7, by simp [hl], fun n hn => ?_, by rw [List.sum_append]; simp; omega, by omega, by omega, by walk_at "ch", by walk_at "pu"⟩
      rcases List.mem_append.mp hn with hn | hn
      · exact hpos n hn
      · obtain rfl := List.mem_singleton.mp hn
        exact y0
    · rintro σ H2 ⟨ns, left, v4, rfl, el2, hl, hpos, hsum, hleft, hl10, c2, hP2⟩
      have hlm : (ns.length : Int) = many := by omega
      walk_at "rr"
      rename_i w H3 w0 w1 c3 hP3
      refine ite2 (fun h1 => ?_) (fun h1 => ?_)
      · walk_at "rr"
        rename_i j H4 j0 j1 c4 hP4
        have jl : j.toNat < ns.length := by omega
        refine i_ixL (ys := ns.map V.int) (by walk_at "ls") j0 (by rw [List.length_map]; omega) ?_
        rw [List.getElem_map]
        walk_at "rr"
        refine i_setL (ys := ns.map V.int) (by walk_at "ls") j0 (by rw [List.length_map]; omega) fun H5 c5 e5 => ?_
        rw [← List.map_set] at e5
        walk_at "rr"
        refine k l H5 (ns.set j.toNat (ns[j.toNat] + left)) nl e5 (by rw [List.length_set]; exact hlm) (fun n hn => ?_) (by rw [sum_set_le jl]; omega) (by walk_at "ch") (by walk_at "pu")
        rcases List.mem_or_eq_of_mem_set hn with hn | rfl
        · exact hpos n hn
        · have := hpos _ (List.getElem_mem jl); omega
      · walk_at "rr"
        exact k l H3 ns nl (by walk_at "ls") hlm hpos (by omega) (by walk_at "ch") (by walk_at "pu")
end


section
variable {P : Program} {w : World} {K : PySem.W.Frag} {mg : Str → Option Value} {base : Heap} {f : Addr} {fd : FuncData}
abbrev s__law_still : Stmt := top 56
abbrev N__law_still : List Str := ["_law_purse_here", "_law_many", "_law_loss", "_law_a", "_law_b", "_law_k"]
abbrev P__law_still : List Str := ["_law_purse_here"]
theorem sc__law_still : FnScope N__law_still P__law_still (defScope s__law_still) := ⟨rfl, rfl, rfl, by decide +kernel, rfl, by decide +kernel, by decide +kernel⟩
theorem ok__law_still (F : Fun K "_law_still" "_law_still" s__law_still f fd) (T : Nob mg) (c__law_take : Cal P w K mg base CX0 "_law_take" 1 P__law_take (spTake)) (c__law_tenths : Cal P w K mg base CX0 "_law_tenths" 2 P__law_tenths (spLTen)) : FnOk P w K mg base CX0 3 f fd P__law_still (spLSt K) := by
  refine F.ok sc__law_still (fun vs H Q E h => ?_) (fun cdv A outer s H vs Q E hr h => ?_)
  · obtain ⟨p, rfl, _⟩ := h; rfl
  · obtain ⟨p, rfl, hP, k⟩ := h
    refine ⟨_, (pss_cons (ps_par (i := 1) (j := 2) (by rfl) sc__law_still.nd rfl rfl (by decide) rfl rfl (pa_BinOp (pe_op (opAddS (K := K)) pe_int (pe_cal c__law_take hr rfl pass0 (pa_Name (pv 0) (pa_Constant pe_int pa_nil)))) (pa_Subscript (pe_ix (ixS (K := K)) (pe_lst (pa_Constant pe_int (pa_Call (pe_cal c__law_take hr rfl pass0 (pa_Name (pv 0) (pa_Constant pe_int pa_nil))) pa_nil))) (pe_cal c__law_take hr rfl pass0 (pa_Name (pv 0) (pa_Constant pe_int pa_nil))) (fun _ _ => rfl)) pa_nil)) (by rfl))
      (pss_cons (ps_asg (pe_tup (pa_Call (pe_cal c__law_tenths hr rfl pass0 (pa_Name (pv 0) (pa_Name (pv 1) pa_nil))) (pa_Call (pe_cal c__law_tenths hr rfl pass0 (pa_Name (pv 0) (pa_Name (pv 1) pa_nil))) pa_nil))) (pg_seqS (K := K) (n := 2) rfl (pgs_cons (pg_name (i := 3) sc__law_still.nd rfl (Or.inr rfl)) (pgs_cons (pg_name (i := 4) sc__law_still.nd rfl (Or.inr rfl)) pgs_nil))))
      (pss_one (ps_ret (pe_tup (pa_Call (pe_callTy (call_tupS (K := K)) (by rfl) T.tuple (by decide +kernel) (pa_ListComp (pe_lc (own := [("_law_k", 5)]) (by rfl) sc__law_still.nd (pi_range1 (by rfl) T.range (pa_Name (pv 1) pa_nil)) (blkOk_by (own := [("_law_k", 5)]) (N := N__law_still) (sc := defScope s__law_still) (by first | decide +kernel | exact rfl)) (fun _ _ _ _ _ => (pg_name (i := 5) sc__law_still.nd rfl (Or.inl rfl))) (fun _ _ _ _ _ => pts_nil) (fun _ _ _ _ _ => (pe_tup (pa_Subscript (pe_ix (ixS (K := K)) (pv 3) (pv 5) (fun _ _ => rfl)) (pa_Subscript (pe_ix (ixS (K := K)) (pv 4) (pv 5) (fun _ _ => rfl)) pa_nil))))) pa_nil)) (pa_Name (pv 2) pa_nil))))))), ?_⟩
    walk_at "rr"
    rename_i m H1 m0 m1 c1 hP1 x H2 x0 x1 c2 hP2 q H3 nq c3 eq w H4 w0 w1 c4 hP4
    have qp : q ≠ p := hP2.ne nq
    refine i_pick (ys := [.int 0, .int x]) (by walk_at "ls") w0 w1 fun y hy => ?_
    obtain ⟨loss, rfl, l0, l9⟩ : ∃ z : Int, y = .int z ∧ 0 ≤ z ∧ z ≤ 9 := by
      simp only [List.mem_cons, List.not_mem_nil, or_false] at hy
      rcases hy with rfl | rfl
      · exact ⟨0, rfl, by decide, by decide⟩
      · exact ⟨x, rfl, x0, by omega⟩
    walk_at "rr"
    refine y_ltenths hP4 (by omega) (by omega) fun la H5 as na ea hla hpa hsa c5 hP5 => ?_
    walk_at "rr"
    refine y_ltenths hP5 (by omega) (by omega) fun lb H6 bs nb eb hlb hpb hsb c6 hP6 => ?_
    have ap : la ≠ p := hP4.ne na
    have bp : lb ≠ p := hP5.ne nb
    walk_at "rr"
    refine ⟨by omega, by omega, fun D hD => ?_⟩
    refine c_range0 (K := K) (fun i ds => ds = (List.range i).map fun j => PyData.tuple [.int (as.getD j 0), .int (bs.getD j 0)]) (by omega) hD rfl ?_ ?_
    · intro i H7 ds hi c7 hl e N S hN
      have ia : i < as.length := by omega
      have ib : i < bs.length := by omega
      walk_at "rr"
      refine r_ixL (xs := as.map V.int) (.inl (.inl (by walk_at "ls"))) (atD_z (v := .int as[i]) (by simp [ia])) ?_
      walk_at "rr"
      refine r_ixL (xs := bs.map V.int) (.inl (.inl (by walk_at "ls"))) (atD_z (v := .int bs[i]) (by simp [ib])) ?_
      walk_at "rr"
      rename_i im
      refine hN _ _ _ im (by walk_at "ch") ?_
      rw [e]
      show _ = (List.range (i + 1)).map _
      rw [List.range_succ, List.map_append]
      simp [ia, ib]
    · intro H7 us ds eD al c7 hl e
      have eds : ds = List.zipWith (fun a b => PyData.tuple [.int a, .int b]) as bs := by
        rw [e]
        refine List.ext_getElem (by simp; omega) fun j h1 h2 => ?_
        have ja : j < as.length := by simp at h2; omega
        have jb : j < bs.length := by simp at h2; omega
        simp [ja, jb]
      have hr := rw_zip (as := as) (bs := bs) (by omega) hpa hpb hsa hsb
      walk_at "rr"
      refine i_tupL eD al fun v H8 c8 m8 => ?_
      walk_at "rr"
      rename_i im
      refine k _ _ _ ds _ ⟨rfl, by omega, by omega, ?_, ?_, ?_, l0, l9⟩ im (by walk_at "ch") (by walk_at "pu")
      · rw [eds]; exact hr.1
      · rw [eds, hr.2.1]; exact hsa
      · rw [eds, hr.2.2]; exact hsb
abbrev s__law_cut : Stmt := top 57
abbrev N__law_cut : List Str := ["_law_purse_here", "_law_still_here", "_law_many", "_law_first"]
abbrev P__law_cut : List Str := ["_law_purse_here", "_law_still_here"]
theorem sc__law_cut : FnScope N__law_cut P__law_cut (defScope s__law_cut) := ⟨rfl, rfl, rfl, by decide +kernel, rfl, by decide +kernel, by decide +kernel⟩
theorem ok__law_cut (F : Fun K "_law_cut" "_law_cut" s__law_cut f fd) (T : Nob mg) (c__law_take : Cal P w K mg base CX0 "_law_take" 1 P__law_take (spTake)) : FnOk P w K mg base CX0 2 f fd P__law_cut (spLCut K) := by
  refine F.ok sc__law_cut (fun vs H Q E h => ?_) (fun cdv A outer s H vs Q E hr h => ?_)
  · obtain ⟨p, v, d, ds, loss, rfl, _⟩ := h; rfl
  · obtain ⟨p, v, d, ds, loss, rfl, hP, hv, S, k⟩ := h
    obtain rfl := S.eq
    have n1 := S.n1
    have n8 := S.n8
    refine ⟨_, (pss_cons (ps_set_Call (i := 2) sc__law_cut.nd rfl (Or.inl rfl) (pe_callB (callLenS (K := K)) (by rfl) T.len (by decide +kernel) (pa_Subscript (pe_ix (ixS (K := K)) (pv 1) pe_int (fun _ _ => rfl)) pa_nil)))
      (pss_cons (ps_set_Call (i := 3) sc__law_cut.nd rfl (Or.inl rfl) (pe_cal c__law_take hr rfl pass0 (pa_Name (pv 0) (pa_BinOp (pe_op (opAddS (K := K)) (pv 2) pe_int) pa_nil))))
      (pss_one (ps_ret (pe_tup (pa_Name (pv 3) (pa_BinOp (pe_op (opAddS (K := K)) (pv 3) (pe_cal c__law_take hr rfl pass0 (pa_Name (pv 0) (pa_BinOp (pe_op (opAddS (K := K)) (pe_op op_sub (pv 2) (pv 3)) pe_int) pa_nil)))) pa_nil))))))), ?_⟩
    walk_at "rr"
    rename_i im
    exact k _ _ _ _ (by omega) (by omega) (by omega) im (by walk_at "ch") (by walk_at "pu")
end


section
variable {P : Program} {w : World} {K : PySem.W.Frag} {mg : Str → Option Value} {base : Heap} {f : Addr} {fd : FuncData}
abbrev s__law_liquor : Stmt := top 58
abbrev N__law_liquor : List Str := ["_law_purse_here", "_law_pick", "_law_size", "_law_some", "_law_k"]
abbrev P__law_liquor : List Str := ["_law_purse_here"]
theorem sc__law_liquor : FnScope N__law_liquor P__law_liquor (defScope s__law_liquor) := ⟨rfl, rfl, rfl, by decide +kernel, rfl, by decide +kernel, by decide +kernel⟩
theorem lq0 {n : Nat} (hn : 1 ≤ n) : FQ n 0 := FQ.mono (n := 1) ⟨by show (0 : Int).natAbs < 2 ^ 1; decide, by show (1 : Int).natAbs < 2 ^ 1; decide⟩ hn
theorem low_fq {t b : Int} (t0 : 0 ≤ t) (t1 : t < 2 ^ 60) (b0 : 0 < b) (b1 : b < 2 ^ 60) : 0 ≤ Rat.divInt t b ∧ FQ 64 (Rat.divInt t b) :=
  ⟨Rat.divInt_nonneg t0 (by omega), FQ.divInt (by omega) (by show t.natAbs < 2 ^ 64; omega) (by show b.natAbs < 2 ^ 64; omega)⟩
theorem ok__law_liquor (F : Fun K "_law_liquor" "_law_liquor" s__law_liquor f fd) (T : Nob mg) (c__law_take : Cal P w K mg base CX0 "_law_take" 1 P__law_take (spTake)) (c__law_low : Cal P w K mg base CX0 "_law_low" 33 P__law_low (spLow K)) : FnOk P w K mg base CX0 34 f fd P__law_liquor (spLLq K 64) := by
  refine F.ok sc__law_liquor (fun vs H Q E h => ?_) (fun cdv A outer s H vs Q E hr h => ?_)
  · obtain ⟨p, rfl, _⟩ := h; rfl
  · obtain ⟨p, rfl, hP, k⟩ := h
    refine ⟨_, (pss_cons (ps_set_Call (i := 1) sc__law_liquor.nd rfl (Or.inl rfl) (pe_cal c__law_take hr rfl pass0 (pa_Name (pv 0) (pa_Constant pe_int pa_nil))))
      (pss_cons (ps_if (pt_cmpR (opEqS (K := K) hr.units) (pv 1) pe_int (nomark _)) (pss_one (ps_ret (pe_tup (pa_Tuple (pe_tup (pa_Constant pe_int (pa_Constant pe_int pa_nil))) (pa_Tuple (pe_tup (pa_Constant pe_int (pa_Constant pe_int pa_nil))) pa_nil))))) pss_nil)
      (pss_cons (ps_set_Subscript (i := 2) sc__law_liquor.nd rfl (Or.inr rfl) (pe_ix (ixS (K := K)) (pe_lst (pa_Constant pe_int (pa_Constant pe_int (pa_Constant pe_int pa_nil)))) (pe_cal c__law_take hr rfl pass0 (pa_Name (pv 0) (pa_Constant pe_int pa_nil))) (fun _ _ => rfl)))
      (pss_cons (ps_setLc (i := 3) (own := [("_law_k", 4)]) (by rfl) sc__law_liquor.nd rfl rfl (sw_true rfl rfl rfl (by decide +kernel)) (pi_range1 (by rfl) T.range (pa_Constant pe_int pa_nil)) (blkOk_by (own := [("_law_k", 4)]) (N := N__law_liquor) (sc := defScope s__law_liquor) (by first | decide +kernel | exact rfl)) (fun _ _ _ _ _ => (pg_name (i := 4) sc__law_liquor.nd rfl (Or.inl rfl))) (fun _ _ _ _ _ => pts_nil) (fun _ _ _ _ _ => (pe_cal c__law_low hr rfl pass0 (pa_Call (pe_cal c__law_take hr rfl pass0 (pa_Name (pv 0) (pa_Name (pv 2) pa_nil))) (pa_Subscript (pe_ix (ixS (K := K)) (pe_lst (pa_Constant pe_int (pa_BinOp (pe_op (opAddS (K := K)) pe_int (pe_cal c__law_take hr rfl pass0 (pa_Name (pv 0) (pa_Constant pe_int pa_nil)))) pa_nil))) (pe_cal c__law_take hr rfl pass0 (pa_Name (pv 0) (pa_Constant pe_int pa_nil))) (fun _ _ => rfl)) pa_nil)))))
      (pss_cons (ps_if (pt_cmpR (opEqS (K := K) hr.units) (pv 1) pe_int (nomark _)) (pss_one (ps_asg (pe_tup (pa_Constant pe_int (pa_Constant pe_int pa_nil))) (pg_sub (pv 3) (pe_cal c__law_take hr rfl pass0 (pa_Name (pv 0) (pa_Constant pe_int pa_nil))) set_list))) pss_nil)
      (pss_one (ps_ret (pe_callTy (call_tupS (K := K)) (by rfl) T.tuple (by decide +kernel) (pa_Name (pv 3) pa_nil))))))))), ?_⟩
    walk_at "rr"
    rename_i pick H1 p0 p1 c1 hP1
    refine ite2 (fun h1 => ?_) (fun h1 => ?_)
    · walk_at "rr"
      rename_i im
      exact k _ _ (0, 0) ⟨by decide, by decide, lq0 (by decide), lq0 (by decide)⟩ im (by walk_at "ch") (by walk_at "pu")
    · have h1 : pick ≠ 0 := by simpa using h1
      walk_at "rr"
      rename_i q H2 nq c2 eq w H3 w0 w1 c3 hP3
      have qp : q ≠ p := hP1.ne nq
      refine i_pick (ys := [.int 10, .int 400, .int 40000]) (by walk_at "ls") w0 w1 fun x hx => ?_
      obtain ⟨size, rfl, s0, s1⟩ : ∃ z : Int, x = .int z ∧ 0 < z ∧ z ≤ 40000 := by
        simp only [List.mem_cons, List.not_mem_nil, or_false] at hx
        rcases hx with rfl | rfl | rfl <;> exact ⟨_, rfl, by decide, by decide⟩
      walk_at "rr"
      refine ⟨by decide, by decide, fun D hD => ?_⟩
      refine c_rangeP (K := K) (p := p) (fun i ds => ∀ d ∈ ds, ∃ r, d = dq r ∧ 0 ≤ r ∧ FQ 64 r) (by decide) hD hP3 (by simp) ?_ ?_
      · intro i H4 ds hi c4 hP4 hl hds N2 S2 hN
        walk_at "rr"
        rename_i t H5 t0 t1 c5 hP5 y H6 y0 y1 c6 hP6 q2 H7 nq2 c7 eq2 w2 H8 w20 w21 c8 hP8
        have qp2 : q2 ≠ p := hP6.ne nq2
        refine i_pick (ys := [.int 1, .int (1 + y)]) (by walk_at "ls") w20 w21 fun x hx => ?_
        obtain ⟨b, rfl, b0, b1⟩ : ∃ z : Int, x = .int z ∧ 0 < z ∧ z ≤ 12 := by
          simp only [List.mem_cons, List.not_mem_nil, or_false] at hx
          rcases hx with rfl | rfl
          · exact ⟨1, rfl, by decide, by decide⟩
          · exact ⟨1 + y, rfl, by omega, by omega⟩
        walk_at "rr"
        rename_i im
        refine hN _ _ _ im (by walk_at "ch") (by walk_at "pu") fun d hd => ?_
        rcases List.mem_append.mp hd with hd | hd
        · exact hds d hd
        · obtain rfl := List.mem_singleton.mp hd
          have := low_fq t0 (by omega) b0 (by omega)
          exact ⟨_, rfl, this.1, this.2⟩
      · intro H4 us ds eD al c4 hP4 hl hds
        obtain ⟨d1, d2, rfl⟩ : ∃ d1 d2, ds = [d1, d2] := by
          match ds, hl with
          | [a, b], _ => exact ⟨a, b, rfl⟩
        obtain ⟨r1, rfl, g1, k1⟩ := hds d1 (by simp)
        obtain ⟨r2, rfl, g2, k2⟩ := hds d2 (by simp)
        obtain ⟨v1, v2, rfl, f1, f2⟩ := al.two
        have Dp : D ≠ p := hP3.ne hD
        have c2' : pick = 1 ∨ pick ≠ 1 := by omega
        rcases c2' with z | z
        · walk_at "rr"
          rename_i t H5 nt c5 m5 w2 H6 w20 w21 c6 hP6
          have m5 : Im K H5 (.ref t) (dq 0) := m5
          refine i_setL (ys := [v1, v2]) (by walk_at "ls") w20 (by simpa using w21) fun H7 c7 e7 => ?_
          have w3 : w2 = 0 ∨ w2 = 1 := by omega
          rcases w3 with rfl | rfl
          · have e7 : H7 D = some (.lst [.ref t, v2]) := e7
            walk_at "rr"
            refine i_tupL (ds := [dq 0, dq r2]) e7 (by walk_at "ima") fun v H8 c8 m8 => ?_
            exact k v H8 (0, r2) ⟨by show (0 : Rat) ≤ 0; decide, g2, lq0 (by decide), k2⟩ m8 (by walk_at "ch") (by walk_at "pu")
          · have e7 : H7 D = some (.lst [v1, .ref t]) := e7
            walk_at "rr"
            refine i_tupL (ds := [dq r1, dq 0]) e7 (by walk_at "ima") fun v H8 c8 m8 => ?_
            exact k v H8 (r1, 0) ⟨g1, by show (0 : Rat) ≤ 0; decide, k1, lq0 (by decide)⟩ m8 (by walk_at "ch") (by walk_at "pu")
        · walk_at "rr"
          refine i_tupL (ds := [dq r1, dq r2]) eD al fun v H8 c8 m8 => ?_
          exact k v H8 (r1, r2) ⟨g1, g2, k1, k2⟩ m8 (by walk_at "ch") (by walk_at "pu")
end


section
variable {P : Program} {w : World} {K : PySem.W.Frag} {mg : Str → Option Value} {base : Heap} {f : Addr} {fd : FuncData}
abbrev s__law_charge : Stmt := top 59
abbrev N__law_charge : List Str := ["_law_purse_here", "_law_great", "_law_size", "_law_some", "_law_alike"]
abbrev P__law_charge : List Str := ["_law_purse_here"]
theorem sc__law_charge : FnScope N__law_charge P__law_charge (defScope s__law_charge) := ⟨rfl, rfl, rfl, by decide +kernel, rfl, by decide +kernel, by decide +kernel⟩
theorem ok__law_charge (F : Fun K "_law_charge" "_law_charge" s__law_charge f fd) (T : Nob mg) (c__law_take : Cal P w K mg base CX0 "_law_take" 1 P__law_take (spTake)) (c__law_low : Cal P w K mg base CX0 "_law_low" 33 P__law_low (spLow K)) (c__law_of : Cal P w K mg base CX0 "_law_of" 35 P__law_of (spOf K)) (c__law_liquor : Cal P w K mg base CX0 "_law_liquor" 34 P__law_liquor (spLLq K 64)) : FnOk P w K mg base CX0 36 f fd P__law_charge (spLLq K 500) := by
  refine F.ok sc__law_charge (fun vs H Q E h => ?_) (fun cdv A outer s H vs Q E hr h => ?_)
  · obtain ⟨p, rfl, _⟩ := h; rfl
  · obtain ⟨p, rfl, hP, k⟩ := h
    refine ⟨_, (pss_cons (ps_set_Call (i := 1) sc__law_charge.nd rfl (Or.inl rfl) (pe_cal c__law_take hr rfl pass0 (pa_Name (pv 0) (pa_Constant pe_int pa_nil))))
      (pss_cons (ps_if (pt_cmpR (opEqS (K := K) hr.units) (pv 1) pe_int (nomark _)) (pss_cons (ps_set_Subscript (i := 2) sc__law_charge.nd rfl (Or.inl rfl) (pe_ix (ixS (K := K)) (pe_lst (pa_BinOp (pe_op op_pow pe_int pe_int) (pa_BinOp (pe_op op_pow pe_int pe_int) (pa_BinOp (pe_op opMul (pe_op op_pow pe_int pe_int) (pe_op op_pow pe_int pe_int)) pa_nil)))) (pe_cal c__law_take hr rfl pass0 (pa_Name (pv 0) (pa_Constant pe_int pa_nil))) (fun _ _ => rfl)))
      (pss_cons (ps_set_List (i := 3) sc__law_charge.nd rfl (Or.inl rfl) (pe_lst (pa_Call (pe_cal c__law_low hr rfl pass0 (pa_BinOp (pe_op (opAddS (K := K)) (pe_op opMul (pe_cal c__law_take hr rfl pass0 (pa_Name (pv 0) (pa_BinOp (pe_op op_pow pe_int pe_int) pa_nil))) (pv 2)) (pe_cal c__law_take hr rfl pass0 (pa_Name (pv 0) (pa_BinOp (pe_op op_pow pe_int pe_int) pa_nil)))) (pa_BinOp (pe_op (opAddS (K := K)) pe_int (pe_cal c__law_take hr rfl pass0 (pa_Name (pv 0) (pa_Constant pe_int pa_nil)))) pa_nil))) pa_nil)))
      (pss_cons (ps_expr (pe_bm PySem.F.plainAttrs_list PySem.F.slot_list_append PySem.F.type_list_append mt_append (pv 3) (pa_Subscript (pe_ix (ixS (K := K)) (pe_lst (pa_Subscript (pe_ix (ixS (K := K)) (pv 3) pe_int (fun _ _ => rfl)) (pa_Tuple (pe_tup (pa_Constant pe_int (pa_Constant pe_int pa_nil))) (pa_Call (pe_cal c__law_low hr rfl pass0 (pa_Call (pe_cal c__law_take hr rfl pass0 (pa_Name (pv 0) (pa_Constant pe_int pa_nil))) (pa_Constant pe_int pa_nil))) pa_nil)))) (pe_cal c__law_take hr rfl pass0 (pa_Name (pv 0) (pa_Constant pe_int pa_nil))) (fun _ _ => rfl)) pa_nil)))
      (pss_one (ps_ret (pe_callTy (call_tupS (K := K)) (by rfl) T.tuple (by decide +kernel) (pa_Name (pv 3) pa_nil))))))) pss_nil)
      (pss_cons (ps_if (pt_cmpR (opEqS (K := K) hr.units) (pv 1) pe_int (nomark _)) (pss_cons (ps_set_Call (i := 4) sc__law_charge.nd rfl (Or.inl rfl) (pe_cal c__law_low hr rfl pass0 (pa_BinOp (pe_op (opAddS (K := K)) pe_int (pe_cal c__law_take hr rfl pass0 (pa_Name (pv 0) (pa_Constant pe_int pa_nil)))) (pa_BinOp (pe_op (opAddS (K := K)) pe_int (pe_cal c__law_take hr rfl pass0 (pa_Name (pv 0) (pa_Constant pe_int pa_nil)))) pa_nil))))
      (pss_one (ps_ret (pe_tup (pa_Name (pv 4) (pa_Subscript (pe_ix (ixS (K := K)) (pe_cal c__law_of hr rfl pass0 (pa_Call (pe_cal c__law_low hr rfl pass0 (pa_Call (pe_cal c__law_take hr rfl pass0 (pa_Name (pv 0) (pa_Constant pe_int pa_nil))) (pa_BinOp (pe_op (opAddS (K := K)) pe_int (pe_cal c__law_take hr rfl pass0 (pa_Name (pv 0) (pa_Constant pe_int pa_nil)))) pa_nil))) (pa_Tuple (pe_tup (pa_Name (pv 4) (pa_Name (pv 4) pa_nil))) pa_nil))) pe_int (fun _ _ => rfl)) pa_nil)))))) pss_nil)
      (pss_one (ps_ret (pe_cal c__law_liquor hr rfl pass0 (pa_Name (pv 0) pa_nil))))))), ?_⟩
    walk_at "rr"
    rename_i gr H1 p0 p1 c1 hP1
    have c3 : gr = 5 ∨ gr = 4 ∨ (gr ≠ 5 ∧ gr ≠ 4) := by omega
    have e9 : (10 : Int) ^ Int.toNat 9 = 1000000000 := by decide
    have e6 : (10 : Int) ^ Int.toNat 6 = 1000000 := by decide
    rcases c3 with z | z | ⟨z, z'⟩
    · walk_at "rr"
      refine r_mulB ⟨Bd.mono (n := 140) (by show (10 ^ 40 : Int).natAbs < 2 ^ 140; decide +kernel) (by decide), Bd.mono (n := 140) (by show (10 ^ 40 : Int).natAbs < 2 ^ 140; decide +kernel) (by decide)⟩ ?_
      walk_at "rr"
      rename_i q H2 nq c2 eq w H3 w0 w1 c3 hP3
      have qp : q ≠ p := hP1.ne nq
      refine i_pick (ys := [.int (10 ^ Int.toNat 12), .int (10 ^ Int.toNat 40), .int (10 ^ Int.toNat 40 * 10 ^ Int.toNat 40)]) (by walk_at "ls") w0 w1 fun x hx => ?_
      obtain ⟨size, rfl, s0, s1⟩ : ∃ z : Int, x = .int z ∧ 0 ≤ z ∧ Bd 270 z := by
        simp only [List.mem_cons, List.not_mem_nil, or_false] at hx
        rcases hx with rfl | rfl | rfl
        · exact ⟨_, rfl, by decide, by show (10 ^ 12 : Int).natAbs < 2 ^ 270; decide +kernel⟩
        · exact ⟨_, rfl, by decide +kernel, by show (10 ^ 40 : Int).natAbs < 2 ^ 270; decide +kernel⟩
        · exact ⟨_, rfl, by decide +kernel, by show (10 ^ 40 * 10 ^ 40 : Int).natAbs < 2 ^ 270; decide +kernel⟩
      walk_at "rr"
      rename_i a H4 a0 a1 c4 hP4 b H5 b0 b1 c5 hP5 m H6 m0 m1 c6 hP6 v H7 c7 i7 l1 H8 nl c8 el
      rw [e9] at a1
      have ba : Bd 30 a := by show a.natAbs < 2 ^ 30; omega
      rw [e6] at b1
      have l1p : l1 ≠ p := (hP6.ch c7).ne nl
      have g0 : 0 ≤ Rat.divInt (a * size + b) (1 + m) := Rat.divInt_nonneg (Int.add_nonneg (Int.mul_nonneg a0 s0) b0) (by omega)
      have g1 : FQ 302 (Rat.divInt (a * size + b) (1 + m)) := FQ.divInt (by omega) (((ba.mul s1).mono (m := 301) (by decide)).add (Bd.mono (n := 30) (by show b.natAbs < 2 ^ 30; omega) (by decide))) (Bd.mono (n := 30) (by show (1 + m).natAbs < 2 ^ 30; omega) (by decide))
      refine i_tyL (by walk_at "ls") ?_
      walk_at "rr"
      rename_i t H9 nt c9 m9 k9 Ha ka0 ka1 ca hPa v2 Hb cb ib q2 Hc nq2 cc eq2 w2 Hd w20 w21 cd hPd
      have m9 : Im K H9 (.ref t) (dq 0) := m9
      have q2p : q2 ≠ p := (hPa.ch cb).ne nq2
      refine i_pick (ys := [v, .ref t, v2]) (by walk_at "ls") w20 w21 fun x hx => ?_
      obtain ⟨r, ir, r0, r1⟩ : ∃ r : Rat, Im K Hd x (dq r) ∧ 0 ≤ r ∧ FQ 302 r := by
        simp only [List.mem_cons, List.not_mem_nil, or_false] at hx
        rcases hx with rfl | rfl | rfl
        · exact ⟨_, by walk_at "im", g0, g1⟩
        · exact ⟨0, by walk_at "im", by decide, lq0 (by decide)⟩
        · have := low_fq (t := k9) (b := 7) ka0 (by omega) (by decide) (by decide)
          exact ⟨_, by walk_at "im", this.1, this.2.mono (by decide)⟩
      walk_at "rr"
      refine i_app (ys := [v]) (by walk_at "ls") (by simp) fun He ce ee => ?_
      have ee : He l1 = some (.lst [v, x]) := ee
      walk_at "rr"
      refine i_tupL (ds := [dq (Rat.divInt (a * size + b) (1 + m)), dq r]) ee (by walk_at "ima") fun u Hf cf mf => ?_
      exact k u Hf (Rat.divInt (a * size + b) (1 + m), r) ⟨g0, r0, g1.mono (by decide), r1.mono (by decide)⟩ mf (by walk_at "ch") (by walk_at "pu")
    · walk_at "rr"
      rename_i a H2 a0 a1 c2 hP2 b H3 b0 b1 c3 hP3 v H4 c4 i4 x H5 x0 x1 c5 hP5 y H6 y0 y1 c6 hP6 u H7 c7 i7 t H8 nt c8 m8
      have f1 := low_fq (t := 1 + a) (b := 1 + b) (by omega) (by omega) (by omega) (by omega)
      have f2 := low_fq (t := x) (b := 1 + y) (by omega) (by omega) (by omega) (by omega)
      refine y_of (p := Rat.divInt x (1 + y)) (l := (Rat.divInt (1 + a) (1 + b), Rat.divInt (1 + a) (1 + b))) (by walk_at "im") m8 (f2.2.mono (by decide)) (f1.2.mono (by decide)) (f1.2.mono (by decide)) fun w H9 c9 m9 => ?_
      unfold L2.dl at m9
      walk_at "rr"
      rename_i im
      exact k _ _ (Rat.divInt (1 + a) (1 + b), Rat.divInt x (1 + y) * Rat.divInt (1 + a) (1 + b)) ⟨f1.1, Rat.mul_nonneg f2.1 f1.1, f1.2.mono (by decide), (f2.2.mul f1.2).mono (by decide)⟩ im (by walk_at "ch") (by walk_at "pu")
    · walk_at "rr"
      refine y_llq hP1 fun v H2 l lq m c2 hP2 => ?_
      exact k v H2 l (lq.mono (by decide)) m (by walk_at "ch") hP2
end


section
variable {P : Program} {w : World} {K : PySem.W.Frag} {mg : Str → Option Value} {base : Heap} {f : Addr} {fd : FuncData}
abbrev s__law_just : Stmt := top 64
abbrev N__law_just : List Str := ["_law_told", "_law_due", "_law_k"]
abbrev P__law_just : List Str := ["_law_told", "_law_due"]
theorem sc__law_just : FnScope N__law_just P__law_just (defScope s__law_just) := ⟨rfl, rfl, rfl, by decide +kernel, rfl, by decide +kernel, by decide +kernel⟩
def spJust (K : PySem.W.Frag) (n : Nat) : Sp := fun vs H Q _ => ∃ v1 v2 d, vs = [v1, v2] ∧ Im K H v1 d ∧ Im K H v2 d ∧ Pl n d ∧ (∀ b, d ≠ .bool b) ∧ PlN d ∧ ∀ H', Ch none H H' → Q (.bl true) H'
def spJustB (K : PySem.W.Frag) : Nat → Sp
  | 0 => fun _ _ _ _ => False
  | n + 1 => spJust K n
theorem ok__law_just1 (n : Nat) (F : Fun K "_law_just" "_law_just" s__law_just f fd) (T : Nob mg) (c__law_just : Cal P w K mg base CX0 "_law_just" n P__law_just (spJustB K n)) : FnOk P w K mg base CX0 (n + 1) f fd P__law_just (spJust K n) := by
  refine F.ok sc__law_just (fun vs H Q E h => ?_) (fun cdv A outer s H vs Q E hr h => ?_)
  · obtain ⟨v1, v2, d, rfl, _⟩ := h; rfl
  · obtain ⟨v1, v2, d, rfl, h1, h2, hp, nb, pn, k⟩ := h
    refine ⟨_, (pss_cons (ps_if (pt_val (pe_callB (call_isiS (K := K)) (by rfl) T.isinstance (by decide +kernel) (pa_Name (pv 1) (pa_Name (pe_bltn (v := .ty "tuple") (by rfl) T.tuple (by decide +kernel) rfl) pa_nil)))) (pss_cons (ps_if (PW.pt (pw_or (pt_not (pt_val (pe_callB (call_isiS (K := K)) (by rfl) T.isinstance (by decide +kernel) (pa_Name (pv 0) (pa_Name (pe_bltn (v := .ty "tuple") (by rfl) T.tuple (by decide +kernel) rfl) pa_nil))))) (pw_or1 (pt_cmpR (opNeS (K := K) hr.units) (pe_callB (callLenS (K := K)) (by rfl) T.len (by decide +kernel) (pa_Name (pv 0) pa_nil)) (pe_callB (callLenS (K := K)) (by rfl) T.len (by decide +kernel) (pa_Name (pv 1) pa_nil)) (nomark _))))) (pss_one (ps_ret pe_bl)) pss_nil)
      (pss_one (ps_ret (pe_callB (cr_allS (K := K) rfl) (by rfl) T.all (by decide +kernel) (pa_ListComp (pe_lc (own := [("_law_k", 2)]) (by rfl) sc__law_just.nd (pi_range1 (by rfl) T.range (pa_Call (pe_callB (callLenS (K := K)) (by rfl) T.len (by decide +kernel) (pa_Name (pv 1) pa_nil)) pa_nil)) (blkOk_by (own := [("_law_k", 2)]) (N := N__law_just) (sc := defScope s__law_just) (by first | decide +kernel | exact rfl)) (fun _ _ _ _ _ => (pg_name (i := 2) sc__law_just.nd rfl (Or.inl rfl))) (fun _ _ _ _ _ => pts_nil) (fun _ _ _ _ _ => (pe_cal c__law_just hr rfl pass0 (pa_Subscript (pe_ix (ixS (K := K)) (pv 0) (pv 2) (fun _ _ => rfl)) (pa_Subscript (pe_ix (ixS (K := K)) (pv 1) (pv 2) (fun _ _ => rfl)) pa_nil)) (hk := Nat.le_refl _)))) pa_nil))))) pss_nil)
      (pss_cons (ps_if (PW.pt (pw_or (pt_cmpR op_isN (pv 1) pe_non (nomark _)) (pw_or1 (pt_val (pe_callB (call_isiS (K := K)) (by rfl) T.isinstance (by decide +kernel) (pa_Name (pv 1) (pa_Name (pe_bltn (v := .ty "str") (by rfl) T.str (by decide +kernel) rfl) pa_nil))))))) (pss_one (ps_ret (pe_or (pe_and (pe_cmpR op_isN (pv 0) pe_non (nomark _)) (pe_one (pe_cmpR op_isN (pv 1) pe_non (nomark _)))) (pe_one (pe_and (pe_callB (call_isiS (K := K)) (by rfl) T.isinstance (by decide +kernel) (pa_Name (pv 0) (pa_Name (pe_bltn (v := .ty "str") (by rfl) T.str (by decide +kernel) rfl) pa_nil))) (pe_one (pe_cmpR (opEqS (K := K) hr.units) (pv 0) (pv 1) (nomark _)))))))) pss_nil)
      (pss_one (ps_ret (pe_and (pe_callB (call_isiS (K := K)) (by rfl) T.isinstance (by decide +kernel) (pa_Name (pv 0) (pa_Name (pe_bltn (v := .ty "int") (by rfl) T.int (by decide +kernel) rfl) pa_nil))) (pe_and (pe_not (pe_callB (call_isiS (K := K)) (by rfl) T.isinstance (by decide +kernel) (pa_Name (pv 0) (pa_Name (pe_bltn (v := .ty "bool") (by rfl) T.bool (by decide +kernel) rfl) pa_nil)))) (pe_one (pe_cmpR (opEqS (K := K) hr.units) (pv 0) (pv 1) (nomark _))))))))), ?_⟩
    cases hp with
    | non => cases h1; cases h2; walk_at "rr"; exact k H (Ch.refl H)
    | bool => exact absurd rfl (nb _)
    | int i => cases h1; cases h2; walk_at "rr"; rw [decide_eq_true rfl]; exact k H (Ch.refl H)
    | str x => cases h1; cases h2; walk_at "rr"; rw [decide_eq_true rfl]; exact k H (Ch.refl H)
    | tup m ds hl hd =>
      obtain ⟨t1, xs1, rfl, s1, a1⟩ := id h1.ref
      obtain ⟨t2, xs2, rfl, s2, a2⟩ := id h2.ref
      walk_at "rr"
      refine ⟨by omega, by omega, fun D hD => ?_⟩
      refine c_range0 (K := K) (fun i es => es = List.replicate i (.bool true)) (by omega) hD rfl ?_ ?_
      · intro i H2 es hi c2 hl2 e N2 S2 hN
        have hi2 : i < ds.length := by omega
        have hm := pn.mem (List.getElem_mem hi2)
        walk_at "rr"
        refine i_ix (K := K) (ds := ds) (d := ds[i]) (h1.ch c2) (atD_z (List.getElem?_eq_getElem hi2)) fun u1 q1 => ?_
        walk_at "rr"
        refine i_ix (K := K) (ds := ds) (d := ds[i]) (h2.ch c2) (atD_z (List.getElem?_eq_getElem hi2)) fun u2 q2 => ?_
        walk_at "rr"
        refine ⟨_, _, _, rfl, q1, q2, hd _ (List.getElem_mem hi2), hm.1, hm.2, fun H3 c3 => ?_⟩
        exact hN _ _ _ (.bl _) c3 (by rw [e]; exact List.replicate_succ'.symm)
      · intro H2 us es hD2 al c2 hl2 e
        walk_at "rr"
        rw [e, show ∀ n, List.replicate n (PyData.bool true) = (List.replicate n true).map PyData.bool from fun n => by rw [List.map_replicate]] at al
        refine i_all hD2 al ?_
        rw [show ∀ n, (List.replicate n true).all id = true from fun n => by simp]
        exact k H2 c2
theorem ok__law_just (F : Fun K "_law_just" "_law_just" s__law_just f fd) (T : Nob mg) (hm : mg "_law_just" = some (.ref f)) (hb : Binds K fd P__law_just []) : ∀ n : Nat, FnOk P w K mg base CX0 (n + 1) f fd P__law_just (spJust K n)
  | 0 => ok__law_just1 0 F T ⟨f, fd, ⟨fun _ _ _ _ h => h.elim, fun _ _ _ _ _ _ _ _ _ _ _ _ _ h => h.elim⟩, hm, F.kp, hb⟩
  | n + 1 => ok__law_just1 (n + 1) F T ⟨f, fd, ok__law_just F T hm hb n, hm, F.kp, hb⟩
theorem y_just {K : PySem.W.Frag} {H : Hp} {Q : VK} {E : XK} {n : Nat} {v1 v2 : V} {d : PyData} (h1 : Im K H v1 d) (h2 : Im K H v2 d) (hp : Pl n d) (nb : ∀ b, d ≠ .bool b) (pn : PlN d) (k : ∀ H', Ch none H H' → Q (.bl true) H') : spJust K n ([v1, v2] ++ []) H Q E := ⟨v1, v2, d, rfl, h1, h2, hp, nb, pn, k⟩
end


section
variable {P : Program} {w : World} {K : PySem.W.Frag} {mg : Str → Option Value} {base : Heap} {f : Addr} {fd : FuncData}
abbrev s__law_rows : Stmt := top 62
abbrev N__law_rows : List Str := ["_law_still_here", "_law_charge_here", "_law_told", "_law_row", "_law_part", "_law_c"]
abbrev P__law_rows : List Str := ["_law_still_here", "_law_charge_here"]
theorem sc__law_rows : FnScope N__law_rows P__law_rows (defScope s__law_rows) := ⟨rfl, rfl, rfl, by decide +kernel, rfl, by decide +kernel, by decide +kernel⟩
theorem ok__law_rows (F : Fun K "_law_rows" "_law_rows" s__law_rows f fd) (T : Nob mg) (c__law_low : Cal P w K mg base CX0 "_law_low" 33 P__law_low (spLow K)) (c__law_mul : Cal P w K mg base CX0 "_law_mul" 34 P__law_mul (spMul K)) : FnOk P w K mg base CX0 35 f fd P__law_rows (spLRows K) := by
  refine F.ok sc__law_rows (fun vs H Q E h => ?_) (fun cdv A outer s H vs Q E hr h => ?_)
  · obtain ⟨v1, v3, d, ds, loss, l, rfl, _⟩ := h; rfl
  · obtain ⟨v1, v3, d, ds, loss, l, rfl, h1, S, h3, lq, k⟩ := h
    obtain rfl := S.eq
    have s0 := S.l0
    have s9 := S.l9
    have n8 := S.n8
    unfold L2.dl at h3
    refine ⟨_, (pss_cons (ps_set_List (i := 2) sc__law_rows.nd rfl (Or.inl rfl) (pe_lst pa_nil))
      (pss_cons (ps_for PassesOwn.never rfl (pi_seqS (K := K) (pe_ix (ixS (K := K)) (pv 0) pe_int (fun _ _ => rfl))) (pg_name (i := 3) sc__law_rows.nd rfl (Or.inr rfl)) (pss_cons (ps_setLc (i := 4) (own := [("_law_c", 5)]) (by rfl) sc__law_rows.nd rfl rfl (sw_true rfl rfl rfl (by decide +kernel)) (pi_range1 (by rfl) T.range (pa_Constant pe_int pa_nil)) (blkOk_by (own := [("_law_c", 5)]) (N := N__law_rows) (sc := defScope s__law_rows) (by first | decide +kernel | exact rfl)) (fun _ _ _ _ _ => (pg_name (i := 5) sc__law_rows.nd rfl (Or.inl rfl))) (fun _ _ _ _ _ => pts_nil) (fun _ _ _ _ _ => (pe_cal c__law_low hr rfl pass0 (pa_BinOp (pe_op opMul (pe_op op_sub pe_int (pe_ix (ixS (K := K)) (pv 0) pe_int (fun _ _ => rfl))) (pe_ix (ixS (K := K)) (pv 3) (pv 5) (fun _ _ => rfl))) (pa_Constant pe_int pa_nil)))))
      (pss_one (ps_expr (pe_bm PySem.F.plainAttrs_list PySem.F.slot_list_append PySem.F.type_list_append mt_append (pv 2) (pa_Tuple (pe_tup (pa_Call (pe_cal c__law_mul hr rfl pass0 (pa_Subscript (pe_ix (ixS (K := K)) (pv 4) pe_int (fun _ _ => rfl)) (pa_Subscript (pe_ix (ixS (K := K)) (pv 1) pe_int (fun _ _ => rfl)) pa_nil))) (pa_Call (pe_cal c__law_mul hr rfl pass0 (pa_Subscript (pe_ix (ixS (K := K)) (pv 4) pe_int (fun _ _ => rfl)) (pa_Subscript (pe_ix (ixS (K := K)) (pv 1) pe_int (fun _ _ => rfl)) pa_nil))) pa_nil))) pa_nil))))))
      (pss_one (ps_ret (pe_callTy (call_tupS (K := K)) (by rfl) T.tuple (by decide +kernel) (pa_Name (pv 2) pa_nil)))))), ?_⟩
    walk_at "rr"
    rename_i l1 H1 nl c1 el
    refine r_iT ?_
    walk_at "rr"
    refine f_tupI (K := K) (es := ds) (some l1) (fun i σ H2 => ∃ va vb vc us, σ = [some v1, some v3, some (.ref l1), va, vb, vc] ∧ H2 l1 = some (.lst us) ∧ ImAll K H2 us (((rwsOf ds loss l).take i).map L2.dl) ∧ Ch (some l1) H1 H2) (by assumption) ⟨_, _, _, [], rfl, el, .nil, Ch.refl _⟩ (fun i σ H2 ⟨_, _, _, _, _, _, _, c⟩ => c) ?_ ?_
    · rintro i d x σ H2 hd hx ⟨va, vb, vc, us, rfl, eu, al, c2⟩
      have hi : i < ds.length := (List.getElem?_eq_some_iff.mp hd).1
      obtain ⟨a, b, rfl, a0, a1, b0, b1⟩ := isRw_iff (S.rw d (List.mem_of_getElem? hd))
      walk_at "rr"
      refine ⟨by decide, by decide, fun D hD => ?_⟩
      refine c_range0 (K := K) (fun i es => es = [dq (Rat.divInt ((10 - loss) * a) 100), dq (Rat.divInt ((10 - loss) * b) 100)].take i) (by decide) hD rfl ?_ ?_
      · intro j H3 es hj c3 hl e N2 S2 hN
        have j2 : j = 0 ∨ j = 1 := by have : j < 2 := hj; omega
        rcases j2 with rfl | rfl
        · walk_at "rr"
          rename_i im
          exact hN _ _ _ im (by walk_at "ch") (by rw [e]; rfl)
        · walk_at "rr"
          rename_i im
          exact hN _ _ _ im (by walk_at "ch") (by rw [e]; rfl)
      · intro H3 ws es eD aw c3 hl e
        have e : es = [dq (Rat.divInt ((10 - loss) * a) 100), dq (Rat.divInt ((10 - loss) * b) 100)] := e
        rw [e] at aw
        obtain ⟨w1, w2, rfl, i1, i2⟩ := aw.two
        have fa : FQ 4000 (Rat.divInt ((10 - loss) * a) 100) := FQ.mono (n := 64) (FQ.divInt (by decide) (bd_mul10 (by omega) (by omega) a0 (by omega)) (by show (100 : Int).natAbs < 2 ^ 64; decide)) (by decide)
        have fb : FQ 4000 (Rat.divInt ((10 - loss) * b) 100) := FQ.mono (n := 64) (FQ.divInt (by decide) (bd_mul10 (by omega) (by omega) b0 (by omega)) (by show (100 : Int).natAbs < 2 ^ 64; decide)) (by decide)
        have lD : l1 ≠ D := fun z => by rw [z] at eu; rw [hD] at eu; cases eu
        walk_at "rr"
        refine i_tyL (by walk_at "ls") ?_
        walk_at "rr"
        refine y_mul (by walk_at "im") (by assumption) fa (lq.f1.mono (by decide)) fun m1 H4 c4 j1 => ?_
        walk_at "rr"
        refine y_mul (by walk_at "im") (by assumption) fb (lq.f2.mono (by decide)) fun m2 H5 c5 j2 => ?_
        walk_at "rr"
        rename_i tt H6 nt c6 m6
        refine i_app (ys := us) (by walk_at "ls") (by have := al.length; rw [List.length_map, List.length_take] at this; omega) fun H7 c7 e7 => ?_
        walk_at "rr"
        refine ⟨_, _, _, us ++ [.ref tt], rfl, e7, ?_, by walk_at "ch"⟩
        have ex : (rwsOf ds loss l).take (i + 1) = (rwsOf ds loss l).take i ++ [(Rat.divInt ((10 - loss) * a) 100 * l.1, Rat.divInt ((10 - loss) * b) 100 * l.2)] := by
          rw [List.take_succ_eq_append_getElem (by unfold rwsOf; rw [List.length_map]; exact hi)]
          congr 2
          unfold rwsOf
          rw [List.getElem_map, show ds[i] = PyData.tuple [.int a, .int b] from (List.getElem?_eq_some_iff.mp hd).2]
          show (Rat.divInt (a * (10 - loss)) 100 * l.1, Rat.divInt (b * (10 - loss)) 100 * l.2) = _
          rw [Int.mul_comm a, Int.mul_comm b]
        rw [ex, List.map_append]
        exact (ImAll.ch c7 (ImAll.ch c6 (ImAll.ch c5 (ImAll.ch c4 (ImAll.ch c3 al))))).snoc (m6.ch c7)
    · rintro σ H2 ⟨va, vb, vc, us, rfl, eu, al, c2⟩
      walk_at "rr"
      refine i_tupL eu al fun u H3 c3 m3 => ?_
      rw [List.take_of_length_le (by unfold rwsOf; rw [List.length_map]; exact Nat.le_refl _)] at m3
      exact k u H3 (by walk_at "ch") m3
end


section
variable {P : Program} {w : World} {K : PySem.W.Frag} {mg : Str → Option Value} {base : Heap} {f : Addr} {fd : FuncData}
abbrev s__law_strong : Stmt := top 60
abbrev N__law_strong : List Str := ["_law_liquor_here", "_law_hundredths", "_law_whole", "_law_one", "_law_other"]
abbrev P__law_strong : List Str := ["_law_liquor_here", "_law_hundredths"]
theorem sc__law_strong : FnScope N__law_strong P__law_strong (defScope s__law_strong) := ⟨rfl, rfl, rfl, by decide +kernel, rfl, by decide +kernel, by decide +kernel⟩
def spStrong (K : PySem.W.Frag) : Sp := fun vs H Q _ => ∃ (v : V) (l : Rat × Rat) (h : Int), vs = [v, .int h] ∧ Im K H v (dl l) ∧ FQ 1000 l.1 ∧ FQ 1000 l.2 ∧ 0 ≤ h ∧ h ≤ 100 ∧ ∀ H', Ch none H H' → Q (.int (sg (100 * l.1) ((h : Rat) * (l.1 + l.2)))) H'
theorem y_strong {K : PySem.W.Frag} {H : Hp} {Q : VK} {E : XK} {v : V} {l : Rat × Rat} {h : Int} (hv : Im K H v (dl l)) (f1 : FQ 1000 l.1) (f2 : FQ 1000 l.2) (h0 : 0 ≤ h) (h1 : h ≤ 100) (k : ∀ H', Ch none H H' → Q (.int (sg (100 * l.1) ((h : Rat) * (l.1 + l.2)))) H') : spStrong K ([v, .int h] ++ []) H Q E := ⟨v, l, h, rfl, hv, f1, f2, h0, h1, k⟩
theorem ok__law_strong (F : Fun K "_law_strong" "_law_strong" s__law_strong f fd) (T : Nob mg) (c__law_all : Cal P w K mg base CX0 "_law_all" 35 P__law_all (spMs K)) (c__law_mul : Cal P w K mg base CX0 "_law_mul" 34 P__law_mul (spMul K)) (c__law_less : Cal P w K mg base CX0 "_law_less" 1 P__law_less (spBelow4 K)) : FnOk P w K mg base CX0 36 f fd P__law_strong (spStrong K) := by
  refine F.ok sc__law_strong (fun vs H Q E h => ?_) (fun cdv A outer s H vs Q E hr h => ?_)
  · obtain ⟨v, l, h, rfl, _⟩ := h; rfl
  · obtain ⟨v, l, hh, rfl, hv, f1, f2, h0, h1, k⟩ := h
    have fh : FQ 64 (hh : Rat) := ⟨by show hh.natAbs < 2 ^ 64; omega, by show (1 : Int).natAbs < 2 ^ 64; decide⟩
    have f100 : FQ 64 (100 : Rat) := ⟨by show (100 : Int).natAbs < 2 ^ 64; decide, by show (1 : Int).natAbs < 2 ^ 64; decide⟩
    have fw := f1.add f2
    refine ⟨_, (pss_cons (ps_set_Call (i := 2) sc__law_strong.nd rfl (Or.inl rfl) (pe_cal c__law_all hr rfl pass0 (pa_Name (pv 0) pa_nil)))
      (pss_cons (ps_par (i := 3) (j := 4) (by rfl) sc__law_strong.nd rfl rfl (by decide) rfl rfl (pa_Call (pe_cal c__law_mul hr rfl pass0 (pa_Tuple (pe_tup (pa_Constant pe_int (pa_Constant pe_int pa_nil))) (pa_Subscript (pe_ix (ixS (K := K)) (pv 0) pe_int (fun _ _ => rfl)) pa_nil))) (pa_Call (pe_cal c__law_mul hr rfl pass0 (pa_Tuple (pe_tup (pa_Name (pv 1) (pa_Constant pe_int pa_nil))) (pa_Name (pv 2) pa_nil))) pa_nil)) (by rfl))
      (pss_one (ps_ret (pe_op op_sub (pe_callTy call_int1 (by rfl) T.int (by decide +kernel) (pa_Call (pe_cal c__law_less hr rfl pass0 (pa_Name (pv 4) (pa_Name (pv 3) pa_nil))) pa_nil)) (pe_callTy call_int1 (by rfl) T.int (by decide +kernel) (pa_Call (pe_cal c__law_less hr rfl pass0 (pa_Name (pv 3) (pa_Name (pv 4) pa_nil))) pa_nil))))))), ?_⟩
    walk_at "rr"
    refine y_ms hv (f1.mono (by decide)) (f2.mono (by decide)) fun u H1 c1 m1 => ?_
    have hv1 := hv.ch c1
    unfold L2.dl at hv1
    walk_at "rr"
    rename_i t1 H2 n2 c2 m2 _ j1
    have m2 : Im K H2 (.ref t1) (dq 100) := m2
    refine y_mul (p := 100) (q := l.1) m2 (by assumption) (f100.mono (by decide)) (f1.mono (by decide)) fun v1 H3 c3 m3 => ?_
    walk_at "rr"
    rename_i t2 H4 n4 c4 m4
    have m4 : Im K H4 (.ref t2) (dq (hh : Rat)) := m4
    refine y_mul (p := (hh : Rat)) (q := l.1 + l.2) m4 (by walk_at "im") (fh.mono (by decide)) (fw.mono (by decide)) fun v2 H5 c5 m5 => ?_
    walk_at "rr"
    refine y_less m5 (by walk_at "im") ((fh.mul fw).mono (by decide)) ((f100.mul f1).mono (by decide)) ?_
    walk_at "rr"
    refine y_less (by walk_at "im") m5 ((f100.mul f1).mono (by decide)) ((fh.mul fw).mono (by decide)) ?_
    walk_at "rr"
    have kk := k H5 (by walk_at "ch")
    unfold sg at kk
    simpa using kk
end


section
variable {P : Program} {w : World} {K : PySem.W.Frag} {mg : Str → Option Value} {base : Heap} {f : Addr} {fd : FuncData}
abbrev s__law_two : Stmt := top 61
abbrev N__law_two : List Str := ["_law_purse_here", "_law_still_here", "_law_charge_here", "_law_some", "_law_liquor_here", "_law_whole", "_law_part", "_law_pair"]
abbrev P__law_two : List Str := ["_law_purse_here", "_law_still_here", "_law_charge_here"]
theorem sc__law_two : FnScope N__law_two P__law_two (defScope s__law_two) := ⟨rfl, rfl, rfl, by decide +kernel, rfl, by decide +kernel, by decide +kernel⟩
def spTwo (K : PySem.W.Frag) : Sp := fun vs H Q _ => ∃ (p : Addr) (v1 v3 : V) (d : PyData) (ds : List PyData) (loss : Int) (l : Rat × Rat), vs = [.ref p, v1, v3] ∧ Purse H p ∧ Im K H v1 d ∧ St1 d ds loss ∧ Im K H v3 (dl l) ∧ LQ 500 l ∧ ∀ v H' (hi lo : Int), Ch (some p) H H' → Purse H' p → Im K H' v (.tuple [.int hi, .int lo]) → 0 ≤ lo → lo ≤ hi → hi ≤ 100 → Q v H'
theorem y_two {K : PySem.W.Frag} {H : Hp} {Q : VK} {E : XK} {p : Addr} {v1 v3 : V} {d : PyData} {ds : List PyData} {loss : Int} {l : Rat × Rat} (hP : Purse H p) (h1 : Im K H v1 d) (s : St1 d ds loss) (h3 : Im K H v3 (dl l)) (lq : LQ 500 l) (k : ∀ v H' (hi lo : Int), Ch (some p) H H' → Purse H' p → Im K H' v (.tuple [.int hi, .int lo]) → 0 ≤ lo → lo ≤ hi → hi ≤ 100 → Q v H') : spTwo K ([.ref p, v1, v3] ++ []) H Q E := ⟨p, v1, v3, d, ds, loss, l, rfl, hP, h1, s, h3, lq, k⟩
theorem dq_inv {w : Rat} (h : 0 < w) : dq w⁻¹ = .tuple [.int (w.den : Int), .int w.num] := by
  have hn : 0 < w.num := by have := (Rat.lt_iff 0 w).mp h; simpa using this
  unfold dq
  rw [Rat.num_inv, Rat.den_inv, Int.sign_eq_one_of_pos hn, if_neg (by omega), Int.one_mul, Int.natAbs_of_nonneg (by omega)]
theorem FQ.inv {n : Nat} {w : Rat} (h : FQ n w) (hw : w ≠ 0) : FQ n w⁻¹ := by
  rw [Rat.inv_def]
  exact FQ.divInt (fun e => hw (Rat.num_eq_zero.mp e)) h.2 h.1
theorem floor_100 {r : Rat} (h0 : 0 ≤ r) (h1 : r ≤ 100) : 0 ≤ r.num / (r.den : Int) ∧ r.num / (r.den : Int) ≤ 100 := by
  have dp := r.den_pos
  have a := Rat.num_nonneg.mpr h0
  have b := (Rat.le_iff _ _).mp h1
  refine ⟨Int.ediv_nonneg a (by omega), ?_⟩
  have b : r.num * 1 ≤ 100 * (r.den : Int) := b
  refine Int.ediv_le_of_le_mul (by omega) (by omega)
theorem part_100 {a b : Rat} (ha : 0 ≤ a) (hb : 0 ≤ b) (h : 0 < a + b) : 0 ≤ 100 * (a * (a + b)⁻¹) ∧ 100 * (a * (a + b)⁻¹) ≤ 100 := by
  have e : a * (a + b)⁻¹ = a / (a + b) := (Rat.div_def _ _).symm
  have h2 : 0 ≤ a / (a + b) := by have : ¬ a / (a + b) < 0 := (by rw [Rat.div_lt_iff h]; grind); grind
  have h3 : ¬ 1 < a / (a + b) := by rw [Rat.lt_div_iff h]; grind
  rw [e]
  grind
theorem ok__law_two (F : Fun K "_law_two" "_law_two" s__law_two f fd) (T : Nob mg) (c__law_take : Cal P w K mg base CX0 "_law_take" 1 P__law_take (spTake)) (c__law_rows : Cal P w K mg base CX0 "_law_rows" 35 P__law_rows (spLRows K)) (c__law_all : Cal P w K mg base CX0 "_law_all" 35 P__law_all (spMs K)) (c__law_mul : Cal P w K mg base CX0 "_law_mul" 34 P__law_mul (spMul K)) : FnOk P w K mg base CX0 36 f fd P__law_two (spTwo K) := by
  refine F.ok sc__law_two (fun vs H Q E h => ?_) (fun cdv A outer s H vs Q E hr h => ?_)
  · obtain ⟨p, v1, v3, d, ds, loss, l, rfl, _⟩ := h; rfl
  · obtain ⟨p, v1, v3, d, ds, loss, l, rfl, hP, h1, S, h3, lq, k⟩ := h
    have n8 := S.n8
    have fq := rws_fq S lq
    have f100 : FQ 64 (100 : Rat) := ⟨by show (100 : Int).natAbs < 2 ^ 64; decide, by show (1 : Int).natAbs < 2 ^ 64; decide⟩
    obtain ⟨R, hR⟩ : ∃ R, R = rwsOf ds loss l := ⟨_, rfl⟩
    have lR : R.length = ds.length := by rw [hR]; unfold rwsOf; rw [List.length_map]
    rw [← hR] at fq
    refine ⟨_, (pss_cons (ps_set_List (i := 3) sc__law_two.nd rfl (Or.inl rfl) (pe_lst (pa_Constant pe_int (pa_Constant pe_int (pa_Call (pe_cal c__law_take hr rfl pass0 (pa_Name (pv 0) (pa_Constant pe_int pa_nil))) (pa_Call (pe_cal c__law_take hr rfl pass0 (pa_Name (pv 0) (pa_Constant pe_int pa_nil))) pa_nil))))))
      (pss_cons (ps_for PassesOwn.never rfl (pi_seqS (K := K) (pe_cal c__law_rows hr rfl pass0 (pa_Name (pv 1) (pa_Name (pv 2) pa_nil)))) (pg_name (i := 4) sc__law_two.nd rfl (Or.inl rfl)) (pss_cons (ps_set_Call (i := 5) sc__law_two.nd rfl (Or.inl rfl) (pe_cal c__law_all hr rfl pass0 (pa_Name (pv 4) pa_nil)))
      (pss_one (ps_if (pt_cmpR op_gt (pe_ix (ixS (K := K)) (pv 5) pe_int (fun _ _ => rfl)) pe_int (nomark _)) (pss_cons (ps_set_Call (i := 6) sc__law_two.nd rfl (Or.inl rfl) (pe_cal c__law_mul hr rfl pass0 (pa_Tuple (pe_tup (pa_Constant pe_int (pa_Constant pe_int pa_nil))) (pa_Call (pe_cal c__law_mul hr rfl pass0 (pa_Subscript (pe_ix (ixS (K := K)) (pv 4) pe_int (fun _ _ => rfl)) (pa_Tuple (pe_tup (pa_Subscript (pe_ix (ixS (K := K)) (pv 5) pe_int (fun _ _ => rfl)) (pa_Subscript (pe_ix (ixS (K := K)) (pv 5) pe_int (fun _ _ => rfl)) pa_nil))) pa_nil))) pa_nil))))
      (pss_one (ps_set_BinOp (i := 3) sc__law_two.nd rfl (Or.inl rfl) (pe_op (opAddS (K := K)) (pv 3) (pe_lst (pa_Call (pe_callB (call_max2 rfl) (by rfl) T.max (by decide +kernel) (pa_Constant pe_int (pa_Call (pe_callB (call_min2 rfl) (by rfl) T.min (by decide +kernel) (pa_Constant pe_int (pa_BinOp (pe_op op_sub (pe_op (opAddS (K := K)) (pe_op op_fdivB (pe_ix (ixS (K := K)) (pv 6) pe_int (fun _ _ => rfl)) (pe_ix (ixS (K := K)) (pv 6) pe_int (fun _ _ => rfl))) (pe_cal c__law_take hr rfl pass0 (pa_Name (pv 0) (pa_Constant pe_int pa_nil)))) pe_int) pa_nil))) pa_nil))) (pa_BinOp (pe_op op_fdivB (pe_ix (ixS (K := K)) (pv 6) pe_int (fun _ _ => rfl)) (pe_ix (ixS (K := K)) (pv 6) pe_int (fun _ _ => rfl))) pa_nil))))))) pss_nil))))
      (pss_cons (ps_set_List (i := 7) sc__law_two.nd rfl (Or.inl rfl) (pe_lst (pa_Subscript (pe_ix (ixS (K := K)) (pv 3) (pe_cal c__law_take hr rfl pass0 (pa_Name (pv 0) (pa_Call (pe_callB (callLenS (K := K)) (by rfl) T.len (by decide +kernel) (pa_Name (pv 3) pa_nil)) pa_nil))) (fun _ _ => rfl)) (pa_Subscript (pe_ix (ixS (K := K)) (pv 3) (pe_cal c__law_take hr rfl pass0 (pa_Name (pv 0) (pa_Call (pe_callB (callLenS (K := K)) (by rfl) T.len (by decide +kernel) (pa_Name (pv 3) pa_nil)) pa_nil))) (fun _ _ => rfl)) pa_nil))))
      (pss_one (ps_ret (pe_tup (pa_Call (pe_callB (cr_maxS (K := K) rfl) (by rfl) T.max (by decide +kernel) (pa_Name (pv 7) pa_nil)) (pa_Call (pe_callB (cr_minS (K := K) rfl) (by rfl) T.min (by decide +kernel) (pa_Name (pv 7) pa_nil)) pa_nil)))))))), ?_⟩
    walk_at "rr"
    rename_i a H1 a0 a1 c1 hP1 b H2 b0 b1 c2 hP2 l1 H3 nl c3 el
    refine r_iT ?_
    walk_at "rr"
    refine y_lrows (by walk_at "im") S (by walk_at "im") (lq.mono (by decide)) fun v H4 c4 m4 => ?_
    rw [← hR] at m4
    have hP4 : Purse H4 p := by walk_at "pu"
    refine f_tupI (K := K) (es := R.map L2.dl) (some p) (fun i σ H5 => ∃ va vb vc l2 ns, σ = [some (.ref p), some v1, some v3, some (.ref l2), va, vb, vc, none] ∧ H5 l2 = some (.lst (ns.map V.int)) ∧ (∀ n ∈ ns, 0 ≤ n ∧ n ≤ 100) ∧ 4 ≤ ns.length ∧ ns.length ≤ 4 + 2 * i ∧ l2 ≠ p ∧ Ch (some p) H4 H5 ∧ Purse H5 p) m4 ⟨_, _, _, l1, [0, 100, a, b], rfl, by walk_at "ls", by simp; omega, by simp, by simp, hP2.ne nl, Ch.refl _, hP4⟩ (fun i σ H2 ⟨_, _, _, _, _, _, _, _, _, _, _, c, _⟩ => c) ?_ ?_
    · rintro i d x σ H5 hd hx ⟨va, vb, vc, l2, ns, rfl, e2, hns, n4, nm, l2p, c5, hP5⟩
      rw [List.getElem?_map] at hd
      obtain ⟨m, hm, rfl⟩ := Option.map_eq_some_iff.mp hd
      have hi : i < R.length := (List.getElem?_eq_some_iff.mp hm).1
      have f := fq m (List.mem_of_getElem? hm)
      walk_at "rr"
      refine y_ms hx (f.1.mono (by decide)) (f.2.1.mono (by decide)) fun u H6 c6 m6 => ?_
      have hx6 := hx.ch c6
      unfold L2.dl at hx6
      walk_at "rr"
      have hw : 0 < m.1 + m.2 ∨ m.1 + m.2 = 0 := by have := f.2.2; grind
      rcases hw with hw | hw
      · have hn : 0 < (m.1 + m.2).num := by have := (Rat.lt_iff 0 _).mp hw; simpa using this
        have fw := FQ.inv (f.1.add f.2.1) (by grind : m.1 + m.2 ≠ 0)
        unfold L2.dq at m6
        walk_at "rr"
        rename_i t1 H7 n7 c7 m7 _ _ _ _ _ _ t2 H8 n8 c8 m8
        have m7 : Im K H7 (.ref t1) (dq 100) := m7
        rw [← dq_inv hw] at m8
        refine y_mul (p := m.1) (q := (m.1 + m.2)⁻¹) (by walk_at "im") m8 (f.1.mono (by decide)) (fw.mono (by decide)) fun w1 H9 c9 m9 => ?_
        walk_at "rr"
        refine y_mul (p := 100) (q := m.1 * (m.1 + m.2)⁻¹) (by walk_at "im") m9 (f100.mono (by decide)) ((f.1.mul fw).mono (by decide)) fun w2 Ha ca ma => ?_
        have fa := f100.mul (f.1.mul fw)
        have pr := part_100 f.2.2.1 f.2.2.2 hw
        have fl := floor_100 pr.1 pr.2
        generalize 100 * (m.1 * (m.1 + m.2)⁻¹) = r at ma fa fl
        have dp := r.den_pos
        unfold L2.dq at ma
        have fb : Bd 8999 (r.den : Int) := fa.2.mono (by decide)
        walk_at "rr"
        rename_i w3 Hb w30 w31 cb hPb _ _ _ _ q Hc nq cc eq
        have qp : q ≠ p := hPb.ne nq
        refine i_cat (by walk_at "ls") eq (Nat.ble_eq_true_of_le (by simp; omega)) fun q2 Hd nq2 cd ed => ?_
        walk_at "rr"
        refine ⟨_, _, _, q2, ns ++ [_, _], rfl, by rw [List.map_append]; exact ed, ?_, by simp; omega, by simp; omega, Purse.ne (p := p) (H := Hc) (by walk_at "pu") nq2, by walk_at "ch", by walk_at "pu"⟩
        intro n hn
        rcases List.mem_append.mp hn with hn | hn
        · exact hns n hn
        · simp only [List.mem_cons, List.not_mem_nil, or_false] at hn
          rcases hn with rfl | rfl
          · constructor <;> (repeat' split) <;> omega
          · exact fl
      · have hn : ¬ 0 < (m.1 + m.2).num := by rw [hw]; decide
        walk_at "rr"
        exact ⟨_, _, _, l2, ns, rfl, by walk_at "ls", hns, n4, by omega, l2p, by walk_at "ch", by walk_at "pu"⟩
    · rintro σ H5 ⟨va, vb, vc, l2, ns, rfl, e2, hns, n4, nm, l2p, c5, hP5⟩
      walk_at "rr"
      rw [List.length_map]
      refine y_take (by walk_at "pu") (by omega) (by rw [List.length_map] at nm; omega) fun w1 H6 w10 w11 c6 hP6 => ?_
      refine i_pick (by walk_at "ls") w10 (by rw [List.length_map]; exact w11) fun x1 hx1 => ?_
      obtain ⟨n1, hn1, rfl⟩ := List.mem_map.mp hx1
      walk_at "rr"
      rw [List.length_map]
      refine y_take (by walk_at "pu") (by omega) (by rw [List.length_map] at nm; omega) fun w2 H7 w20 w21 c7 hP7 => ?_
      refine i_pick (by walk_at "ls") w20 (by rw [List.length_map]; exact w21) fun x2 hx2 => ?_
      obtain ⟨n2, hn2, rfl⟩ := List.mem_map.mp hx2
      walk_at "rr"
      rename_i q H8 nq c8 eq
      refine ⟨q, [n1, n2], rfl, SqL.of eq, by simp, fun hi hm hle => ?_⟩
      walk_at "rr"
      refine ⟨q, [n1, n2], rfl, SqL.of eq, by simp, fun lo lm lle => ?_⟩
      walk_at "rr"
      rename_i im
      have b1 := hns n1 hn1
      have b2 := hns n2 hn2
      have a1 := hle n1 (by simp)
      have a2 := lle n1 (by simp)
      simp only [List.mem_cons, List.not_mem_nil, or_false] at hm lm
      exact k _ _ hi lo (by walk_at "ch") (by walk_at "pu") im (by omega) (by omega) (by omega)
end


section
variable {P : Program} {w : World} {K : PySem.W.Frag} {mg : Str → Option Value} {base : Heap} {f : Addr} {fd : FuncData}
abbrev s__law_falling : Stmt := top 63
abbrev N__law_falling : List Str := ["_law_purse_here", "_law_still_here", "_law_keyed", "_law_a", "_law_b", "_law_rows_here", "_law_key", "_law_k", "_law_row"]
abbrev P__law_falling : List Str := ["_law_purse_here", "_law_still_here"]
theorem sc__law_falling : FnScope N__law_falling P__law_falling (defScope s__law_falling) := ⟨rfl, rfl, rfl, by decide +kernel, rfl, by decide +kernel, by decide +kernel⟩
def spFallg (K : PySem.W.Frag) : Sp := fun vs H Q _ => ∃ (p : Addr) (v : V) (d : PyData) (ds : List PyData) (loss : Int), vs = [.ref p, v] ∧ Purse H p ∧ Im K H v d ∧ St1 d ds loss ∧ ∀ (v' : V) (H' : Hp) (d' : PyData) (ds' : List PyData), St1 d' ds' loss → fallsL (fil ds') = true → Im K H' v' d' → Ch (some p) H H' → Purse H' p → Q v' H'
theorem y_fallg {K : PySem.W.Frag} {H : Hp} {Q : VK} {E : XK} {p : Addr} {v : V} {d : PyData} {ds : List PyData} {loss : Int} (hP : Purse H p) (hv : Im K H v d) (S : St1 d ds loss) (k : ∀ (v' : V) (H' : Hp) (d' : PyData) (ds' : List PyData), St1 d' ds' loss → fallsL (fil ds') = true → Im K H' v' d' → Ch (some p) H H' → Purse H' p → Q v' H') : spFallg K ([.ref p, v] ++ []) H Q E := ⟨p, v, d, ds, loss, rfl, hP, hv, S, k⟩
def keyR (r : PyData) : Int := 0 - tnOf 0 r * 232792560 / (tnOf 0 r + tnOf 1 r)
def kxs (rs : List PyData) : List (Int × Int × PyData) := rs.mapIdx fun k r => (keyR r, (k : Int), r)
theorem kxs_snoc (rs : List PyData) (r : PyData) : kxs (rs ++ [r]) = kxs rs ++ [(keyR r, (rs.length : Int), r)] := by
  unfold kxs
  rw [List.mapIdx_concat]
theorem kxs_len (rs : List PyData) : (kxs rs).length = rs.length := by unfold kxs; rw [List.length_mapIdx]
theorem kxs_rows (rs : List PyData) : (kxs rs).map (fun x => x.2.2) = rs := by
  refine List.ext_getElem (by rw [List.length_map, kxs_len]) fun i h1 h2 => ?_
  simp [kxs]
theorem kxs_key {rs : List PyData} {x : Int × Int × PyData} (h : x ∈ kxs rs) : x.1 = keyR x.2.2 ∧ x.2.2 ∈ rs := by
  unfold kxs at h
  obtain ⟨i, hi, rfl⟩ := List.mem_mapIdx.mp h
  exact ⟨rfl, List.getElem_mem hi⟩
theorem kxs_nd (rs : List PyData) : ((kxs rs).map fun x => x.2.1).Nodup := by
  have : (kxs rs).map (fun x => x.2.1) = (List.range rs.length).map fun (k : Nat) => (k : Int) := by
    refine List.ext_getElem (by rw [List.length_map, kxs_len]; simp) fun i h1 h2 => ?_
    simp [kxs]
  rw [this, List.nodup_iff_pairwise_ne, List.pairwise_map]
  exact (List.nodup_range).imp fun h e => h (Int.ofNat_inj.mp e)
theorem div20 (s : Int) (h1 : 1 ≤ s) (h2 : s ≤ 20) : ∃ c : Int, 232792560 = c * s ∧ 0 < c := by
  have e : s = 1 ∨ s = 2 ∨ s = 3 ∨ s = 4 ∨ s = 5 ∨ s = 6 ∨ s = 7 ∨ s = 8 ∨ s = 9 ∨ s = 10 ∨ s = 11 ∨ s = 12 ∨ s = 13 ∨ s = 14 ∨ s = 15 ∨ s = 16 ∨ s = 17 ∨ s = 18 ∨ s = 19 ∨ s = 20 := by omega
  refine ⟨232792560 / s, ?_⟩
  rcases e with rfl | rfl | rfl | rfl | rfl | rfl | rfl | rfl | rfl | rfl | rfl | rfl | rfl | rfl | rfl | rfl | rfl | rfl | rfl | rfl <;> decide
theorem nz_pos {r : PyData} (h : isRw r = true) (hz : nzR r = true) : 0 < tnOf 0 r + tnOf 1 r := by
  have a := tnOf_bd (c := 0) h
  have b := tnOf_bd (c := 1) h
  unfold nzR at hz
  by_cases z0 : tnOf 0 r = 0 <;> by_cases z1 : tnOf 1 r = 0 <;> simp [z0, z1] at hz <;> omega
theorem key_le {x y : PyData} (hx : isRw x = true) (zx : nzR x = true) (hy : isRw y = true) (zy : nzR y = true) (h : keyR x ≤ keyR y) : wkR x y = false := by
  have px := nz_pos hx zx
  have py := nz_pos hy zy
  have a1 := tnOf_bd (c := 0) hx
  have b1 := tnOf_bd (c := 1) hx
  have a2 := tnOf_bd (c := 0) hy
  have b2 := tnOf_bd (c := 1) hy
  unfold keyR at h
  unfold wkR
  generalize tnOf 0 x = a at *
  generalize tnOf 1 x = b at *
  generalize tnOf 0 y = c at *
  generalize tnOf 1 y = d at *
  obtain ⟨m, em, pm⟩ := div20 (a + b) (by omega) (by omega)
  obtain ⟨n, en, pn⟩ := div20 (c + d) (by omega) (by omega)
  have e1 : a * 232792560 / (a + b) = a * m := by rw [em, ← Int.mul_assoc, Int.mul_ediv_cancel _ (by omega)]
  have e2 : c * 232792560 / (c + d) = c * n := by rw [en, ← Int.mul_assoc, Int.mul_ediv_cancel _ (by omega)]
  rw [e1, e2] at h
  have h : c * n ≤ a * m := by omega
  refine decide_eq_false fun z => ?_
  -- a * d < c * b, so a * (c + d) < c * (a + b)
  have z2 : a * (c + d) < c * (a + b) := by rw [Int.mul_add, Int.mul_add, Int.mul_comm a c]; omega
  have hs : 0 < (a + b) * (c + d) := Int.mul_pos px py
  have l1 : c * n * ((a + b) * (c + d)) ≤ a * m * ((a + b) * (c + d)) := Int.mul_le_mul_of_nonneg_right h (by omega)
  have l2 : c * n * ((a + b) * (c + d)) = 232792560 * (c * (a + b)) := by rw [en]; ac_rfl
  have l3 : a * m * ((a + b) * (c + d)) = 232792560 * (a * (c + d)) := by rw [em]; ac_rfl
  rw [l2, l3] at l1
  omega
theorem falls_of {rs : List PyData} {xs : List (Int × Int × PyData)} (hr : ∀ r ∈ rs, isRw r = true ∧ nzR r = true) (hp : xs.Perm (kxs rs)) (hs : xs.Pairwise fun x y => le2 (x.1, x.2.1) (y.1, y.2.1)) : fallsL (xs.map fun x => x.2.2) = true := by
  rw [fallsL_pw, List.pairwise_map]
  refine List.Pairwise.imp_of_mem (fun {x y} hx hy h => ?_) hs
  obtain ⟨e1, m1⟩ := kxs_key (hp.mem_iff.mp hx)
  obtain ⟨e2, m2⟩ := kxs_key (hp.mem_iff.mp hy)
  refine key_le (hr _ m1).1 (hr _ m1).2 (hr _ m2).1 (hr _ m2).2 ?_
  rw [← e1, ← e2]
  rcases h with h | ⟨h, _⟩
  · exact Int.le_of_lt h
  · exact Int.le_of_eq h
theorem tnD_fil (c : Int) (hc : c = 0 ∨ c = 1) : ∀ {ds : List PyData}, (∀ e ∈ ds, isRw e = true) → tnD c (ds.filter nzR) = tnD c ds
  | [], _ => rfl
  | d :: ds, h => by
    have ih := tnD_fil c hc (ds := ds) fun e he => h e (List.mem_cons_of_mem _ he)
    have cons : ∀ l : List PyData, tnD c (d :: l) = tnOf c d + tnD c l := fun l => by unfold tnD; rw [List.map_cons, List.sum_cons]
    rw [List.filter_cons]
    split
    · rw [cons, cons, ih]
    · rename_i hz
      rw [cons, ih]
      have : nzR d = false := by simpa using hz
      unfold nzR at this
      simp at this
      rcases hc with rfl | rfl <;> omega
theorem tnD_perm {c : Int} {a b : List PyData} (h : a.Perm b) : tnD c a = tnD c b := by
  unfold tnD
  induction h with
  | nil => rfl
  | cons x _ ih => rw [List.map_cons, List.map_cons, List.sum_cons, List.sum_cons, ih]
  | swap x y l => simp only [List.map_cons, List.sum_cons]; omega
  | trans _ _ ih1 ih2 => exact ih1.trans ih2
/-- nought put in anywhere -/
theorem ins0 {rows R : List PyData} (k : Nat) (h1 : rows.filter nzR = R) (h2 : ∀ e ∈ rows, isRw e = true) (h3 : tnD 0 rows = tnD 0 R) (h4 : tnD 1 rows = tnD 1 R) :
    (rows.take k ++ PyData.tuple [.int 0, .int 0] :: rows.drop k).filter nzR = R ∧ (∀ e ∈ rows.take k ++ PyData.tuple [.int 0, .int 0] :: rows.drop k, isRw e = true) ∧ tnD 0 (rows.take k ++ PyData.tuple [.int 0, .int 0] :: rows.drop k) = tnD 0 R ∧ tnD 1 (rows.take k ++ PyData.tuple [.int 0, .int 0] :: rows.drop k) = tnD 1 R := by
  have cons : ∀ (c : Int) (l : List PyData), tnD c (PyData.tuple [.int 0, .int 0] :: l) = tnD c l := fun c l => by
    unfold tnD
    rw [List.map_cons, List.sum_cons]
    show (if c = 0 then (0 : Int) else 0) + _ = _
    split <;> omega
  refine ⟨?_, fun e he => ?_, ?_, ?_⟩
  · rw [List.filter_append, List.filter_cons, if_neg (by decide), ← List.filter_append, List.take_append_drop, h1]
  · rcases List.mem_append.mp he with he | he
    · exact h2 e (List.mem_of_mem_take he)
    · rcases List.mem_cons.mp he with rfl | he
      · decide
      · exact h2 e (List.mem_of_mem_drop he)
  · rw [tnD_append, cons, ← tnD_append, List.take_append_drop, h3]
  · rw [tnD_append, cons, ← tnD_append, List.take_append_drop, h4]
theorem ok__law_falling (F : Fun K "_law_falling" "_law_falling" s__law_falling f fd) (T : Nob mg) (c__law_take : Cal P w K mg base CX0 "_law_take" 1 P__law_take (spTake)) : FnOk P w K mg base CX0 2 f fd P__law_falling (spFallg K) := by
  refine F.ok sc__law_falling (fun vs H Q E h => ?_) (fun cdv A outer s H vs Q E hr h => ?_)
  · obtain ⟨p, v, d, ds, loss, rfl, _⟩ := h; rfl
  · obtain ⟨p, v, d, ds, loss, rfl, hP, hv, S, k⟩ := h
    have n8 := S.n8
    have n1 := S.n1
    obtain rfl := S.eq
    refine ⟨_, (pss_cons (ps_set_List (i := 2) sc__law_falling.nd rfl (Or.inl rfl) (pe_lst pa_nil))
      (pss_cons (ps_for PassesOwn.never rfl (pi_seqS (K := K) (pe_ix (ixS (K := K)) (pv 1) pe_int (fun _ _ => rfl))) (pg_seqS (K := K) (n := 2) rfl (pgs_cons (pg_name (i := 3) sc__law_falling.nd rfl (Or.inl rfl)) (pgs_cons (pg_name (i := 4) sc__law_falling.nd rfl (Or.inl rfl)) pgs_nil))) (pss_one (ps_if (pt_cmpR op_gt (pe_op (opAddS (K := K)) (pv 3) (pv 4)) pe_int (nomark _)) (pss_one (ps_expr (pe_bm PySem.F.plainAttrs_list PySem.F.slot_list_append PySem.F.type_list_append mt_append (pv 2) (pa_Tuple (pe_tup (pa_BinOp (pe_op op_sub pe_int (pe_op op_fdivB (pe_op opMul (pv 3) pe_int) (pe_op (opAddS (K := K)) (pv 3) (pv 4)))) (pa_Call (pe_callB (callLenS (K := K)) (by rfl) T.len (by decide +kernel) (pa_Name (pv 2) pa_nil)) (pa_Tuple (pe_tup (pa_Name (pv 3) (pa_Name (pv 4) pa_nil))) pa_nil)))) pa_nil)))) pss_nil)))
      (pss_cons (ps_setLc (i := 5) (own := [("_law_key", 6), ("_law_k", 7), ("_law_row", 8)]) (by rfl) sc__law_falling.nd rfl rfl (sw_true rfl rfl rfl (by decide +kernel)) (pi_seqS (K := K) (pe_callB (cr_sortTS (K := K)) (by rfl) T.sorted (by decide +kernel) (pa_Name (pv 2) pa_nil))) (blkOk_by (own := [("_law_key", 6), ("_law_k", 7), ("_law_row", 8)]) (N := N__law_falling) (sc := defScope s__law_falling) (by first | decide +kernel | exact rfl)) (fun _ _ _ _ _ => (pg_seqS (K := K) (n := 3) rfl (pgs_cons (pg_name (i := 6) sc__law_falling.nd rfl (Or.inl rfl)) (pgs_cons (pg_name (i := 7) sc__law_falling.nd rfl (Or.inl rfl)) (pgs_cons (pg_name (i := 8) sc__law_falling.nd rfl (Or.inl rfl)) pgs_nil))))) (fun _ _ _ _ _ => pts_nil) (fun _ _ _ _ _ => (pv 8)))
      (pss_cons (ps_for PassesOwn.never rfl (pi_range1 (by rfl) T.range (pa_BinOp (pe_op op_sub (pe_callB (callLenS (K := K)) (by rfl) T.len (by decide +kernel) (pa_Subscript (pe_ix (ixS (K := K)) (pv 1) pe_int (fun _ _ => rfl)) pa_nil)) (pe_callB (callLenS (K := K)) (by rfl) T.len (by decide +kernel) (pa_Name (pv 5) pa_nil))) pa_nil)) (pg_name (i := 7) sc__law_falling.nd rfl (Or.inl rfl)) (pss_one (ps_expr (pe_bm PySem.F.plainAttrs_list PySem.F.slot_list_insert PySem.F.type_list_insert mt_insert (pv 5) (pa_Call (pe_cal c__law_take hr rfl pass0 (pa_Name (pv 0) (pa_BinOp (pe_op (opAddS (K := K)) (pe_callB (callLenS (K := K)) (by rfl) T.len (by decide +kernel) (pa_Name (pv 5) pa_nil)) pe_int) pa_nil))) (pa_Tuple (pe_tup (pa_Constant pe_int (pa_Constant pe_int pa_nil))) pa_nil))))))
      (pss_one (ps_ret (pe_tup (pa_Call (pe_callTy (call_tupS (K := K)) (by rfl) T.tuple (by decide +kernel) (pa_Name (pv 5) pa_nil)) (pa_Subscript (pe_ix (ixS (K := K)) (pv 1) pe_int (fun _ _ => rfl)) pa_nil))))))))), ?_⟩
    walk_at "rr"
    rename_i D0 H1 n0 c1 e1
    have pn : D0 ≠ p := hP.ne n0
    refine r_iT ?_
    walk_at "rr"
    rename_i u0 i0
    refine f_tupI (K := K) (es := ds) (some D0) (fun i σ H2 => ∃ va vb vc vd ve vf us, σ = [some (.ref p), some v, some (.ref D0), va, vb, vc, vd, ve, vf] ∧ H2 D0 = some (.lst us) ∧ ImAll K H2 us ((kxs ((ds.take i).filter nzR)).map twoD) ∧ Ch (some D0) H1 H2) i0 ⟨_, _, _, _, _, _, _, rfl, e1, .nil, Ch.refl _⟩ (fun i σ H2 ⟨_, _, _, _, _, _, _, _, _, _, c⟩ => c) ?_ ?_
    · rintro i d x σ H2 hd hx ⟨va, vb, vc, vd, ve, vf, us, rfl, e2, al, c2⟩
      obtain ⟨hi, ed⟩ := List.getElem?_eq_some_iff.mp hd
      have rw_ := S.rw d (List.mem_of_getElem? hd)
      obtain ⟨a, b, rfl, a0, a1, b0, b1⟩ := isRw_iff rw_
      have ft := fil_take hd
      have lu : us.length = (kxs ((ds.take i).filter nzR)).length := by rw [al.length, List.length_map]
      have lu2 : us.length ≤ 8 := by
        rw [lu, kxs_len]
        exact Nat.le_trans (List.length_filter_le _ _) (by rw [List.length_take]; omega)
      have hb1 : Bd 8999 (a + b) := Bd.mono (n := 8) (by show (a + b).natAbs < 2 ^ 8; omega) (by decide)
      walk_at "rr"
      refine ite2 (fun h1 => ?_) (fun h1 => ?_)
      · have h1 : 0 < a + b := of_decide_eq_true h1
        have hz : nzR (.tuple [.int a, .int b]) = true := by
          show (!(decide (a = 0) && decide (b = 0))) = true
          by_cases z0 : a = 0 <;> by_cases z1 : b = 0 <;> simp [z0, z1]
          omega
        rw [hz, if_pos rfl] at ft
        walk_at "rr"
        refine i_tyL e2 ?_
        walk_at "rr"
        rename_i t1 H3 n3 c3 m3 t2 H4 n4 c4 m4
        refine i_app (ys := us) (by walk_at "ls") (by omega) fun H5 c5 e5 => ?_
        walk_at "rr"
        refine ⟨_, _, _, _, _, _, _, rfl, e5, ?_, by walk_at "ch"⟩
        rw [ft, kxs_snoc, List.map_append]
        refine ImAll.snoc (((al.ch c3).ch c4).ch c5) ?_
        have m5 := m4.ch c5
        rw [lu, kxs_len] at m5
        exact m5
      · have h1 : ¬ 0 < a + b := of_decide_eq_false (by simpa using h1)
        have hz : nzR (.tuple [.int a, .int b]) = false := by
          show (!(decide (a = 0) && decide (b = 0))) = false
          rw [decide_eq_true (by omega : a = 0), decide_eq_true (by omega : b = 0)]; rfl
        rw [hz, if_neg (by decide), List.append_nil] at ft
        walk_at "rr"
        exact ⟨_, _, _, _, _, _, us, rfl, e2, by rw [ft]; exact al, c2⟩
    · rintro σ H2 ⟨va, vb, vc, vd, ve, vf, us, rfl, e2, al, c2⟩
      rw [List.take_length] at al
      obtain ⟨F0, hF⟩ : ∃ F0, F0 = ds.filter nzR := ⟨_, rfl⟩
      rw [← hF] at al
      have fr : ∀ r ∈ F0, isRw r = true ∧ nzR r = true := fun r hr => by
        rw [hF] at hr
        obtain ⟨h1, h2⟩ := List.mem_filter.mp hr
        exact ⟨S.rw r h1, h2⟩
      have fl : F0.length ≤ ds.length := by rw [hF]; exact List.length_filter_le _ _
      have cH2 : Ch none H H2 := Ch.own c2 n0 c1
      have hP2 : Purse H2 p := by walk_at "pu"
      walk_at "rr"
      refine r_iL ?_
      walk_at "rr"
      refine i_sortT (K := K) e2 al (by rw [kxs_len]; omega) (kxs_nd _) fun xs' p2 us' H3 pm sd np2 c3 e3 al3 => ?_
      have lx : xs'.length = F0.length := by rw [pm.length_eq, kxs_len]
      have fa := falls_of fr pm sd
      have px : (xs'.map fun x => x.2.2).Perm F0 := by
        have := pm.map fun x => x.2.2
        rwa [kxs_rows] at this
      refine c_listD (K := K) (fun j es => es = (xs'.map fun x => x.2.2).take j) (by rw [List.length_map]; omega) e3 al3 rfl ?_ ?_
      · intro j H4 es2 x2 d2 hd2 hx2 c4 hl2 hl2' N3 S3 hN3
        rw [List.getElem?_map] at hd2
        obtain ⟨y, hy, rfl⟩ := Option.map_eq_some_iff.mp hd2
        obtain ⟨hj, ey⟩ := List.getElem?_eq_some_iff.mp hy
        have my := (kxs_key (pm.mem_iff.mp (List.mem_of_getElem? hy))).2
        have rwy := (fr _ my).1
        obtain ⟨y1, y2, y3⟩ := y
        have rwy : isRw y3 = true := rwy
        obtain ⟨a, b, rfl, _⟩ := isRw_iff rwy
        unfold twoD at hx2
        walk_at "rr"
        refine hN3 _ _ _ (by assumption) (Ch.refl _) ?_
        show _ = List.take (j + 1) _
        rw [List.take_succ_eq_append_getElem (by rw [List.length_map]; exact hj), List.getElem_map, ey, ← hl2']
      · intro D H4 us4 es nD eD al4 c4 hl e
        rw [List.length_map, ← List.length_map (f := fun x : Int × Int × PyData => x.2.2), List.take_length] at e
        subst e
        obtain ⟨R', hR⟩ : ∃ R', R' = xs'.map fun x => x.2.2 := ⟨_, rfl⟩
        rw [← hR] at al4 fa px
        have l4 : us4.length = R'.length := al4.length
        have lR : R'.length = F0.length := px.length_eq
        have R0 : R'.filter nzR = R' := List.filter_eq_self.mpr fun r hr => (fr r (px.mem_iff.mp hr)).2
        have Rr : ∀ e ∈ R', isRw e = true := fun r hr => (fr r (px.mem_iff.mp hr)).1
        have cH4 : Ch none H H4 := cH2.trans (c3.trans c4)
        have hP4 : Purse H4 p := by walk_at "pu"
        have Dp : D ≠ p := (hP2.ch c3).ne nD
        have nD0 : H D = none := (cH2.trans c3).fr nD
        walk_at "rr"
        rename_i u4 i4
        refine ⟨by omega, by omega, ?_⟩
        refine f_range (fun i σ H5 => ∃ va vb vc vd ve us5 rows, σ = [some (.ref p), some v, some (.ref D0), va, vb, some (.ref D), vc, vd, ve] ∧ H5 D = some (.lst us5) ∧ ImAll K H5 us5 rows ∧ rows.length = R'.length + i ∧ (rows.filter nzR = R' ∧ (∀ e ∈ rows, isRw e = true) ∧ tnD 0 rows = tnD 0 R' ∧ tnD 1 rows = tnD 1 R') ∧ Ch (some p) H H5 ∧ Purse H5 p) ⟨_, _, _, _, _, us4, R', rfl, eD, al4, rfl, ⟨R0, Rr, rfl, rfl⟩, cH4.weak, hP4⟩ ?_ ?_
        · rintro i σ H5 hi ⟨va, vb, vc, vd, ve, us5, rows, rfl, e5, al5, l5, ⟨f1, f2, f3, f4⟩, c5, hP5⟩
          have lu5 : us5.length = rows.length := al5.length
          walk_at "rr"
          refine i_tyL e5 ?_
          walk_at "rr"
          rename_i kk H6 k0 k1 c6 hP6 t7 H7 n7 c7 m7
          have e7 : H7 D = some (.lst us5) := by walk_at "ls"
          refine i_ins e7 k0 (by omega) (by omega) fun H8 c8 e8 => ?_
          walk_at "rr"
          refine ⟨_, _, _, _, _, _, rows.take kk.toNat ++ PyData.tuple [.int 0, .int 0] :: rows.drop kk.toNat, rfl, e8, ?_, ?_, ins0 _ f1 f2 f3 f4, Ch.own c8 nD0 (c5.trans (c6.trans c7.weak)), ?_⟩
          · have al8 := ((al5.ch c6).ch c7).ch c8
            have a1 := al8.take kk.toNat
            have a2 := al8.drop kk.toNat
            exact a1.append (.cons (m7.ch c8) a2)
          · rw [List.length_append, List.length_cons, List.length_take, List.length_drop]
            omega
          · walk_at "pu"
        · rintro σ H5 ⟨va, vb, vc, vd, ve, us5, rows, rfl, e5, al5, l5, ⟨f1, f2, f3, f4⟩, c5, hP5⟩
          walk_at "rr"
          refine i_tupL e5 al5 fun q H6 c6 m6 => ?_
          walk_at "rr"
          rename_i im
          refine k _ _ _ rows ⟨rfl, by omega, by omega, f2, ?_, ?_, S.l0, S.l9⟩ (by rw [show fil rows = R' from f1]; exact fa) im (by walk_at "ch") (by walk_at "pu")
          · rw [f3, tnD_perm px, hF, tnD_fil 0 (.inl rfl) S.rw]; exact S.t0
          · rw [f4, tnD_perm px, hF, tnD_fil 1 (.inr rfl) S.rw]; exact S.t1
end


section
variable {P : Program} {w : World} {K : PySem.W.Frag} {mg : Str → Option Value} {base : Heap} {f : Addr} {fd : FuncData}
abbrev s__law_linear : Stmt := top 65
abbrev N__law_linear : List Str := ["_law_still_here", "_law_cut_here", "_law_one", "_law_other", "_law_part", "_law_told", "_law_charge_here", "_law_k", "_law_rows_here", "_law_some"]
abbrev P__law_linear : List Str := ["_law_still_here", "_law_cut_here", "_law_one", "_law_other", "_law_part"]
theorem sc__law_linear : FnScope N__law_linear P__law_linear (defScope s__law_linear) := ⟨rfl, rfl, rfl, by decide +kernel, rfl, by decide +kernel, by decide +kernel⟩
structure LinIn (K : PySem.W.Frag) (H : Hp) (v1 v2 v3 v4 v5 : V) (d : PyData) (ds : List PyData) (loss h t : Int) (l m : Rat × Rat) (p : Rat) : Prop where
  i1 : Im K H v1 d
  S : St1 d ds loss
  i2 : Im K H v2 (.tuple [.int h, .int t])
  h0 : 0 ≤ h
  ht : h ≤ t
  tn : t ≤ (ds.length : Int)
  i3 : Im K H v3 (dl l)
  ql : LQ 500 l
  i4 : Im K H v4 (dl m)
  qm : LQ 500 m
  i5 : Im K H v5 (dq p)
  p0 : 0 ≤ p
  fp : FQ 64 p
def spLin (K : PySem.W.Frag) : Sp := fun vs H Q _ => ∃ (v1 v2 v3 v4 v5 : V) (d : PyData) (ds : List PyData) (loss h t : Int) (l m : Rat × Rat) (p : Rat), vs = [v1, v2, v3, v4, v5] ∧ LinIn K H v1 v2 v3 v4 v5 d ds loss h t l m p ∧ ∀ H', Ch none H H' → Q (.bl true) H'
theorem y_lin {K : PySem.W.Frag} {H : Hp} {Q : VK} {E : XK} {v1 v2 v3 v4 v5 : V} {d : PyData} {ds : List PyData} {loss h t : Int} {l m : Rat × Rat} {p : Rat} (I : LinIn K H v1 v2 v3 v4 v5 d ds loss h t l m p) (k : ∀ H', Ch none H H' → Q (.bl true) H') : spLin K ([v1, v2, v3, v4, v5] ++ []) H Q E := ⟨v1, v2, v3, v4, v5, d, ds, loss, h, t, l, m, p, rfl, I, k⟩
def prtF (ds : List PyData) (loss h t : Int) (l : Rat × Rat) (i : Nat) : Rat × Rat := ((shr ds loss h t 0).getD i 0 * l.1, (shr ds loss h t 1).getD i 0 * l.2)
theorem prt_at {ds : List PyData} {loss h t : Int} {l : Rat × Rat} {i : Nat} (hi : i < 5) : (prt ds loss h t l)[i]? = some (prtF ds loss h t l i) := by
  match i, hi with
  | 0, _ => rfl
  | 1, _ => rfl
  | 2, _ => rfl
  | 3, _ => rfl
  | 4, _ => rfl
theorem prtF_dla (ds : List PyData) (loss h t : Int) (l m : Rat × Rat) (i : Nat) : prtF ds loss h t (dla l m) i = dla (prtF ds loss h t l i) (prtF ds loss h t m i) := by
  show (_ * (l.1 + m.1), _ * (l.2 + m.2)) = (_ * l.1 + _ * m.1, _ * l.2 + _ * m.2)
  rw [Rat.mul_add, Rat.mul_add]
theorem prtF_mul (ds : List PyData) (loss h t : Int) (l : Rat × Rat) (p : Rat) (i : Nat) : prtF ds loss h t (p * l.1, p * l.2) i = (p * (prtF ds loss h t l i).1, p * (prtF ds loss h t l i).2) := by
  show (_ * (p * l.1), _ * (p * l.2)) = (p * (_ * l.1), p * (_ * l.2))
  rw [← Rat.mul_assoc, ← Rat.mul_assoc, ← Rat.mul_assoc, ← Rat.mul_assoc, Rat.mul_comm p, Rat.mul_comm p]
theorem prtF_fq {d : PyData} {ds : List PyData} {loss h t : Int} (S : St1 d ds loss) {n : Nat} {l : Rat × Rat} (f1 : FQ n l.1) (f2 : FQ n l.2) {i : Nat} (hi : i < 5) : FQ (64 + n) (prtF ds loss h t l i).1 ∧ FQ (64 + n) (prtF ds loss h t l i).2 := by
  have g : ∀ c, FQ 64 ((shr ds loss h t c).getD i 0) := fun c => by
    have hi : i < (shr ds loss h t c).length := hi
    rw [List.getD_eq_getElem?_getD, List.getElem?_eq_getElem hi]
    exact shr_fq S _ (List.getElem_mem hi)
  exact ⟨(g 0).mul f1, (g 1).mul f2⟩
theorem prt_fq {d : PyData} {ds : List PyData} {loss h t : Int} (S : St1 d ds loss) {n : Nat} {l : Rat × Rat} (f1 : FQ n l.1) (f2 : FQ n l.2) : ∀ x ∈ prt ds loss h t l, FQ (64 + n) x.1 ∧ FQ (64 + n) x.2 := fun x hx => by
  obtain ⟨i, hi, rfl⟩ := List.getElem_of_mem hx
  have hi5 : i < 5 := hi
  have e := prt_at (ds := ds) (loss := loss) (h := h) (t := t) (l := l) hi5
  rw [List.getElem?_eq_getElem hi] at e
  rw [Option.some.inj e]
  exact prtF_fq S f1 f2 hi5
theorem fq_sums {n : Nat} {ls : List (Rat × Rat)} (f : ∀ l ∈ ls, FQ n l.1 ∧ FQ n l.2) : ∀ i, i ≤ ls.length → FQ (1 + i * (n + 1)) (sumL (ls.take i)).1 ∧ FQ (1 + i * (n + 1)) (sumL (ls.take i)).2
  | 0, _ => by
    show FQ _ (0 : Rat) ∧ FQ _ (0 : Rat)
    exact ⟨lq0 (by omega), lq0 (by omega)⟩
  | i + 1, hi => by
    obtain ⟨a, b⟩ := fq_sums f i (by omega)
    obtain ⟨c, e⟩ := f ls[i] (List.getElem_mem (by omega))
    rw [sumL_take (by omega)]
    have z : 1 + i * (n + 1) + n + 1 = 1 + (i + 1) * (n + 1) := by rw [Nat.succ_mul]; omega
    have a := a.add c
    have b := b.add e
    rw [z] at a b
    exact ⟨a, b⟩
theorem divInt_add (a b : Int) (c : Rat) : Rat.divInt a 100 * c + Rat.divInt b 100 * c = Rat.divInt (a + b) 100 * c := by
  rw [Rat.divInt_eq_div, Rat.divInt_eq_div, Rat.divInt_eq_div, Rat.intCast_add]
  grind
theorem sum_rows (loss : Int) (l : Rat × Rat) : ∀ ds : List PyData, sumL (ds.map fun d => (Rat.divInt (tnOf 0 d * (10 - loss)) 100 * l.1, Rat.divInt (tnOf 1 d * (10 - loss)) 100 * l.2)) = (Rat.divInt (tnD 0 ds * (10 - loss)) 100 * l.1, Rat.divInt (tnD 1 ds * (10 - loss)) 100 * l.2)
  | [] => by
    show ((0 : Rat), (0 : Rat)) = (Rat.divInt (0 * (10 - loss)) 100 * l.1, Rat.divInt (0 * (10 - loss)) 100 * l.2)
    rw [Int.zero_mul, Rat.zero_divInt, Rat.zero_mul, Rat.zero_mul]
  | d :: ds => by
    have ih := sum_rows loss l ds
    rw [sumL_eq] at ih ⊢
    have ih1 := congrArg Prod.fst ih
    have ih2 := congrArg Prod.snd ih
    dsimp only at ih1 ih2
    rw [List.map_cons, List.map_cons, List.map_cons, List.sum_cons, List.sum_cons, ih1, ih2]
    dsimp only
    rw [divInt_add, divInt_add, ← Int.add_mul, ← Int.add_mul]
    unfold tnD
    rw [List.map_cons, List.map_cons, List.sum_cons, List.sum_cons]
theorem prt_sum {d : PyData} {ds : List PyData} {loss h t : Int} (l : Rat × Rat) (h0 : 0 ≤ h) (ht : h ≤ t) : sumL (prt ds loss h t l) = l := by
  have one : ∀ c : Int, ∀ x : Rat, Rat.divInt (tnD c (ds.take h.toNat) * (10 - loss)) 100 * x + (Rat.divInt (tnD c ((ds.drop h.toNat).take (t.toNat - h.toNat)) * (10 - loss)) 100 * x + (Rat.divInt (tnD c (ds.drop t.toNat) * (10 - loss)) 100 * x + (Rat.divInt (10 - tnD c ds) 10 * x + (Rat.divInt (tnD c ds * loss) 100 * x + 0)))) = x := fun c x => by
    have e := tnD_split c ds h.toNat t.toNat (by omega)
    have e10 : Rat.divInt (10 - tnD c ds) 10 = Rat.divInt ((10 - tnD c ds) * 10) 100 := by
      rw [Rat.divInt_eq_div, Rat.divInt_eq_div, Rat.intCast_mul]
      grind
    rw [e10, Rat.add_zero, divInt_add, divInt_add, divInt_add, divInt_add]
    generalize tnD c (ds.take h.toNat) = a at *
    generalize tnD c ((ds.drop h.toNat).take (t.toNat - h.toNat)) = b at *
    generalize tnD c (ds.drop t.toNat) = g at *
    generalize tnD c ds = s at *
    subst e
    have : a * (10 - loss) + (b * (10 - loss) + (g * (10 - loss) + ((10 - (a + b + g)) * 10 + (a + b + g) * loss))) = 100 := by
      simp only [Int.mul_sub, Int.sub_mul, Int.add_mul]
      omega
    rw [this]
    show Rat.divInt 100 100 * x = x
    have : Rat.divInt 100 100 = 1 := by decide +kernel
    rw [this, Rat.one_mul]
  rw [sumL_eq]
  exact Prod.ext (one 0 l.1) (one 1 l.2)
/-- what heads, heart and tails are made of -/
def segs (ds : List PyData) (h t : Int) : List (List PyData) := [ds.take h.toNat, (ds.drop h.toNat).take (t.toNat - h.toNat), ds.drop t.toNat]
theorem seg_at {ds : List PyData} {loss h t : Int} {l : Rat × Rat} {i : Nat} {sg : List PyData} (hs : (segs ds h t)[i]? = some sg) : i < 5 ∧ prtF ds loss h t l i = sumL (sg.map fun d => (Rat.divInt (tnOf 0 d * (10 - loss)) 100 * l.1, Rat.divInt (tnOf 1 d * (10 - loss)) 100 * l.2)) := by
  rw [sum_rows]
  match i, hs with
  | 0, hs => cases hs; exact ⟨by decide, rfl⟩
  | 1, hs => cases hs; exact ⟨by decide, rfl⟩
  | 2, hs => cases hs; exact ⟨by decide, rfl⟩
  | n + 3, hs => simp [segs] at hs
theorem ok__law_linear (F : Fun K "_law_linear" "_law_linear" s__law_linear f fd) (T : Nob mg) (c_run : Cal P w K mg base CX0 "run" 45 P_run (spRun K)) (c__law_both : Cal P w K mg base CX0 "_law_both" 35 P__law_both (spTog K)) (c__law_of : Cal P w K mg base CX0 "_law_of" 35 P__law_of (spOf K)) (c__law_just : Cal P w K mg base CX0 "_law_just" 5 P__law_just (spJust K 4)) (c_rows_of : Cal P w K mg base CX0 "rows_of" 44 P_rows_of (spRows K)) (c__law_heap : Cal P w K mg base CX0 "_law_heap" 36 P__law_heap (spHeapT K)) : FnOk P w K mg base CX0 46 f fd P__law_linear (spLin K) := by
  refine F.ok sc__law_linear (fun vs H Q E h => ?_) (fun cdv A outer s H vs Q E hr h => ?_)
  · obtain ⟨v1, v2, v3, v4, v5, d, ds, loss, hh, t, l, m, p, rfl, _⟩ := h; rfl
  · obtain ⟨v1, v2, v3, v4, v5, d, ds, loss, hh, t, l, m, p, rfl, I, k⟩ := h
    obtain ⟨i1, S, i2, h0, ht, tn, i3, ql, i4, qm, i5, p0, fp⟩ := I
    have n8 := S.n8
    have fl1 := ql.f1
    have fl2 := ql.f2
    have fm1 := qm.f1
    have fm2 := qm.f2
    refine ⟨_, (pss_cons (ps_setLc (i := 5) (own := [("_law_charge_here", 6)]) (by rfl) sc__law_linear.nd rfl rfl (sw_true rfl rfl rfl (by decide +kernel)) (pi_seqS (K := K) (pe_tup (pa_Name (pv 2) (pa_Name (pv 3) (pa_Call (pe_cal c__law_both hr rfl pass0 (pa_Name (pv 2) (pa_Name (pv 3) pa_nil))) (pa_Call (pe_cal c__law_of hr rfl pass0 (pa_Name (pv 4) (pa_Name (pv 2) pa_nil))) pa_nil)))))) (blkOk_by (own := [("_law_charge_here", 6)]) (N := N__law_linear) (sc := defScope s__law_linear) (by first | decide +kernel | exact rfl)) (fun _ _ _ _ _ => (pg_name (i := 6) sc__law_linear.nd rfl (Or.inl rfl))) (fun _ _ _ _ _ => pts_nil) (fun _ _ _ _ _ => (pe_cal c_run hr rfl pass0 (pa_Name (pv 0) (pa_Name (pv 1) (pa_Name (pv 6) pa_nil))))))
      (pss_cons (ps_for PassesOwn.never rfl (pi_range1 (by rfl) T.range (pa_Constant pe_int pa_nil)) (pg_name (i := 7) sc__law_linear.nd rfl (Or.inl rfl)) (pss_cons (ps_if (pt_not (pt_val (pe_cal c__law_just hr rfl pass0 (pa_Subscript (pe_ix (ixS (K := K)) (pe_ix (ixS (K := K)) (pv 5) pe_int (fun _ _ => rfl)) (pv 7) (fun _ _ => rfl)) (pa_Call (pe_cal c__law_both hr rfl pass0 (pa_Subscript (pe_ix (ixS (K := K)) (pe_ix (ixS (K := K)) (pv 5) pe_int (fun _ _ => rfl)) (pv 7) (fun _ _ => rfl)) (pa_Subscript (pe_ix (ixS (K := K)) (pe_ix (ixS (K := K)) (pv 5) pe_int (fun _ _ => rfl)) (pv 7) (fun _ _ => rfl)) pa_nil))) pa_nil))))) (pss_one (ps_ret pe_bl)) pss_nil)
      (pss_one (ps_if (pt_not (pt_val (pe_cal c__law_just hr rfl pass0 (pa_Subscript (pe_ix (ixS (K := K)) (pe_ix (ixS (K := K)) (pv 5) pe_int (fun _ _ => rfl)) (pv 7) (fun _ _ => rfl)) (pa_Call (pe_cal c__law_of hr rfl pass0 (pa_Name (pv 4) (pa_Subscript (pe_ix (ixS (K := K)) (pe_ix (ixS (K := K)) (pv 5) pe_int (fun _ _ => rfl)) (pv 7) (fun _ _ => rfl)) pa_nil))) pa_nil))))) (pss_one (ps_ret pe_bl)) pss_nil))))
      (pss_cons (ps_set_Call (i := 8) sc__law_linear.nd rfl (Or.inl rfl) (pe_cal c_rows_of hr rfl pass0 (pa_Name (pv 0) (pa_Name (pv 2) pa_nil))))
      (pss_cons (ps_for PassesOwn.never rfl (pi_enumS (K := K) (by rfl) T.enumerate (pa_List (pe_lst (pa_Subscript (pe_slice (slB (K := K)) (pv 8) po_none (po_some (pe_ix (ixS (K := K)) (pv 1) pe_int (fun _ _ => rfl)))) (pa_Subscript (pe_slice (slB (K := K)) (pv 8) (po_some (pe_ix (ixS (K := K)) (pv 1) pe_int (fun _ _ => rfl))) (po_some (pe_ix (ixS (K := K)) (pv 1) pe_int (fun _ _ => rfl)))) (pa_Subscript (pe_slice (slB (K := K)) (pv 8) (po_some (pe_ix (ixS (K := K)) (pv 1) pe_int (fun _ _ => rfl))) po_none) pa_nil)))) pa_nil)) (pg_seqS (K := K) (n := 2) rfl (pgs_cons (pg_name (i := 7) sc__law_linear.nd rfl (Or.inl rfl)) (pgs_cons (pg_name (i := 9) sc__law_linear.nd rfl (Or.inl rfl)) pgs_nil))) (pss_one (ps_if (pt_not (pt_val (pe_cal c__law_just hr rfl pass0 (pa_Subscript (pe_ix (ixS (K := K)) (pe_ix (ixS (K := K)) (pv 5) pe_int (fun _ _ => rfl)) (pv 7) (fun _ _ => rfl)) (pa_Call (pe_cal c__law_heap hr rfl pass0 (pa_Name (pv 9) pa_nil)) pa_nil))))) (pss_one (ps_ret pe_bl)) pss_nil)))
      (pss_one (ps_ret (pe_cal c__law_just hr rfl pass0 (pa_Call (pe_cal c__law_heap hr rfl pass0 (pa_Subscript (pe_ix (ixS (K := K)) (pv 5) pe_int (fun _ _ => rfl)) pa_nil)) (pa_Name (pv 2) pa_nil))))))))), ?_⟩
    walk_at "rr"
    refine r_iT ?_
    walk_at "rr"
    refine y_tog i3 i4 (fl1.mono (by decide)) (fl2.mono (by decide)) (fm1.mono (by decide)) (fm2.mono (by decide)) fun w1 H1 c1 m1 => ?_
    walk_at "rr"
    refine y_of (p := p) (l := l) (by walk_at "im") (by walk_at "im") (fp.mono (by decide)) (fl1.mono (by decide)) (fl2.mono (by decide)) fun w2 H2 c2 m2 => ?_
    walk_at "rr"
    rename_i t3 H3 n3 c3 m3
    obtain ⟨ls, hls⟩ : ∃ ls : List (Rat × Rat), ls = [l, m, dla l m, (p * l.1, p * l.2)] := ⟨_, rfl⟩
    have good : ∀ x ∈ ls, 0 ≤ Prod.fst x ∧ 0 ≤ Prod.snd x ∧ FQ 1100 (Prod.fst x) ∧ FQ 1100 (Prod.snd x) := fun x hx => by
      rw [hls] at hx
      simp only [List.mem_cons, List.not_mem_nil, or_false] at hx
      rcases hx with rfl | rfl | rfl | rfl
      · exact ⟨ql.p1, ql.p2, fl1.mono (by decide), fl2.mono (by decide)⟩
      · exact ⟨qm.p1, qm.p2, fm1.mono (by decide), fm2.mono (by decide)⟩
      · exact ⟨Rat.add_nonneg ql.p1 qm.p1, Rat.add_nonneg ql.p2 qm.p2, (fl1.add fm1).mono (by decide), (fl2.add fm2).mono (by decide)⟩
      · exact ⟨Rat.mul_nonneg p0 ql.p1, Rat.mul_nonneg p0 ql.p2, (fp.mul fl1).mono (by decide), (fp.mul fl2).mono (by decide)⟩
    have m3 : Im K H3 (.ref t3) (.tuple (ls.map L2.dl)) := by rw [hls]; exact m3
    have l4 : ls.length = 4 := by rw [hls]; rfl
    have i13 : Im K H3 v1 d := by walk_at "im"
    have i23 : Im K H3 v2 (.tuple [.int hh, .int t]) := by walk_at "im"
    have i33 : Im K H3 v3 (L2.dl l) := by walk_at "im"
    have i53 : Im K H3 v5 (L2.dq p) := by walk_at "im"
    refine c_tupD (K := K) (es := ls.map L2.dl) (fun j es => es = (ls.map fun l => PyData.tuple ((prt ds loss hh t l).map L2.dl)).take j) (by rw [List.length_map]; omega) m3 rfl ?_ ?_
    · intro j H4 es2 x2 d2 hd2 hx2 c4 hl2 hl2' N3 S3 hN3
      rw [List.getElem?_map] at hd2
      obtain ⟨y, hy, rfl⟩ := Option.map_eq_some_iff.mp hd2
      obtain ⟨hj, ey⟩ := List.getElem?_eq_some_iff.mp hy
      obtain ⟨g1, g2, g3, g4⟩ := good y (List.mem_of_getElem? hy)
      walk_at "rr"
      refine y_run (i13.ch c4) S (i23.ch c4) h0 ht tn hx2 g1 g2 (g3.mono (by decide)) (g4.mono (by decide)) fun q1 H5 c5 m5 => ?_
      refine hN3 _ _ _ m5 c5 ?_
      show _ = List.take (j + 1) _
      rw [List.take_succ_eq_append_getElem (by rw [List.length_map]; exact hj), List.getElem_map, ey, ← hl2']
    · intro D H4 us4 es nD eD al4 c4 hl e
      rw [List.length_map, ← List.length_map (f := fun l => PyData.tuple ((prt ds loss hh t l).map L2.dl)), List.take_length] at e
      subst e
      rw [hls] at al4
      obtain ⟨u1, u2, u3, u4, rfl, a1, a2, a3, a4⟩ : ∃ u1 u2 u3 u4, us4 = [u1, u2, u3, u4] ∧ Im K H4 u1 (.tuple ((prt ds loss hh t l).map L2.dl)) ∧ Im K H4 u2 (.tuple ((prt ds loss hh t m).map L2.dl)) ∧ Im K H4 u3 (.tuple ((prt ds loss hh t (dla l m)).map L2.dl)) ∧ Im K H4 u4 (.tuple ((prt ds loss hh t (p * l.1, p * l.2)).map L2.dl)) := by
        cases al4 with | cons b1 al => cases al with | cons b2 al => cases al with | cons b3 al => cases al with | cons b4 al => cases al; exact ⟨_, _, _, _, rfl, b1, b2, b3, b4⟩
      walk_at "rr"
      refine ⟨by decide, by decide, ?_⟩
      refine f_range (fun i σ H5 => ∃ va vb vc vd, σ = [some v1, some v2, some v3, some v4, some v5, some (.ref D), va, vb, vc, vd] ∧ Ch none H4 H5) ⟨_, _, _, _, rfl, Ch.refl _⟩ ?_ ?_
      · rintro i σ H5 hi ⟨va, vb, vc, vd, rfl, c5⟩
        have hi5 : i < 5 := hi
        have e5 := c5.ls eD
        have pa : ∀ x : Rat × Rat, atI ((prt ds loss hh t x).map L2.dl) (0 + (i : Int)) = some (L2.dl (prtF ds loss hh t x i)) := fun x => atD_z (by rw [List.getElem?_map, prt_at hi5]; rfl)
        have fa := prtF_fq (h := hh) (t := t) S fl1 fl2 hi5
        have fb := prtF_fq (h := hh) (t := t) S fm1 fm2 hi5
        walk_at "rr"
        refine i_ix (K := K) (a3.ch c5) (pa _) fun q1 j1 => ?_
        walk_at "rr"
        refine i_ix (K := K) (a1.ch c5) (pa _) fun q2 j2 => ?_
        walk_at "rr"
        refine i_ix (K := K) (a2.ch c5) (pa _) fun q3 j3 => ?_
        walk_at "rr"
        refine y_tog j2 j3 (fa.1.mono (by decide)) (fa.2.mono (by decide)) (fb.1.mono (by decide)) (fb.2.mono (by decide)) fun w6 H6 c6 m6 => ?_
        walk_at "rr"
        rw [← prtF_dla] at m6
        refine y_just (j1.ch c6) m6 (pl_dl 2 _) (fun _ z => nomatch z) (pn_dl _) fun H7 c7 => ?_
        have e7 := (c6.trans c7).ls e5
        have c57 : Ch none H4 H7 := c5.trans (c6.trans c7)
        walk_at "rr"
        refine i_ix (K := K) (a4.ch c57) (pa _) fun q4 j4 => ?_
        walk_at "rr"
        refine i_ix (K := K) (a1.ch c57) (pa _) fun q5 j5 => ?_
        walk_at "rr"
        refine y_of (p := p) (l := prtF ds loss hh t l i) (i53.ch (c4.trans c57)) j5 (fp.mono (by decide)) (fa.1.mono (by decide)) (fa.2.mono (by decide)) fun w8 H8 c8 m8 => ?_
        walk_at "rr"
        rw [← prtF_mul] at m8
        refine y_just (j4.ch c8) m8 (pl_dl 2 _) (fun _ z => nomatch z) (pn_dl _) fun H9 c9 => ?_
        walk_at "rr"
        exact ⟨_, _, _, _, rfl, c57.trans (c8.trans c9)⟩
      · rintro σ H5 ⟨va, vb, vc, vd, rfl, c5⟩
        have e5 := c5.ls eD
        walk_at "rr"
        refine y_rows (i13.ch (c4.trans c5)) S (i33.ch (c4.trans c5)) ql.p1 ql.p2 (fl1.mono (by decide)) (fl2.mono (by decide)) fun R H6 c6 m6 => ?_
        have i26 : Im K H6 v2 (.tuple [.int hh, .int t]) := i23.ch (c4.trans (c5.trans c6))
        walk_at "rr"
        refine r_enum ?_
        walk_at "rr"
        rename_i _ _ s1 H7 c7 j7 _ _ _ _ s2 H8 c8 j8 _ _ s3 H9 c9 j9 q Ha nq ca ea
        rw [cutD_hi h0] at j7
        rw [cutD_mid h0 (by omega)] at j8
        rw [cutD_lo (by omega)] at j9
        obtain ⟨row, hrow⟩ : ∃ row : PyData → Rat × Rat, row = fun d => (Rat.divInt (tnOf 0 d * (10 - loss)) 100 * l.1, Rat.divInt (tnOf 1 d * (10 - loss)) 100 * l.2) := ⟨_, rfl⟩
        have er : rwsOf ds loss l = ds.map row := by rw [hrow]; rfl
        rw [er] at j7 j8 j9
        have aa : ImAll K Ha [s1, s2, s3] ((segs ds hh t).map fun sg => PyData.tuple ((sg.map row).map L2.dl)) := by
          refine .cons ?_ (.cons ?_ (.cons ?_ .nil))
          · dsimp only
            rw [List.map_take, List.map_take]; exact ((j7.ch c8).ch c9).ch ca
          · dsimp only
            rw [List.map_take, List.map_take, List.map_drop, List.map_drop]; exact (j8.ch c9).ch ca
          · dsimp only
            rw [List.map_drop, List.map_drop]; exact j9.ch ca
        have c5a : Ch none H5 Ha := c6.trans (c7.trans (c8.trans (c9.trans ca)))
        have c4a : Ch none H4 Ha := c5.trans c5a
        have rfq : ∀ sg : List PyData, (∀ e ∈ sg, e ∈ ds) → ∀ x ∈ sg.map row, FQ 4000 (Prod.fst x) ∧ FQ 4000 (Prod.snd x) := fun sg hsg x hx => by
          obtain ⟨e, he, rfl⟩ := List.mem_map.mp hx
          have : row e ∈ rwsOf ds loss l := by rw [er]; exact List.mem_map.mpr ⟨e, hsg e he, rfl⟩
          have f := rws_fq S ql _ this
          exact ⟨f.1.mono (by decide), f.2.1.mono (by decide)⟩
        have tbd : ∀ c, ∀ sg : List PyData, (∀ e ∈ sg, e ∈ ds) → sg.length ≤ 8 → FQ 64 (Rat.divInt (tnD c sg * (10 - loss)) 100) := fun c sg hsg h8 => by
          have b := tnD_bd (c := c) fun e he => S.rw e (hsg e he)
          have l0 := S.l0
          have l9 := S.l9
          refine FQ.divInt (by decide) ?_ (by show (100 : Int).natAbs < 2 ^ 64; decide)
          have h1 : 0 ≤ tnD c sg * (10 - loss) := Int.mul_nonneg b.1 (by omega)
          have h2 : tnD c sg * (10 - loss) ≤ 80 * 10 := Int.mul_le_mul (by omega) (by omega) (by omega) (by decide)
          show (tnD c sg * (10 - loss)).natAbs < 2 ^ 64
          omega
        refine ⟨q, _, rfl, SqL.of ea, ?_⟩
        refine f_enumI (K := K) none (fun i σ Hb => ∃ va vb vc, σ = [some v1, some v2, some v3, some v4, some v5, some (.ref D), va, vb, some R, vc] ∧ Ch none Ha Hb) ea aa (fun _ z => nomatch z) ⟨_, _, _, rfl, Ch.refl _⟩ (fun i σ H2 ⟨_, _, _, _, c⟩ => c) ?_ ?_
        · rintro i d x σ Hb Hc hd ⟨va, vb, vc, rfl, cb⟩ cc hx
          rw [List.getElem?_map] at hd
          obtain ⟨sg, hsg, rfl⟩ := Option.map_eq_some_iff.mp hd
          obtain ⟨hi5, esg⟩ := seg_at (loss := loss) (l := l) hsg
          have mem : ∀ e ∈ sg, e ∈ ds := fun e he => by
            have hm := List.mem_of_getElem? hsg
            simp only [segs, List.mem_cons, List.not_mem_nil, or_false] at hm
            rcases hm with rfl | rfl | rfl
            · exact List.mem_of_mem_take he
            · exact List.mem_of_mem_drop (List.mem_of_mem_take he)
            · exact List.mem_of_mem_drop he
          have len : sg.length ≤ 8 := by
            have hm := List.mem_of_getElem? hsg
            simp only [segs, List.mem_cons, List.not_mem_nil, or_false] at hm
            rcases hm with rfl | rfl | rfl
            · rw [List.length_take]; omega
            · rw [List.length_take, List.length_drop]; omega
            · rw [List.length_drop]; omega
          have ec := (c4a.trans (cb.trans cc)).ls eD
          have fs : ∀ j, j ≤ (sg.map row).length → FQ 4000 (sumL ((sg.map row).take j)).1 ∧ FQ 4000 (sumL ((sg.map row).take j)).2 := fun j _ => by
            rw [← List.map_take, hrow, sum_rows]
            have tm : ∀ e ∈ sg.take j, e ∈ ds := fun e he => mem e (List.mem_of_mem_take he)
            have tl : (sg.take j).length ≤ 8 := by rw [List.length_take]; omega
            exact ⟨((tbd 0 _ tm tl).mul fl1).mono (by decide), ((tbd 1 _ tm tl).mul fl2).mono (by decide)⟩
          walk_at "rr"
          refine i_ix (K := K) (a1.ch (c4a.trans (cb.trans cc))) (d := L2.dl (prtF ds loss hh t l i)) (atI_nat (by rw [List.getElem?_map, prt_at hi5]; rfl)) fun q1 j1 => ?_
          walk_at "rr"
          refine y_heapT (ls := sg.map row) (by assumption) (rfq sg mem) fs fun w Hd cd md => ?_
          walk_at "rr"
          rw [hrow, ← esg] at md
          refine y_just (j1.ch cd) md (pl_dl 2 _) (fun _ z => nomatch z) (pn_dl _) fun He ce => ?_
          walk_at "rr"
          exact ⟨_, _, _, rfl, cb.trans (cc.trans (cd.trans ce))⟩
        · rintro σ Hb ⟨va, vb, vc, rfl, cb⟩
          have eb := (c4a.trans cb).ls eD
          walk_at "rr"
          have fp5 := prt_fq (h := hh) (t := t) S fl1 fl2
          have fsum := fq_sums fp5
          refine y_heapT (a1.ch (c4a.trans cb)) (fun x hx => ⟨(fp5 x hx).1.mono (by decide), (fp5 x hx).2.mono (by decide)⟩) (fun j hj => ?_) fun w Hc cc mc => ?_
          · have hj5 : j ≤ 5 := hj
            have b : 1 + j * (64 + 500 + 1) ≤ 4000 := by omega
            exact ⟨(fsum j hj).1.mono b, (fsum j hj).2.mono b⟩
          rw [prt_sum (d := d) l h0 ht] at mc
          walk_at "rr"
          refine y_just mc (i33.ch (c4.trans (c4a.trans (cb.trans cc)))) (pl_dl 2 _) (fun _ z => nomatch z) (pn_dl _) fun Hd cd => ?_
          exact k _ (by walk_at "ch")
end


section
variable {P : Program} {w : World} {K : PySem.W.Frag} {mg : Str → Option Value} {base : Heap} {f : Addr} {fd : FuncData}
abbrev s__law_falls_right : Stmt := top 66
abbrev N__law_falls_right : List Str := ["_law_still_here", "_law_charge_here", "_law_high", "_law_low_here", "_law_rows_here", "_law_full", "_law_k", "_law_one", "_law_other", "_law_first", "_law_last", "_law_heart"]
abbrev P__law_falls_right : List Str := ["_law_still_here", "_law_charge_here", "_law_high", "_law_low_here"]
theorem sc__law_falls_right : FnScope N__law_falls_right P__law_falls_right (defScope s__law_falls_right) := ⟨rfl, rfl, rfl, by decide +kernel, rfl, by decide +kernel, by decide +kernel⟩
structure FrIn (K : PySem.W.Frag) (H : Hp) (v1 v3 : V) (d : PyData) (ds : List PyData) (loss : Int) (l : Rat × Rat) (hi lo : Int) : Prop where
  h1 : Im K H v1 d
  S : St1 d ds loss
  fa : fallsL (fil ds) = true
  h3 : Im K H v3 (dl l)
  lq : LQ 500 l
  l0 : 0 ≤ lo
  l1 : lo ≤ hi
  l2 : hi ≤ 100
def spFR (K : PySem.W.Frag) : Sp := fun vs H Q _ => ∃ (v1 v3 : V) (d : PyData) (ds : List PyData) (loss : Int) (l : Rat × Rat) (hi lo : Int), vs = [v1, v3, .int hi, .int lo] ∧ FrIn K H v1 v3 d ds loss l hi lo ∧ ∀ H', Ch none H H' → Q (.bl true) H'
theorem y_fr {K : PySem.W.Frag} {H : Hp} {Q : VK} {E : XK} {v1 v3 : V} {d : PyData} {ds : List PyData} {loss : Int} {l : Rat × Rat} {hi lo : Int} (I : FrIn K H v1 v3 d ds loss l hi lo) (k : ∀ H', Ch none H H' → Q (.bl true) H') : spFR K ([v1, v3, .int hi, .int lo] ++ []) H Q E := ⟨v1, v3, d, ds, loss, l, hi, lo, rfl, I, k⟩
theorem natD_range {i : Nat} {q : Nat → Bool} : natD ((List.range (i + 1)).filter q) = natD ((List.range i).filter q) ++ (if q i then [PyData.int (i : Int)] else []) := by
  rw [List.range_succ, List.filter_append]
  unfold natD
  by_cases hq : q i <;> simp [hq]
theorem cla_ints : ∀ ns : List Int, PyData.canLayAll0 (ns.map PyData.int) = true
  | [] => by simp [PyData.canLayAll0]
  | r :: ns => by
    have := cla_ints ns
    rw [List.map_cons]
    simp only [PyData.canLayAll0, this, Bool.and_true]
    simp [PyData.canLay0]
theorem dep_ints : ∀ ns : List Int, PyData.depthAll (ns.map PyData.int) = 0
  | [] => by simp [PyData.depthAll]
  | r :: ns => by
    have := dep_ints ns
    rw [List.map_cons]
    simp [PyData.depthAll, PyData.depth, this]
theorem sh_ints (ns : List Int) : SeqAt.shaped (.list (ns.map PyData.int)) = true := by
  have := cla_ints ns
  have := dep_ints ns
  unfold SeqAt.shaped
  simp [PyData.canLay0, PyData.depth, *]
theorem natD_ints (ns : List Nat) : natD ns = (ns.map fun (k : Nat) => (k : Int)).map PyData.int := by unfold natD; rw [List.map_map]; rfl
theorem sh_nats (ns : List Nat) : SeqAt.shaped (.list (natD ns)) = true := by rw [natD_ints]; exact sh_ints _
theorem eqv_natsA : ∀ ns : List Nat, PyData.eqvAll (natD ns) (natD ns) = true
  | [] => by simp [natD, PyData.eqvAll]
  | n :: ns => by
    have ih := eqv_natsA ns
    unfold natD at ih ⊢
    rw [List.map_cons]
    simp only [PyData.eqvAll, ih, Bool.and_true]
    simp [PyData.eqv]
theorem eqv_nats (ns : List Nat) : PyData.eqv (.list (natD ns)) (.list (natD ns)) = true := by
  simp only [PyData.eqv]
  exact eqv_natsA ns
theorem row_cross0 {a b c e : Int} {g x y : Rat} (hg : (0 : Rat) ≤ g) (hx : (0 : Rat) ≤ x) (hy : (0 : Rat) ≤ y) (h : c * b ≤ a * e) : ((c : Rat) * g * x) * ((b : Rat) * g * y) ≤ ((a : Rat) * g * x) * ((e : Rat) * g * y) := by
  have h1 : ((c : Rat) * (b : Rat)) ≤ ((a : Rat) * (e : Rat)) := by
    rw [← Rat.intCast_mul, ← Rat.intCast_mul]
    exact Rat.intCast_le_intCast.mpr h
  have hk : 0 ≤ (g * g) * (x * y) := Rat.mul_nonneg (Rat.mul_nonneg hg hg) (Rat.mul_nonneg hx hy)
  have h2 := Rat.mul_le_mul_of_nonneg_left h1 hk
  have e1 : ((c : Rat) * g * x) * ((b : Rat) * g * y) = (g * g) * (x * y) * ((c : Rat) * (b : Rat)) := by grind
  have e2 : ((a : Rat) * g * x) * ((e : Rat) * g * y) = (g * g) * (x * y) * ((a : Rat) * (e : Rat)) := by grind
  rw [e1, e2]
  exact h2
theorem row_cross {d0 : PyData} {ds : List PyData} {loss : Int} {l : Rat × Rat} {n : Nat} (S : St1 d0 ds loss) (fa : fallsL (fil ds) = true) (lq : LQ n l) {i j : Nat} (hij : i < j) (hi : i < (rwsOf ds loss l).length) (hj : j < (rwsOf ds loss l).length) (zi : (rwsOf ds loss l)[i] ≠ (0, 0)) (zj : (rwsOf ds loss l)[j] ≠ (0, 0)) :
    (rwsOf ds loss l)[j].1 * (rwsOf ds loss l)[i].2 ≤ (rwsOf ds loss l)[i].1 * (rwsOf ds loss l)[j].2 := by
  have li : i < ds.length := by simpa [rwsOf] using hi
  have lj : j < ds.length := by simpa [rwsOf] using hj
  have rowE : ∀ k (hk : k < ds.length) (h2 : k < (rwsOf ds loss l).length), (rwsOf ds loss l)[k] = ((tnOf 0 ds[k] : Rat) * ((10 - loss : Int) / 100 : Rat) * l.1, (tnOf 1 ds[k] : Rat) * ((10 - loss : Int) / 100 : Rat) * l.2) := by
    intro k hk h2
    simp only [rwsOf, List.getElem_map]
    rw [Rat.divInt_eq_div, Rat.divInt_eq_div, Rat.intCast_mul, Rat.intCast_mul]
    refine Prod.ext ?_ ?_ <;> show _ / ((100 : Int) : Rat) * _ = _ <;> rw [show ((100 : Int) : Rat) = 100 from rfl] <;> grind
  have nz : ∀ k (hk : k < ds.length) (h2 : k < (rwsOf ds loss l).length), (rwsOf ds loss l)[k] ≠ (0, 0) → nzR ds[k] = true := by
    intro k hk h2 z
    cases hz : nzR ds[k] with
    | true => rfl
    | false =>
      unfold nzR at hz
      simp at hz
      refine absurd ?_ z
      rw [rowE k hk h2, hz.1, hz.2]
      refine Prod.ext ?_ ?_ <;> show ((0 : Int) : Rat) * _ * _ = 0 <;> rw [show ((0 : Int) : Rat) = 0 from rfl, Rat.zero_mul, Rat.zero_mul]
  have pw := fallsL_pw.mp fa
  unfold fil at pw
  rw [List.pairwise_filter, List.pairwise_iff_getElem] at pw
  have w := pw i j li lj hij (nz i li hi zi) (nz j lj hj zj)
  unfold wkR at w
  have w := of_decide_eq_false w
  have hg : (0 : Rat) ≤ ((10 - loss : Int) / 100 : Rat) := by
    have l9 := S.l9
    have h1 : (0 : Rat) ≤ ((10 - loss : Int) : Rat) := Rat.intCast_nonneg.mpr (by omega)
    rw [Rat.div_def]
    exact Rat.mul_nonneg h1 (by decide +kernel)
  rw [rowE i li hi, rowE j lj hj]
  exact row_cross0 hg lq.p1 lq.p2 (by omega)
theorem strO_some {m : Rat × Rat} {x : Rat} (h : strO m = some x) : m.1 + m.2 ≠ 0 ∧ x = m.1 / (m.1 + m.2) := by
  unfold strO at h
  split at h
  · cases h
  · rename_i z
    exact ⟨z, (Option.some.inj h).symm⟩
theorem str_mono {a b c e : Rat} (ha : 0 ≤ a) (hb : 0 ≤ b) (hc : 0 ≤ c) (he : 0 ≤ e) (h1 : a + b ≠ 0) (h2 : c + e ≠ 0) (h : c * b ≤ a * e) : c / (c + e) ≤ a / (a + b) := by
  have p1 : 0 < a + b := by grind
  have p2 : 0 < c + e := by grind
  have z : ¬ a / (a + b) < c / (c + e) := by
    rw [Rat.div_lt_iff p1]
    intro z
    have z2 : a * (c + e) < c * (a + b) := by
      have := Rat.mul_lt_mul_of_pos_right z p2
      have e2 : c / (c + e) * (a + b) * (c + e) = c * (a + b) := by
        rw [Rat.mul_assoc, Rat.mul_comm (a + b), ← Rat.mul_assoc, Rat.div_mul_cancel h2]
      rw [e2] at this
      exact this
    grind
  grind
theorem cut_between {ss : List (Option Rat)} {r1 r2 : Rat} (mono : ∀ (i j : Nat) (x y : Rat), i < j → ss[i]? = some (some x) → ss[j]? = some (some y) → y ≤ x) {k : Nat} {x : Rat} (hk : ss[k]? = some (some x)) :
    (decide (ss.findIdx (noStr r1) ≤ k) && decide (k < ss.findIdx (noStr r1) + (ss.drop (ss.findIdx (noStr r1))).findIdx (weakr r2))) = (noStr r1 (some x) && !weakr r2 (some x)) := by
  obtain ⟨st, hst⟩ : ∃ st, st = ss.findIdx (noStr r1) := ⟨_, rfl⟩
  rw [← hst]
  obtain ⟨hkl, ek⟩ := List.getElem?_eq_some_iff.mp hk
  have a1 : st ≤ k ↔ noStr r1 (some x) = true := by
    constructor
    · intro h
      have sl : st < ss.length := by omega
      have hp : noStr r1 ss[st] = true := by
        have := List.findIdx_getElem (xs := ss) (p := noStr r1) (w := by rw [← hst]; exact sl)
        simpa [← hst] using this
      rcases Nat.lt_or_ge st k with h2 | h2
      · cases hs : ss[st] with
        | none => rw [hs] at hp; cases hp
        | some y =>
          rw [hs] at hp
          have := mono st k y x h2 (by rw [List.getElem?_eq_getElem sl, hs]) hk
          have hp : (!decide (r1 < y)) = true := hp
          show (!decide (r1 < x)) = true
          simp at hp ⊢
          grind
      · have : st = k := by omega
        subst this
        rw [ek] at hp; exact hp
    · intro h
      refine Nat.le_of_not_lt fun z => ?_
      have := List.not_of_lt_findIdx (p := noStr r1) (xs := ss) (i := k) (by rw [← hst]; exact z)
      rw [ek] at this
      rw [h] at this
      cases this
  by_cases h1 : st ≤ k
  · rw [decide_eq_true h1, a1.mp h1, Bool.true_and, Bool.true_and]
    have lj : k - st < (ss.drop st).length := by rw [List.length_drop]; omega
    have ej : (ss.drop st)[k - st] = some x := by
      rw [List.getElem_drop]
      simp only [show st + (k - st) = k by omega]
      exact ek
    have a2 : k < st + (ss.drop st).findIdx (weakr r2) ↔ weakr r2 (some x) = false := by
      constructor
      · intro h
        have := List.not_of_lt_findIdx (p := weakr r2) (xs := ss.drop st) (i := k - st) (by omega)
        rw [ej] at this
        simpa using this
      · intro h
        refine Nat.lt_of_not_le fun z => ?_
        have fl : (ss.drop st).findIdx (weakr r2) < (ss.drop st).length := by omega
        have hp := List.findIdx_getElem (xs := ss.drop st) (p := weakr r2) (w := fl)
        generalize hf : (ss.drop st).findIdx (weakr r2) = f at *
        rw [List.getElem_drop] at hp
        cases hs : ss[st + f]'(by rw [List.length_drop] at fl; omega) with
        | none => rw [hs] at hp; cases hp
        | some y =>
          rw [hs] at hp
          have hp : decide (y < r2) = true := hp
          have h : decide (x < r2) = false := h
          simp at hp h
          rcases Nat.lt_or_ge (st + f) k with h2 | h2
          · have := mono (st + f) k y x h2 (by rw [List.getElem?_eq_getElem (by rw [List.length_drop] at fl; omega), hs]) hk
            grind
          · have e3 : st + f = k := by omega
            have : ss[k]? = some (some y) := by rw [← e3, List.getElem?_eq_getElem (by rw [List.length_drop] at fl; omega), hs]
            rw [hk] at this
            cases this
            grind
    cases hw : weakr r2 (some x) with
    | true => exact decide_eq_false fun z => by rw [a2.mp z] at hw; cases hw
    | false => exact decide_eq_true (a2.mpr hw)
  · have h2 : noStr r1 (some x) = false := by
      cases h : noStr r1 (some x) with
      | true => exact absurd (a1.mpr h) h1
      | false => rfl
    rw [decide_eq_false h1, h2]
    rfl
theorem ok__law_falls_right (F : Fun K "_law_falls_right" "_law_falls_right" s__law_falls_right f fd) (T : Nob mg) (c_rows_of : Cal P w K mg base CX0 "rows_of" 44 P_rows_of (spRows K)) (c__law_less : Cal P w K mg base CX0 "_law_less" 1 P__law_less (spBelow4 K)) (c__law_mul : Cal P w K mg base CX0 "_law_mul" 34 P__law_mul (spMul K)) (c__law_all : Cal P w K mg base CX0 "_law_all" 35 P__law_all (spMs K)) (c_cut_by : Cal P w K mg base CX0 "cut_by" 45 P_cut_by (spCutBy K)) (c__law_strong : Cal P w K mg base CX0 "_law_strong" 36 P__law_strong (spStrong K)) (c_falls : Cal P w K mg base CX0 "falls" 19 P_falls (spFalls K)) : FnOk P w K mg base CX0 46 f fd P__law_falls_right (spFR K) := by
  refine F.ok sc__law_falls_right (fun vs H Q E h => ?_) (fun cdv A outer s H vs Q E hr h => ?_)
  · obtain ⟨v1, v3, d, ds, loss, l, hi, lo, rfl, _⟩ := h; rfl
  · obtain ⟨v1, v3, d, ds, loss, l, hi, lo, rfl, I, k⟩ := h
    obtain ⟨h1, S, fa, h3, lq, l0, l1, l2⟩ := I
    have n8 := S.n8
    have fq := rws_fq S lq
    obtain ⟨R, hR⟩ : ∃ R, R = rwsOf ds loss l := ⟨_, rfl⟩
    have lR : R.length = ds.length := by rw [hR]; unfold rwsOf; rw [List.length_map]
    have cross : ∀ i j (hij : i < j) (hi : i < R.length) (hj : j < R.length), R[i] ≠ (0, 0) → R[j] ≠ (0, 0) → R[j].1 * R[i].2 ≤ R[i].1 * R[j].2 := by
      intro i j hij hi hj zi zj
      subst hR
      exact row_cross S fa lq hij hi hj zi zj
    rw [← hR] at fq
    refine ⟨_, (pss_cons (ps_set_Call (i := 4) sc__law_falls_right.nd rfl (Or.inr rfl) (pe_cal c_rows_of hr rfl pass0 (pa_Name (pv 0) (pa_Name (pv 1) pa_nil))))
      (pss_cons (ps_setLc (i := 5) (own := [("_law_k", 6)]) (by rfl) sc__law_falls_right.nd rfl rfl (sw_true rfl rfl rfl (by decide +kernel)) (pi_range1 (by rfl) T.range (pa_Call (pe_callB (callLenS (K := K)) (by rfl) T.len (by decide +kernel) (pa_Name (pv 4) pa_nil)) pa_nil)) (blkOk_by (own := [("_law_k", 6)]) (N := N__law_falls_right) (sc := defScope s__law_falls_right) (by first | decide +kernel | exact rfl)) (fun _ _ _ _ _ => (pg_name (i := 6) sc__law_falls_right.nd rfl (Or.inl rfl))) (fun _ _ _ _ _ => (pts_one (pt_cmpR (opNeS (K := K) hr.units) (pe_ix (ixS (K := K)) (pv 4) (pv 6) (fun _ _ => rfl)) (pe_tup (pa_Tuple (pe_tup (pa_Constant pe_int (pa_Constant pe_int pa_nil))) (pa_Tuple (pe_tup (pa_Constant pe_int (pa_Constant pe_int pa_nil))) pa_nil))) (nomark _)))) (fun _ _ _ _ _ => (pv 6)))
      (pss_cons (ps_for PassesOwn.never rfl (pi_range2 (by rfl) T.range (pa_Constant pe_int (pa_Call (pe_callB (callLenS (K := K)) (by rfl) T.len (by decide +kernel) (pa_Name (pv 5) pa_nil)) pa_nil))) (pg_name (i := 6) sc__law_falls_right.nd rfl (Or.inl rfl)) (pss_cons (ps_par (i := 7) (j := 8) (by rfl) sc__law_falls_right.nd rfl rfl (by decide) rfl rfl (pa_Subscript (pe_ix (ixS (K := K)) (pv 4) (pe_ix (ixS (K := K)) (pv 5) (pe_op op_sub (pv 6) pe_int) (fun _ _ => rfl)) (fun _ _ => rfl)) (pa_Subscript (pe_ix (ixS (K := K)) (pv 4) (pe_ix (ixS (K := K)) (pv 5) (pv 6) (fun _ _ => rfl)) (fun _ _ => rfl)) pa_nil)) (by rfl))
      (pss_one (ps_if (pt_val (pe_cal c__law_less hr rfl pass0 (pa_Call (pe_cal c__law_mul hr rfl pass0 (pa_Subscript (pe_ix (ixS (K := K)) (pv 7) pe_int (fun _ _ => rfl)) (pa_Call (pe_cal c__law_all hr rfl pass0 (pa_Name (pv 8) pa_nil)) pa_nil))) (pa_Call (pe_cal c__law_mul hr rfl pass0 (pa_Subscript (pe_ix (ixS (K := K)) (pv 8) pe_int (fun _ _ => rfl)) (pa_Call (pe_cal c__law_all hr rfl pass0 (pa_Name (pv 7) pa_nil)) pa_nil))) pa_nil)))) (pss_one (ps_ret pe_bl)) pss_nil))))
      (pss_cons (ps_asg (pe_cal c_cut_by hr rfl pass0 (pa_Name (pv 0) (pa_Name (pv 1) (pa_Name (pv 2) (pa_Name (pv 3) pa_nil))))) (pg_seqS (K := K) (n := 2) rfl (pgs_cons (pg_name (i := 9) sc__law_falls_right.nd rfl (Or.inr rfl)) (pgs_cons (pg_name (i := 10) sc__law_falls_right.nd rfl (Or.inr rfl)) pgs_nil))))
      (pss_cons (ps_setLc (i := 11) (own := [("_law_k", 6)]) (by rfl) sc__law_falls_right.nd rfl rfl (sw_true rfl rfl rfl (by decide +kernel)) (pi_seqS (K := K) (pv 5)) (blkOk_by (own := [("_law_k", 6)]) (N := N__law_falls_right) (sc := defScope s__law_falls_right) (by first | decide +kernel | exact rfl)) (fun _ _ _ _ _ => (pg_name (i := 6) sc__law_falls_right.nd rfl (Or.inl rfl))) (fun _ _ _ _ _ => (pts_one (PW.pt (pw_and (pt_cmpR op_lt (pe_cal c__law_strong hr rfl pass0 (pa_Subscript (pe_ix (ixS (K := K)) (pv 4) (pv 6) (fun _ _ => rfl)) (pa_Name (pv 2) pa_nil))) pe_int (nomark _)) (pw_and1 (pt_cmpR op_gt (pe_cal c__law_strong hr rfl pass0 (pa_Subscript (pe_ix (ixS (K := K)) (pv 4) (pv 6) (fun _ _ => rfl)) (pa_Name (pv 3) pa_nil))) (pe_op op_sub pe_int pe_int) (nomark _))))))) (fun _ _ _ _ _ => (pv 6)))
      (pss_one (ps_ret (pe_and (pe_cmpR op_isB (pe_cal c_falls hr rfl pass0 (pa_Name (pv 0) pa_nil)) pe_bl (nomark _)) (pe_one (pe_cmpR (opEqS (K := K) hr.units) (pv 11) (pe_lc (own := [("_law_k", 6)]) (by rfl) sc__law_falls_right.nd (pi_seqS (K := K) (pv 5)) (blkOk_by (own := [("_law_k", 6)]) (N := N__law_falls_right) (sc := defScope s__law_falls_right) (by first | decide +kernel | exact rfl)) (fun _ _ _ _ _ => (pg_name (i := 6) sc__law_falls_right.nd rfl (Or.inl rfl))) (fun _ _ _ _ _ => (pts_one (pt_chain op_le op_lt (pv 9) (pv 6) (pv 10)))) (fun _ _ _ _ _ => (pv 6))) (nomark _))))))))))), ?_⟩
    walk_at "rr"
    refine y_rows h1 S h3 lq.p1 lq.p2 (lq.f1.mono (by decide)) (lq.f2.mono (by decide)) fun v H1 c1 m1 => ?_
    rw [← hR] at m1
    walk_at "rr"
    rw [List.length_map]
    refine ⟨by omega, by omega, fun D hD => ?_⟩
    refine c_rangeF (K := K) (fun i es => es = natD ((List.range i).filter fun k => !decide (R.getD k (0, 0) = (0, 0)))) (by omega) hD rfl ?_ ?_
    · intro i H2 es hi c2 e N2 S2 hN hS
      have hi2 : i < R.length := by omega
      walk_at "rr"
      refine i_ix (K := K) (ds := R.map L2.dl) (d := L2.dl R[i]) (m1.ch c2) (atD_z (by simp [hi2])) fun u q1 => ?_
      walk_at "rr"
      rename_i t0 H3 n3 c3 m3
      have m3 : Im K H3 (.ref t0) (L2.dl (0, 0)) := m3
      refine i_neI (q1.ch (Ch.trans (by assumption) (Ch.trans (by assumption) c3))) m3 (sh_dl _) (sh_dl _) ?_
      rw [eqv_dl]
      refine ⟨_, rfl, ?_⟩
      have eg : R.getD i (0, 0) = R[i] := by simp [hi2]
      cases hb : decide (R[i] = (0, 0)) with
      | true =>
        refine hS _ (by walk_at "ch") ?_
        show es = natD ((List.range (i + 1)).filter _)
        rw [natD_range, eg, hb, e]
        simp
      | false =>
        walk_at "rr"
        refine hN _ _ _ (.int _) (by walk_at "ch") ?_
        show es ++ [PyData.int (0 + (i : Int))] = natD ((List.range (i + 1)).filter _)
        rw [natD_range, eg, hb, e, Int.zero_add]
        rfl
    · intro H2 us es eD al c2 hl e
      obtain ⟨full, hfull⟩ : ∃ full, full = (List.range ds.length).filter fun k => !decide (R.getD k (0, 0) = (0, 0)) := ⟨_, rfl⟩
      have e : es = natD full := by rw [e, hfull, lR]; rfl
      subst e
      have ml : ∀ {j n}, full[j]? = some n → ∃ h : n < R.length, R[n] ≠ (0, 0) := fun {j n} h => by
        have := List.mem_of_getElem? h
        rw [hfull] at this
        have h2 := (List.mem_filter.mp this)
        have h3 : n < R.length := by rw [lR]; exact List.mem_range.mp h2.1
        refine ⟨h3, fun z => ?_⟩
        have h4 := h2.2
        simp [h3, z] at h4
      have lf : full.length ≤ ds.length := by rw [hfull]; exact Nat.le_trans (List.length_filter_le _ _) (by simp)
      have inc : ∀ i j (hij : i < j) (hj : j < full.length), full[i] < full[j] := by
        have : full.Pairwise (· < ·) := by rw [hfull]; exact List.pairwise_lt_range.filter _
        intro i j hij hj
        exact List.pairwise_iff_getElem.mp this i j (by omega) hj hij
      have eu : us = full.map fun (k : Nat) => V.int (k : Int) := by
        have := ImAll.nums (K := K) (H := H2) (us := us) (ns := full.map fun (k : Nat) => (k : Int)) (by rw [List.map_map]; exact al)
        rw [this, List.map_map]; rfl
      have lu : us.length = full.length := by rw [eu, List.length_map]
      walk_at "rr"
      refine ⟨⟨by omega, by omega, by omega, by omega⟩, ?_⟩
      refine f_range (fun i σ H5 => ∃ va vb vc vd ve vf, σ = [some v1, some v3, some (.int hi), some (.int lo), some v, some (.ref D), va, vb, vc, vd, ve, vf] ∧ Ch none H2 H5) ⟨_, _, _, _, _, _, rfl, Ch.refl _⟩ ?_ ?_
      · rintro i σ H5 hi5 ⟨va, vb, vc, vd, ve, vf, rfl, c5⟩
        have i1 : i + 1 < full.length := by omega
        obtain ⟨n, hn⟩ : ∃ n, full[i]? = some n := ⟨_, List.getElem?_eq_getElem (by omega)⟩
        obtain ⟨m, hm⟩ : ∃ m, full[i + 1]? = some m := ⟨_, List.getElem?_eq_getElem i1⟩
        obtain ⟨na, za⟩ := ml hn
        obtain ⟨nb, zb⟩ := ml hm
        have lt : n < m := by
          have := inc i (i + 1) (by omega) i1
          obtain ⟨_, e1⟩ := List.getElem?_eq_some_iff.mp hn
          obtain ⟨_, e2⟩ := List.getElem?_eq_some_iff.mp hm
          rw [e1, e2] at this; exact this
        have ca := cross n m lt na nb za zb
        have fa1 := fq _ (List.getElem_mem na)
        have fb1 := fq _ (List.getElem_mem nb)
        have e5 := c5.ls eD
        have un : atI us (1 + (i : Int) - 1) = some (.int (n : Int)) := by
          rw [show (1 + (i : Int) - 1) = ((i : Nat) : Int) by omega]
          exact atI_nat (by rw [eu, List.getElem?_map, hn]; rfl)
        have um : atI us (1 + (i : Int)) = some (.int (m : Int)) := by
          rw [show (1 + (i : Int)) = ((i + 1 : Nat) : Int) by omega]
          exact atI_nat (by rw [eu, List.getElem?_map, hm]; rfl)
        walk_at "rr"
        refine r_ixL (SqL.of e5) un ?_
        walk_at "rr"
        refine i_ix (K := K) (ds := R.map L2.dl) (d := .tuple [L2.dq R[n].1, L2.dq R[n].2]) (m1.ch (c2.trans c5)) (atI_nat (by rw [List.getElem?_map, List.getElem?_eq_getElem na]; rfl)) fun u1 q1 => ?_
        walk_at "rr"
        refine r_ixL (SqL.of e5) um ?_
        walk_at "rr"
        refine i_ix (K := K) (ds := R.map L2.dl) (d := .tuple [L2.dq R[m].1, L2.dq R[m].2]) (m1.ch (c2.trans c5)) (atI_nat (by rw [List.getElem?_map, List.getElem?_eq_getElem nb]; rfl)) fun u2 q2 => ?_
        have q1 : Im K H5 u1 (L2.dl R[n]) := q1
        have q2 : Im K H5 u2 (L2.dl R[m]) := q2
        walk_at "rr"
        refine y_ms q2 (fb1.1.mono (by decide)) (fb1.2.1.mono (by decide)) fun w1 H6 c6 m6 => ?_
        have f1 := fb1.1.add fb1.2.1
        have f2 := fa1.1.add fa1.2.1
        walk_at "rr"
        refine y_mul (p := R[n].1) (q := R[m].1 + R[m].2) (by walk_at "im") m6 (fa1.1.mono (by decide)) (f1.mono (by decide)) fun w2 H7 c7 m7 => ?_
        walk_at "rr"
        refine y_ms (q1.ch (c6.trans c7)) (fa1.1.mono (by decide)) (fa1.2.1.mono (by decide)) fun w3 H8 c8 m8 => ?_
        walk_at "rr"
        refine y_mul (p := R[m].1) (q := R[n].1 + R[n].2) (by walk_at "im") m8 (fb1.1.mono (by decide)) (f2.mono (by decide)) fun w4 H9 c9 m9 => ?_
        walk_at "rr"
        refine y_less (p := R[n].1 * (R[m].1 + R[m].2)) (q := R[m].1 * (R[n].1 + R[n].2)) (m7.ch (c8.trans c9)) m9 ((fa1.1.mul f1).mono (by decide)) ((fb1.1.mul f2).mono (by decide)) ?_
        rw [decide_eq_false (by grind)]
        walk_at "rr"
        exact ⟨_, _, _, _, _, _, rfl, c5.trans (c6.trans (c7.trans (c8.trans c9)))⟩
      · rintro σ H5 ⟨va, vb, vc, vd, ve, vf, rfl, c5⟩
        have e5 := c5.ls eD
        have c15 := c2.trans c5
        walk_at "rr"
        refine y_cutby (h1.ch (c1.trans c15)) S (h3.ch (c1.trans c15)) lq l0 l1 l2 fun q H6 c6 m6 => ?_
        have hmem : (0 : Nat) = 0 := rfl
        obtain ⟨st, hst⟩ : ∃ st, st = (R.map strO).findIdx (noStr (Rat.divInt hi 100)) := ⟨_, rfl⟩
        obtain ⟨en, hen⟩ : ∃ en, en = st + ((R.map strO).drop st).findIdx (weakr (Rat.divInt lo 100)) := ⟨_, rfl⟩
        have m6 : Im K H6 q (.tuple [.int (st : Int), .int (en : Int)]) := by
          rw [hen, hst, hR]; exact m6
        walk_at "rr"
        refine r_iL ?_
        walk_at "rr"
        have eD6 : H6 D = some (.lst us) := c6.ls e5
        have al6 : ImAll K H6 us (natD full) := (al.ch c5).ch c6
        refine c_listF (K := K) (fun j es => es = natD ((full.take j).filter fun k => noStr (Rat.divInt hi 100) (strO (R.getD k (0, 0))) && !weakr (Rat.divInt lo 100) (strO (R.getD k (0, 0))))) (by unfold natD; rw [List.length_map]; omega) eD6 al6 rfl ?_ ?_
        · intro j H7 es x dx hx ix c7 e N2 S2 hN hS
          unfold natD at hx
          rw [List.getElem?_map] at hx
          obtain ⟨n, hn, rfl⟩ := Option.map_eq_some_iff.mp hx
          obtain ⟨nl, zn⟩ := ml hn
          obtain rfl := ix.int_eq
          have f := fq _ (List.getElem_mem nl)
          walk_at "rr"
          refine i_ix (K := K) (ds := R.map L2.dl) (d := .tuple [L2.dq R[n].1, L2.dq R[n].2]) (m1.ch (c15.trans (c6.trans c7))) (atI_nat (by rw [List.getElem?_map, List.getElem?_eq_getElem nl]; rfl)) fun u q1 => ?_
          walk_at "rr"
          have q1 : Im K H7 u (L2.dl R[n]) := q1
          refine y_strong q1 (f.1.mono (by decide)) (f.2.1.mono (by decide)) (by omega) l2 fun H8 c8 => ?_
          walk_at "rr"
          have eg : R.getD n (0, 0) = R[n] := by simp [nl]
          have key := natD_filter (q := fun k => noStr (Rat.divInt hi 100) (strO (R.getD k (0, 0))) && !weakr (Rat.divInt lo 100) (strO (R.getD k (0, 0)))) hn
          simp only [eg] at key
          have k1 := noStr_iff R[n] f.2.2.1 f.2.2.2 hi
          have k2 := weakr_iff R[n] f.2.2.1 f.2.2.2 lo
          rw [decide_eq_false zn, Bool.not_false, Bool.and_true] at k1 k2
          rw [← k1, ← k2] at key
          cases hb : decide (sg (100 * R[n].1) ((hi : Rat) * (R[n].1 + R[n].2)) < 1) with
          | false =>
            rw [hb, Bool.false_and] at key
            walk_at "rr"
            refine hS _ (by walk_at "ch") ?_
            show es = _
            rw [e, key]
            simp
          | true =>
            rw [hb, Bool.true_and] at key
            walk_at "rr"
            refine i_ix (K := K) (ds := R.map L2.dl) (d := .tuple [L2.dq R[n].1, L2.dq R[n].2]) (m1.ch (c15.trans (c6.trans (c7.trans c8)))) (atI_nat (by rw [List.getElem?_map, List.getElem?_eq_getElem nl]; rfl)) fun u2 q2 => ?_
            walk_at "rr"
            have q2 : Im K H8 u2 (L2.dl R[n]) := q2
            refine y_strong q2 (f.1.mono (by decide)) (f.2.1.mono (by decide)) l0 (by omega) fun H9 c9 => ?_
            walk_at "rr"
            have ed : decide ((0 : Int) - 1 < sg (100 * R[n].1) ((lo : Rat) * (R[n].1 + R[n].2))) = !decide (sg (100 * R[n].1) ((lo : Rat) * (R[n].1 + R[n].2)) < 0) := by
              by_cases z : sg (100 * R[n].1) ((lo : Rat) * (R[n].1 + R[n].2)) < 0
              · rw [decide_eq_true z, decide_eq_false (by omega)]; rfl
              · rw [decide_eq_false z, decide_eq_true (by omega)]; rfl
            rw [← ed] at key
            cases hb2 : decide ((0 : Int) - 1 < sg (100 * R[n].1) ((lo : Rat) * (R[n].1 + R[n].2))) with
            | true =>
              rw [hb2] at key
              walk_at "rr"
              refine hN _ _ _ (.int _) (by walk_at "ch") ?_
              show es ++ _ = _
              rw [e, key]
              rfl
            | false =>
              rw [hb2] at key
              walk_at "rr"
              refine hS _ (by walk_at "ch") ?_
              show es = _
              rw [e, key]
              simp
        · intro D2 H7 us2 es2 nD2 eD2 al2 c7 hl2 e
          rw [List.take_of_length_le (by unfold natD; rw [List.length_map]; exact Nat.le_refl _)] at e
          subst e
          walk_at "rr"
          refine y_falls (h1.ch (c1.trans (c15.trans (c6.trans c7)))) S fun H8 c8 => ?_
          rw [fa]
          walk_at "rr"
          refine ⟨true, true, rfl, rfl, true, rfl, ?_⟩
          walk_at "rr"
          refine r_iL ?_
          walk_at "rr"
          have c68 := c7.trans c8
          have eD8 : H8 D = some (.lst us) := c68.ls eD6
          have al8 : ImAll K H8 us (natD full) := al6.ch c68
          refine c_listF (K := K) (fun j es => es = natD ((full.take j).filter fun k => decide (st ≤ k) && decide (k < en))) (by unfold natD; rw [List.length_map]; omega) eD8 al8 rfl ?_ ?_
          · intro j H9 es x dx hx ix c9 e N2 S2 hN hS
            unfold natD at hx
            rw [List.getElem?_map] at hx
            obtain ⟨n, hn, rfl⟩ := Option.map_eq_some_iff.mp hx
            obtain rfl := ix.int_eq
            have key := natD_filter (q := fun k => decide (st ≤ k) && decide (k < en)) hn
            cases ha : decide ((st : Int) ≤ (n : Int)) with
            | false =>
              have hp : ¬ (st : Int) ≤ (n : Int) := of_decide_eq_false ha
              have hb : decide (st ≤ n) = false := decide_eq_false fun z => (of_decide_eq_false ha) (by omega)
              have key : natD ((full.take (j + 1)).filter fun k => decide (st ≤ k) && decide (k < en)) = natD ((full.take j).filter fun k => decide (st ≤ k) && decide (k < en)) ++ (if (decide (st ≤ n) && decide (n < en)) = true then [PyData.int (n : Int)] else []) := key
              rw [hb, Bool.false_and] at key
              walk_at "rr"
              refine hS _ (by walk_at "ch") ?_
              show es = _
              rw [e, key]
              simp
            | true =>
              have hp : (st : Int) ≤ (n : Int) := of_decide_eq_true ha
              have hb : decide (st ≤ n) = true := decide_eq_true (by have := of_decide_eq_true ha; omega)
              have key : natD ((full.take (j + 1)).filter fun k => decide (st ≤ k) && decide (k < en)) = natD ((full.take j).filter fun k => decide (st ≤ k) && decide (k < en)) ++ (if (decide (st ≤ n) && decide (n < en)) = true then [PyData.int (n : Int)] else []) := key
              rw [hb, Bool.true_and] at key
              cases hc : decide ((n : Int) < (en : Int)) with
              | true =>
                have hp2 : (n : Int) < (en : Int) := of_decide_eq_true hc
                have hd : decide (n < en) = true := decide_eq_true (by have := of_decide_eq_true hc; omega)
                rw [hd] at key
                walk_at "rr"
                refine hN _ _ _ (.int _) (by walk_at "ch") ?_
                show es ++ _ = _
                rw [e, key]
                rfl
              | false =>
                have hp2 : ¬ (n : Int) < (en : Int) := of_decide_eq_false hc
                have hd : decide (n < en) = false := decide_eq_false fun z => (of_decide_eq_false hc) (by omega)
                rw [hd] at key
                walk_at "rr"
                refine hS _ (by walk_at "ch") ?_
                show es = _
                rw [e, key]
                simp
          · intro D3 H9 us3 es3 nD3 eD3 al3 c9 hl3 e
            rw [List.take_of_length_le (by unfold natD; rw [List.length_map]; exact Nat.le_refl _)] at e
            subst e
            have same : (full.filter fun k => noStr (Rat.divInt hi 100) (strO (R.getD k (0, 0))) && !weakr (Rat.divInt lo 100) (strO (R.getD k (0, 0)))) = full.filter fun k => decide (st ≤ k) && decide (k < en) := by
              refine List.filter_congr fun k hk => ?_
              obtain ⟨j, hj, rfl⟩ := List.getElem_of_mem hk
              obtain ⟨nl, zn⟩ := ml (List.getElem?_eq_getElem hj)
              have f := fq _ (List.getElem_mem nl)
              rw [show R.getD full[j] (0, 0) = R[full[j]] by simp [nl]]
              obtain ⟨x, hx⟩ : ∃ x, strO R[full[j]] = some x := by
                unfold strO
                rw [if_neg fun z => zn ?_]
                · exact ⟨_, rfl⟩
                · have a1 : R[full[j]].1 = 0 := by grind
                  have a2 : R[full[j]].2 = 0 := by grind
                  exact Prod.ext a1 a2
              rw [hx, hen, hst]
              refine (cut_between (ss := R.map strO) ?_ ?_).symm
              · intro i1 i2 x1 x2 hlt e1 e2
                rw [List.getElem?_map] at e1 e2
                obtain ⟨r1, g1, g2⟩ := Option.map_eq_some_iff.mp e1
                obtain ⟨r2, g3, g4⟩ := Option.map_eq_some_iff.mp e2
                obtain ⟨n1, rfl⟩ := List.getElem?_eq_some_iff.mp g1
                obtain ⟨n2, rfl⟩ := List.getElem?_eq_some_iff.mp g3
                obtain ⟨y1, rfl⟩ := strO_some g2
                obtain ⟨y2, rfl⟩ := strO_some g4
                have nz : ∀ (n : Nat) (h : n < R.length), R[n].1 + R[n].2 ≠ 0 → R[n] ≠ (0, 0) := fun n h z1 z2 => by
                  rw [z2] at z1
                  exact z1 (by decide +kernel)
                have q1 := fq _ (List.getElem_mem n1)
                have q2 := fq _ (List.getElem_mem n2)
                exact str_mono q1.2.2.1 q1.2.2.2 q2.2.2.1 q2.2.2.2 y1 y2 (cross i1 i2 hlt n1 n2 (nz i1 n1 y1) (nz i2 n2 y2))
              · rw [List.getElem?_map, List.getElem?_eq_getElem nl, Option.map_some, hx]
            rw [← same] at al3
            refine i_eqL ((c8.trans c9).ls eD2) ((al2.ch c8).ch c9) eD3 al3 (sh_nats _) (sh_nats _) ?_
            rw [eqv_nats]
            exact k _ (by walk_at "ch")
end


section
variable {P : Program} {w : World} {K : PySem.W.Frag} {mg : Str → Option Value} {base : Heap} {f : Addr} {fd : FuncData}
abbrev s__law_right : Stmt := top 67
abbrev N__law_right : List Str := ["_law_purse_here", "_law_still_here", "_law_cut_here", "_law_one", "_law_other", "_law_high", "_law_low_here"]
abbrev P__law_right : List Str := ["_law_purse_here"]
theorem sc__law_right : FnScope N__law_right P__law_right (defScope s__law_right) := ⟨rfl, rfl, rfl, by decide +kernel, rfl, by decide +kernel, by decide +kernel⟩
theorem ok__law_right (F : Fun K "_law_right" "_law_right" s__law_right f fd) (T : Nob mg) (c__law_still : Cal P w K mg base CX0 "_law_still" 3 P__law_still (spLSt K)) (c__law_cut : Cal P w K mg base CX0 "_law_cut" 2 P__law_cut (spLCut K)) (c__law_charge : Cal P w K mg base CX0 "_law_charge" 36 P__law_charge (spLLq K 500)) (c__law_linear : Cal P w K mg base CX0 "_law_linear" 46 P__law_linear (spLin K)) (c__law_low : Cal P w K mg base CX0 "_law_low" 33 P__law_low (spLow K)) (c__law_take : Cal P w K mg base CX0 "_law_take" 1 P__law_take (spTake)) (c__law_falling : Cal P w K mg base CX0 "_law_falling" 2 P__law_falling (spFallg K)) (c__law_two : Cal P w K mg base CX0 "_law_two" 36 P__law_two (spTwo K)) (c__law_falls_right : Cal P w K mg base CX0 "_law_falls_right" 46 P__law_falls_right (spFR K)) : FnOk P w K mg base CX0 47 f fd P__law_right (spP1 true) := by
  refine F.ok sc__law_right (fun vs H Q E h => ?_) (fun cdv A outer s H vs Q E hr h => ?_)
  · obtain ⟨p, rfl, _⟩ := h; rfl
  · obtain ⟨p, rfl, hP, k⟩ := h
    refine ⟨_, (pss_cons (ps_set_Call (i := 1) sc__law_right.nd rfl (Or.inl rfl) (pe_cal c__law_still hr rfl pass0 (pa_Name (pv 0) pa_nil)))
      (pss_cons (ps_par3 (i := 2) (j := 3) (l := 4) (by rfl) sc__law_right.nd rfl rfl rfl (by decide) (by decide) (by decide) rfl rfl rfl (pa_Call (pe_cal c__law_cut hr rfl pass0 (pa_Name (pv 0) (pa_Name (pv 1) pa_nil))) (pa_Call (pe_cal c__law_charge hr rfl pass0 (pa_Name (pv 0) pa_nil)) (pa_Call (pe_cal c__law_charge hr rfl pass0 (pa_Name (pv 0) pa_nil)) pa_nil))) (by rfl))
      (pss_cons (ps_if (pt_not (pt_val (pe_cal c__law_linear hr rfl pass0 (pa_Name (pv 1) (pa_Name (pv 2) (pa_Name (pv 3) (pa_Name (pv 4) (pa_Call (pe_cal c__law_low hr rfl pass0 (pa_Call (pe_cal c__law_take hr rfl pass0 (pa_Name (pv 0) (pa_Constant pe_int pa_nil))) (pa_BinOp (pe_op (opAddS (K := K)) pe_int (pe_cal c__law_take hr rfl pass0 (pa_Name (pv 0) (pa_Constant pe_int pa_nil)))) pa_nil))) pa_nil)))))))) (pss_one (ps_ret pe_bl)) pss_nil)
      (pss_cons (ps_set_Call (i := 1) sc__law_right.nd rfl (Or.inl rfl) (pe_cal c__law_falling hr rfl pass0 (pa_Name (pv 0) (pa_Name (pv 1) pa_nil))))
      (pss_cons (ps_asg (pe_cal c__law_two hr rfl pass0 (pa_Name (pv 0) (pa_Name (pv 1) (pa_Name (pv 3) pa_nil)))) (pg_seqS (K := K) (n := 2) rfl (pgs_cons (pg_name (i := 5) sc__law_right.nd rfl (Or.inl rfl)) (pgs_cons (pg_name (i := 6) sc__law_right.nd rfl (Or.inl rfl)) pgs_nil))))
      (pss_one (ps_ret (pe_cal c__law_falls_right hr rfl pass0 (pa_Name (pv 1) (pa_Name (pv 3) (pa_Name (pv 5) (pa_Name (pv 6) pa_nil)))))))))))), ?_⟩
    walk_at "rr"
    refine y_lst hP fun vs H1 d ds loss S hs c1 hP1 => ?_
    walk_at "rr"
    refine y_lcut hP1 hs S fun u H2 hh t h0 ht tn iu c2 hP2 => ?_
    walk_at "rr"
    refine y_llq hP2 fun v3 H3 l lq i3 c3 hP3 => ?_
    walk_at "rr"
    refine y_llq hP3 fun v4 H4 m lm i4 c4 hP4 => ?_
    walk_at "rr"
    rename_i a H5 a0 a1 c5 hP5 b H6 b0 b1 c6 hP6 w H7 c7 m7
    have lw := low_fq (t := a) (b := 1 + b) a0 (by omega) (by omega) (by omega)
    refine y_lin (d := d) (ds := ds) (loss := loss) (h := hh) (t := t) (l := l) (m := m) ⟨by walk_at "im", S, by walk_at "im", h0, ht, tn, by walk_at "im", lq, by walk_at "im", lm, m7, lw.1, lw.2⟩ fun H8 c8 => ?_
    walk_at "rr"
    refine y_fallg (by walk_at "pu") (hs.ch (c2.trans (c3.trans (c4.trans (c5.trans (c6.trans ((c7.trans c8).weak))))))) S fun v' H9 d' ds' S' fa i9 c9 hP9 => ?_
    walk_at "rr"
    refine y_two hP9 i9 S' (by walk_at "im") lq fun u1 Ha hi lo ca hPa ia q0 q1 q2 => ?_
    walk_at "rr"
    refine y_fr (d := d') (ds := ds') (loss := loss) (l := l) (hi := hi) (lo := lo) ⟨by walk_at "im", S', fa, by walk_at "im", lq, q0, q1, q2⟩ fun Hb cb => ?_
    exact k Hb (by walk_at "ch") (by walk_at "pu")
end


section
variable {P : Program} {w : World} {K : PySem.W.Frag} {mg : Str → Option Value} {base : Heap} {f : Addr} {fd : FuncData}
abbrev s_law : Stmt := top 68
abbrev N_law : List Str := ["_law_script", "_law_k"]
abbrev P_law : List Str := ["_law_script"]
theorem sc_law : FnScope N_law P_law (defScope s_law) := ⟨rfl, rfl, rfl, by decide +kernel, rfl, by decide +kernel, by decide +kernel⟩
theorem cnt_bd (x lo hi : Int) (h : 0 ≤ x) (hl : 0 ≤ lo) (hi0 : lo ≤ hi) (hi1 : hi ≤ 100) : 0 ≤ (if (if hi < x then hi else x) > lo then (if hi < x then hi else x) else lo) ∧ (if (if hi < x then hi else x) > lo then (if hi < x then hi else x) else lo) ≤ 100 := by
  repeat' split
  all_goals omega
theorem ok_law (F : Fun K "law" "law" s_law f fd) (T : Nob mg) (c__law_right : Cal P w K mg base CX0 "_law_right" 47 P__law_right (spP1 true)) (c__law_purse : Cal P w K mg base CX0 "_law_purse" 1 P__law_purse (spPurse)) (c__law_cell : Cal P w K mg base CX0 "_law_cell" 1 P__law_cell (spCell K)) : FnOk P w K mg base CX0 48 f fd P_law (spLaw K) := by
  refine F.ok sc_law (fun vs H Q E h => ?_) (fun cdv A outer s H vs Q E hr h => ?_)
  · obtain ⟨a, ns, rfl, _⟩ := h; rfl
  · obtain ⟨a, ns, rfl, hs, hn, k⟩ := h
    refine ⟨_, (pss_one (ps_ret (pe_callB (cr_allS (K := K) rfl) (by rfl) T.all (by decide +kernel) (pa_ListComp (pe_lc (own := [("_law_k", 1)]) (by rfl) sc_law.nd (pi_range1 (by rfl) T.range (pa_Call (pe_callB (call_max2 rfl) (by rfl) T.max (by decide +kernel) (pa_Constant pe_int (pa_Call (pe_callB (call_min2 rfl) (by rfl) T.min (by decide +kernel) (pa_Call (pe_callB (callLenS (K := K)) (by rfl) T.len (by decide +kernel) (pa_Name (pv 0) pa_nil)) (pa_Constant pe_int pa_nil))) pa_nil))) pa_nil)) (blkOk_by (own := [("_law_k", 1)]) (N := N_law) (sc := defScope s_law) (by first | decide +kernel | exact rfl)) (fun _ _ _ _ _ => (pg_name (i := 1) sc_law.nd rfl (Or.inl rfl))) (fun _ _ _ _ _ => pts_nil) (fun _ _ _ _ _ => (pe_cal c__law_right hr rfl pass0 (pa_Call (pe_cal c__law_purse hr rfl pass0 (pa_Call (pe_cal c__law_cell hr rfl pass0 (pa_Name (pv 0) (pa_Name (pv 1) pa_nil))) pa_nil)) pa_nil)))) pa_nil)))), ?_⟩
    walk_at "rr"
    obtain ⟨c1, c2⟩ := cnt_bd ((List.map V.int ns).length : Int) 2 10 (by omega) (by decide) (by decide) (by decide)
    generalize (if (if 10 < ((List.map V.int ns).length : Int) then 10 else ((List.map V.int ns).length : Int)) > 2 then (if 10 < ((List.map V.int ns).length : Int) then 10 else ((List.map V.int ns).length : Int)) else 2) = N at c1 c2 ⊢
    refine ⟨by omega, by omega, fun D hD => ?_⟩
    refine c_range0 (K := K) (fun i ds => ds = List.replicate i (.bool true)) (by omega) hD rfl ?_ ?_
    · intro i H2 ds hi c2 hl e N2 S2 hN
      walk_at "rr"
      refine ⟨a, ns, _, rfl, hs.ch c2, by omega, fun v H3 s3 => ?_⟩
      walk_at "rr"
      refine ⟨v, rfl, fun p H4 np s4 hP => ?_⟩
      walk_at "rr"
      refine y_p1 hP fun H5 c5 hP5 => ?_
      refine hN _ _ _ (.bl _) (Ch.own c5 ?_ (by walk_at "ch")) (by rw [e]; exact List.replicate_succ'.symm)
      exact s3.fr np
    · intro H2 us ds hD2 al c2 hl e
      walk_at "rr"
      rw [e, show List.replicate N.toNat (PyData.bool true) = (List.replicate N.toNat true).map PyData.bool by rw [List.map_replicate]] at al
      refine i_all hD2 al ?_
      rw [show (List.replicate N.toNat true).all id = true by simp]
      exact k H2
end

end LW
set_option Elab.async false
set_option linter.all false
set_option maxRecDepth 100000
set_option maxHeartbeats 8000000
namespace LW
open PySem PySem.Spec PyProof.Rows L2
theorem all_mk {l : PySem.W.OpenLaw} {w : World} {K : PySem.W.Frag} {h : Heap} {mg : Str → Option Value} {fa : Addr} {f_is_whole f_is_whole_within f_is_pair f_common_divisor f_is_fraction f_is_part f_is_liquor f_check_liquor f_is_row f_tenths f_are_rows f_is_still f_check_still f_is_cut f_check_cut f_falls f_fraction f_plus f_times f_over f_below f_measures f_strength f_shares_of f_share_of f_parts_of f_run f_rows_of f_check_strengths f_first_no_stronger f_first_weaker f_cut_by f__law_take f__law_low f__law_cell f__law_purse f__law_add f__law_mul f__law_of f__law_less f__law_all f__law_both f__law_heap f__law_tenths f__law_still f__law_cut f__law_liquor f__law_charge f__law_just f__law_rows f__law_strong f__law_two f__law_falling f__law_linear f__law_falls_right f__law_right f_law : Addr} {od_is_whole an_is_whole od_is_whole_within an_is_whole_within od_is_pair an_is_pair od_common_divisor an_common_divisor od_is_fraction an_is_fraction od_is_part an_is_part od_is_liquor an_is_liquor od_check_liquor an_check_liquor od_is_row an_is_row od_tenths an_tenths od_are_rows an_are_rows od_is_still an_is_still od_check_still an_check_still od_is_cut an_is_cut od_check_cut an_check_cut od_falls an_falls od_fraction an_fraction od_plus an_plus od_times an_times od_over an_over od_below an_below od_measures an_measures od_strength an_strength od_shares_of an_shares_of od_share_of an_share_of od_parts_of an_parts_of od_run an_run od_rows_of an_rows_of od_check_strengths an_check_strengths od_first_no_stronger an_first_no_stronger od_first_weaker an_first_weaker od_cut_by an_cut_by od__law_take an__law_take od__law_low an__law_low od__law_cell an__law_cell od__law_purse an__law_purse od__law_add an__law_add od__law_mul an__law_mul od__law_of an__law_of od__law_less an__law_less od__law_all an__law_all od__law_both an__law_both od__law_heap an__law_heap od__law_tenths an__law_tenths od__law_still an__law_still od__law_cut an__law_cut od__law_liquor an__law_liquor od__law_charge an__law_charge od__law_just an__law_just od__law_rows an__law_rows od__law_strong an__law_strong od__law_two an__law_two od__law_falling an__law_falling od__law_linear an__law_linear od__law_falls_right an__law_falls_right od__law_right an__law_right od_law an_law : Option Addr} {sl_is_whole sl_is_whole_within sl_is_pair sl_common_divisor sl_is_fraction sl_is_part sl_is_liquor sl_check_liquor sl_is_row sl_tenths sl_are_rows sl_is_still sl_check_still sl_is_cut sl_check_cut sl_falls sl_fraction sl_plus sl_times sl_over sl_below sl_measures sl_strength sl_shares_of sl_share_of sl_parts_of sl_run sl_rows_of sl_check_strengths sl_first_no_stronger sl_first_weaker sl_cut_by sl__law_take sl__law_low sl__law_cell sl__law_purse sl__law_add sl__law_mul sl__law_of sl__law_less sl__law_all sl__law_both sl__law_heap sl__law_tenths sl__law_still sl__law_cut sl__law_liquor sl__law_charge sl__law_just sl__law_rows sl__law_strong sl__law_two sl__law_falling sl__law_linear sl__law_falls_right sl__law_right sl_law : Array (Option Value)} {oc_is_whole kV_is_whole dc_is_whole pm_is_whole cd_is_whole ct_is_whole oc_is_whole_within kV_is_whole_within dc_is_whole_within pm_is_whole_within cd_is_whole_within ct_is_whole_within oc_is_pair kV_is_pair dc_is_pair pm_is_pair cd_is_pair ct_is_pair oc_common_divisor kV_common_divisor dc_common_divisor pm_common_divisor cd_common_divisor ct_common_divisor oc_is_fraction kV_is_fraction dc_is_fraction pm_is_fraction cd_is_fraction ct_is_fraction oc_is_part kV_is_part dc_is_part pm_is_part cd_is_part ct_is_part oc_is_liquor kV_is_liquor dc_is_liquor pm_is_liquor cd_is_liquor ct_is_liquor oc_check_liquor kV_check_liquor dc_check_liquor pm_check_liquor cd_check_liquor ct_check_liquor oc_is_row kV_is_row dc_is_row pm_is_row cd_is_row ct_is_row oc_tenths kV_tenths dc_tenths pm_tenths cd_tenths ct_tenths oc_are_rows kV_are_rows dc_are_rows pm_are_rows cd_are_rows ct_are_rows oc_is_still kV_is_still dc_is_still pm_is_still cd_is_still ct_is_still oc_check_still kV_check_still dc_check_still pm_check_still cd_check_still ct_check_still oc_is_cut kV_is_cut dc_is_cut pm_is_cut cd_is_cut ct_is_cut oc_check_cut kV_check_cut dc_check_cut pm_check_cut cd_check_cut ct_check_cut oc_falls kV_falls dc_falls pm_falls cd_falls ct_falls oc_fraction kV_fraction dc_fraction pm_fraction cd_fraction ct_fraction oc_plus kV_plus dc_plus pm_plus cd_plus ct_plus oc_times kV_times dc_times pm_times cd_times ct_times oc_over kV_over dc_over pm_over cd_over ct_over oc_below kV_below dc_below pm_below cd_below ct_below oc_measures kV_measures dc_measures pm_measures cd_measures ct_measures oc_strength kV_strength dc_strength pm_strength cd_strength ct_strength oc_shares_of kV_shares_of dc_shares_of pm_shares_of cd_shares_of ct_shares_of oc_share_of kV_share_of dc_share_of pm_share_of cd_share_of ct_share_of oc_parts_of kV_parts_of dc_parts_of pm_parts_of cd_parts_of ct_parts_of oc_run kV_run dc_run pm_run cd_run ct_run oc_rows_of kV_rows_of dc_rows_of pm_rows_of cd_rows_of ct_rows_of oc_check_strengths kV_check_strengths dc_check_strengths pm_check_strengths cd_check_strengths ct_check_strengths oc_first_no_stronger kV_first_no_stronger dc_first_no_stronger pm_first_no_stronger cd_first_no_stronger ct_first_no_stronger oc_first_weaker kV_first_weaker dc_first_weaker pm_first_weaker cd_first_weaker ct_first_weaker oc_cut_by kV_cut_by dc_cut_by pm_cut_by cd_cut_by ct_cut_by oc__law_take kV__law_take dc__law_take pm__law_take cd__law_take ct__law_take oc__law_low kV__law_low dc__law_low pm__law_low cd__law_low ct__law_low oc__law_cell kV__law_cell dc__law_cell pm__law_cell cd__law_cell ct__law_cell oc__law_purse kV__law_purse dc__law_purse pm__law_purse cd__law_purse ct__law_purse oc__law_add kV__law_add dc__law_add pm__law_add cd__law_add ct__law_add oc__law_mul kV__law_mul dc__law_mul pm__law_mul cd__law_mul ct__law_mul oc__law_of kV__law_of dc__law_of pm__law_of cd__law_of ct__law_of oc__law_less kV__law_less dc__law_less pm__law_less cd__law_less ct__law_less oc__law_all kV__law_all dc__law_all pm__law_all cd__law_all ct__law_all oc__law_both kV__law_both dc__law_both pm__law_both cd__law_both ct__law_both oc__law_heap kV__law_heap dc__law_heap pm__law_heap cd__law_heap ct__law_heap oc__law_tenths kV__law_tenths dc__law_tenths pm__law_tenths cd__law_tenths ct__law_tenths oc__law_still kV__law_still dc__law_still pm__law_still cd__law_still ct__law_still oc__law_cut kV__law_cut dc__law_cut pm__law_cut cd__law_cut ct__law_cut oc__law_liquor kV__law_liquor dc__law_liquor pm__law_liquor cd__law_liquor ct__law_liquor oc__law_charge kV__law_charge dc__law_charge pm__law_charge cd__law_charge ct__law_charge oc__law_just kV__law_just dc__law_just pm__law_just cd__law_just ct__law_just oc__law_rows kV__law_rows dc__law_rows pm__law_rows cd__law_rows ct__law_rows oc__law_strong kV__law_strong dc__law_strong pm__law_strong cd__law_strong ct__law_strong oc__law_two kV__law_two dc__law_two pm__law_two cd__law_two ct__law_two oc__law_falling kV__law_falling dc__law_falling pm__law_falling cd__law_falling ct__law_falling oc__law_linear kV__law_linear dc__law_linear pm__law_linear cd__law_linear ct__law_linear oc__law_falls_right kV__law_falls_right dc__law_falls_right pm__law_falls_right cd__law_falls_right ct__law_falls_right oc__law_right kV__law_right dc__law_right pm__law_right cd__law_right ct__law_right oc_law kV_law dc_law pm_law cd_law ct_law : Value} {S C0 C1 C2 C3 C9 : Addr} {cdS cdC0 cdC1 cdC2 cdC3 cdC9 : ClassData} {cc_tenths tt_tenths cc_are_rows tt_are_rows cc_parts_of tt_parts_of cc_rows_of tt_rows_of : Addr} (X : K.In h) (G : h.Ns mainGlobals mg) (hfa : mg "law" = some (.ref fa))
    (a_is_whole : PySem.W.nsIn K mainGlobals "is_whole" = some (some (.ref f_is_whole)))
    (l_is_whole : K.lookup f_is_whole = some ⟨oc_is_whole, od_is_whole, .func (PySem.W.fnOf "is_whole" "is_whole" (defArgs s_is_whole) (defBody s_is_whole) (defScope s_is_whole) .none kV_is_whole dc_is_whole pm_is_whole an_is_whole cd_is_whole ct_is_whole), sl_is_whole⟩)
    (c_is_whole : PySem.W.codeIn K cd_is_whole "is_whole" = true)
    (k_is_whole : PySem.W.keepIn K (.ref f_is_whole) = true)
    (a_is_whole_within : PySem.W.nsIn K mainGlobals "is_whole_within" = some (some (.ref f_is_whole_within)))
    (l_is_whole_within : K.lookup f_is_whole_within = some ⟨oc_is_whole_within, od_is_whole_within, .func (PySem.W.fnOf "is_whole_within" "is_whole_within" (defArgs s_is_whole_within) (defBody s_is_whole_within) (defScope s_is_whole_within) .none kV_is_whole_within dc_is_whole_within pm_is_whole_within an_is_whole_within cd_is_whole_within ct_is_whole_within), sl_is_whole_within⟩)
    (c_is_whole_within : PySem.W.codeIn K cd_is_whole_within "is_whole_within" = true)
    (k_is_whole_within : PySem.W.keepIn K (.ref f_is_whole_within) = true)
    (a_is_pair : PySem.W.nsIn K mainGlobals "is_pair" = some (some (.ref f_is_pair)))
    (l_is_pair : K.lookup f_is_pair = some ⟨oc_is_pair, od_is_pair, .func (PySem.W.fnOf "is_pair" "is_pair" (defArgs s_is_pair) (defBody s_is_pair) (defScope s_is_pair) .none kV_is_pair dc_is_pair pm_is_pair an_is_pair cd_is_pair ct_is_pair), sl_is_pair⟩)
    (c_is_pair : PySem.W.codeIn K cd_is_pair "is_pair" = true)
    (k_is_pair : PySem.W.keepIn K (.ref f_is_pair) = true)
    (a_common_divisor : PySem.W.nsIn K mainGlobals "common_divisor" = some (some (.ref f_common_divisor)))
    (l_common_divisor : K.lookup f_common_divisor = some ⟨oc_common_divisor, od_common_divisor, .func (PySem.W.fnOf "common_divisor" "common_divisor" (defArgs s_common_divisor) (defBody s_common_divisor) (defScope s_common_divisor) .none kV_common_divisor dc_common_divisor pm_common_divisor an_common_divisor cd_common_divisor ct_common_divisor), sl_common_divisor⟩)
    (c_common_divisor : PySem.W.codeIn K cd_common_divisor "common_divisor" = true)
    (k_common_divisor : PySem.W.keepIn K (.ref f_common_divisor) = true)
    (a_is_fraction : PySem.W.nsIn K mainGlobals "is_fraction" = some (some (.ref f_is_fraction)))
    (l_is_fraction : K.lookup f_is_fraction = some ⟨oc_is_fraction, od_is_fraction, .func (PySem.W.fnOf "is_fraction" "is_fraction" (defArgs s_is_fraction) (defBody s_is_fraction) (defScope s_is_fraction) .none kV_is_fraction dc_is_fraction pm_is_fraction an_is_fraction cd_is_fraction ct_is_fraction), sl_is_fraction⟩)
    (c_is_fraction : PySem.W.codeIn K cd_is_fraction "is_fraction" = true)
    (k_is_fraction : PySem.W.keepIn K (.ref f_is_fraction) = true)
    (a_is_part : PySem.W.nsIn K mainGlobals "is_part" = some (some (.ref f_is_part)))
    (l_is_part : K.lookup f_is_part = some ⟨oc_is_part, od_is_part, .func (PySem.W.fnOf "is_part" "is_part" (defArgs s_is_part) (defBody s_is_part) (defScope s_is_part) .none kV_is_part dc_is_part pm_is_part an_is_part cd_is_part ct_is_part), sl_is_part⟩)
    (c_is_part : PySem.W.codeIn K cd_is_part "is_part" = true)
    (k_is_part : PySem.W.keepIn K (.ref f_is_part) = true)
    (a_is_liquor : PySem.W.nsIn K mainGlobals "is_liquor" = some (some (.ref f_is_liquor)))
    (l_is_liquor : K.lookup f_is_liquor = some ⟨oc_is_liquor, od_is_liquor, .func (PySem.W.fnOf "is_liquor" "is_liquor" (defArgs s_is_liquor) (defBody s_is_liquor) (defScope s_is_liquor) .none kV_is_liquor dc_is_liquor pm_is_liquor an_is_liquor cd_is_liquor ct_is_liquor), sl_is_liquor⟩)
    (c_is_liquor : PySem.W.codeIn K cd_is_liquor "is_liquor" = true)
    (k_is_liquor : PySem.W.keepIn K (.ref f_is_liquor) = true)
    (a_check_liquor : PySem.W.nsIn K mainGlobals "check_liquor" = some (some (.ref f_check_liquor)))
    (l_check_liquor : K.lookup f_check_liquor = some ⟨oc_check_liquor, od_check_liquor, .func (PySem.W.fnOf "check_liquor" "check_liquor" (defArgs s_check_liquor) (defBody s_check_liquor) (defScope s_check_liquor) .none kV_check_liquor dc_check_liquor pm_check_liquor an_check_liquor cd_check_liquor ct_check_liquor), sl_check_liquor⟩)
    (c_check_liquor : PySem.W.codeIn K cd_check_liquor "check_liquor" = true)
    (k_check_liquor : PySem.W.keepIn K (.ref f_check_liquor) = true)
    (a_is_row : PySem.W.nsIn K mainGlobals "is_row" = some (some (.ref f_is_row)))
    (l_is_row : K.lookup f_is_row = some ⟨oc_is_row, od_is_row, .func (PySem.W.fnOf "is_row" "is_row" (defArgs s_is_row) (defBody s_is_row) (defScope s_is_row) .none kV_is_row dc_is_row pm_is_row an_is_row cd_is_row ct_is_row), sl_is_row⟩)
    (c_is_row : PySem.W.codeIn K cd_is_row "is_row" = true)
    (k_is_row : PySem.W.keepIn K (.ref f_is_row) = true)
    (a_tenths : PySem.W.nsIn K mainGlobals "tenths" = some (some (.ref f_tenths)))
    (l_tenths : K.lookup f_tenths = some ⟨oc_tenths, od_tenths, .func (PySem.W.fnOf "tenths" "tenths" (defArgs s_tenths) (defBody s_tenths) (defScope s_tenths) .none kV_tenths dc_tenths pm_tenths an_tenths cd_tenths ct_tenths), sl_tenths⟩)
    (c_tenths : PySem.W.codeIn K cd_tenths "tenths" = true)
    (k_tenths : PySem.W.keepIn K (.ref f_tenths) = true)
    (a_are_rows : PySem.W.nsIn K mainGlobals "are_rows" = some (some (.ref f_are_rows)))
    (l_are_rows : K.lookup f_are_rows = some ⟨oc_are_rows, od_are_rows, .func (PySem.W.fnOf "are_rows" "are_rows" (defArgs s_are_rows) (defBody s_are_rows) (defScope s_are_rows) .none kV_are_rows dc_are_rows pm_are_rows an_are_rows cd_are_rows ct_are_rows), sl_are_rows⟩)
    (c_are_rows : PySem.W.codeIn K cd_are_rows "are_rows" = true)
    (k_are_rows : PySem.W.keepIn K (.ref f_are_rows) = true)
    (a_is_still : PySem.W.nsIn K mainGlobals "is_still" = some (some (.ref f_is_still)))
    (l_is_still : K.lookup f_is_still = some ⟨oc_is_still, od_is_still, .func (PySem.W.fnOf "is_still" "is_still" (defArgs s_is_still) (defBody s_is_still) (defScope s_is_still) .none kV_is_still dc_is_still pm_is_still an_is_still cd_is_still ct_is_still), sl_is_still⟩)
    (c_is_still : PySem.W.codeIn K cd_is_still "is_still" = true)
    (k_is_still : PySem.W.keepIn K (.ref f_is_still) = true)
    (a_check_still : PySem.W.nsIn K mainGlobals "check_still" = some (some (.ref f_check_still)))
    (l_check_still : K.lookup f_check_still = some ⟨oc_check_still, od_check_still, .func (PySem.W.fnOf "check_still" "check_still" (defArgs s_check_still) (defBody s_check_still) (defScope s_check_still) .none kV_check_still dc_check_still pm_check_still an_check_still cd_check_still ct_check_still), sl_check_still⟩)
    (c_check_still : PySem.W.codeIn K cd_check_still "check_still" = true)
    (k_check_still : PySem.W.keepIn K (.ref f_check_still) = true)
    (a_is_cut : PySem.W.nsIn K mainGlobals "is_cut" = some (some (.ref f_is_cut)))
    (l_is_cut : K.lookup f_is_cut = some ⟨oc_is_cut, od_is_cut, .func (PySem.W.fnOf "is_cut" "is_cut" (defArgs s_is_cut) (defBody s_is_cut) (defScope s_is_cut) .none kV_is_cut dc_is_cut pm_is_cut an_is_cut cd_is_cut ct_is_cut), sl_is_cut⟩)
    (c_is_cut : PySem.W.codeIn K cd_is_cut "is_cut" = true)
    (k_is_cut : PySem.W.keepIn K (.ref f_is_cut) = true)
    (a_check_cut : PySem.W.nsIn K mainGlobals "check_cut" = some (some (.ref f_check_cut)))
    (l_check_cut : K.lookup f_check_cut = some ⟨oc_check_cut, od_check_cut, .func (PySem.W.fnOf "check_cut" "check_cut" (defArgs s_check_cut) (defBody s_check_cut) (defScope s_check_cut) .none kV_check_cut dc_check_cut pm_check_cut an_check_cut cd_check_cut ct_check_cut), sl_check_cut⟩)
    (c_check_cut : PySem.W.codeIn K cd_check_cut "check_cut" = true)
    (k_check_cut : PySem.W.keepIn K (.ref f_check_cut) = true)
    (a_falls : PySem.W.nsIn K mainGlobals "falls" = some (some (.ref f_falls)))
    (l_falls : K.lookup f_falls = some ⟨oc_falls, od_falls, .func (PySem.W.fnOf "falls" "falls" (defArgs s_falls) (defBody s_falls) (defScope s_falls) .none kV_falls dc_falls pm_falls an_falls cd_falls ct_falls), sl_falls⟩)
    (c_falls : PySem.W.codeIn K cd_falls "falls" = true)
    (k_falls : PySem.W.keepIn K (.ref f_falls) = true)
    (a_fraction : PySem.W.nsIn K mainGlobals "fraction" = some (some (.ref f_fraction)))
    (l_fraction : K.lookup f_fraction = some ⟨oc_fraction, od_fraction, .func (PySem.W.fnOf "fraction" "fraction" (defArgs s_fraction) (defBody s_fraction) (defScope s_fraction) .none kV_fraction dc_fraction pm_fraction an_fraction cd_fraction ct_fraction), sl_fraction⟩)
    (c_fraction : PySem.W.codeIn K cd_fraction "fraction" = true)
    (k_fraction : PySem.W.keepIn K (.ref f_fraction) = true)
    (a_plus : PySem.W.nsIn K mainGlobals "plus" = some (some (.ref f_plus)))
    (l_plus : K.lookup f_plus = some ⟨oc_plus, od_plus, .func (PySem.W.fnOf "plus" "plus" (defArgs s_plus) (defBody s_plus) (defScope s_plus) .none kV_plus dc_plus pm_plus an_plus cd_plus ct_plus), sl_plus⟩)
    (c_plus : PySem.W.codeIn K cd_plus "plus" = true)
    (k_plus : PySem.W.keepIn K (.ref f_plus) = true)
    (a_times : PySem.W.nsIn K mainGlobals "times" = some (some (.ref f_times)))
    (l_times : K.lookup f_times = some ⟨oc_times, od_times, .func (PySem.W.fnOf "times" "times" (defArgs s_times) (defBody s_times) (defScope s_times) .none kV_times dc_times pm_times an_times cd_times ct_times), sl_times⟩)
    (c_times : PySem.W.codeIn K cd_times "times" = true)
    (k_times : PySem.W.keepIn K (.ref f_times) = true)
    (a_over : PySem.W.nsIn K mainGlobals "over" = some (some (.ref f_over)))
    (l_over : K.lookup f_over = some ⟨oc_over, od_over, .func (PySem.W.fnOf "over" "over" (defArgs s_over) (defBody s_over) (defScope s_over) .none kV_over dc_over pm_over an_over cd_over ct_over), sl_over⟩)
    (c_over : PySem.W.codeIn K cd_over "over" = true)
    (k_over : PySem.W.keepIn K (.ref f_over) = true)
    (a_below : PySem.W.nsIn K mainGlobals "below" = some (some (.ref f_below)))
    (l_below : K.lookup f_below = some ⟨oc_below, od_below, .func (PySem.W.fnOf "below" "below" (defArgs s_below) (defBody s_below) (defScope s_below) .none kV_below dc_below pm_below an_below cd_below ct_below), sl_below⟩)
    (c_below : PySem.W.codeIn K cd_below "below" = true)
    (k_below : PySem.W.keepIn K (.ref f_below) = true)
    (a_measures : PySem.W.nsIn K mainGlobals "measures" = some (some (.ref f_measures)))
    (l_measures : K.lookup f_measures = some ⟨oc_measures, od_measures, .func (PySem.W.fnOf "measures" "measures" (defArgs s_measures) (defBody s_measures) (defScope s_measures) .none kV_measures dc_measures pm_measures an_measures cd_measures ct_measures), sl_measures⟩)
    (c_measures : PySem.W.codeIn K cd_measures "measures" = true)
    (k_measures : PySem.W.keepIn K (.ref f_measures) = true)
    (a_strength : PySem.W.nsIn K mainGlobals "strength" = some (some (.ref f_strength)))
    (l_strength : K.lookup f_strength = some ⟨oc_strength, od_strength, .func (PySem.W.fnOf "strength" "strength" (defArgs s_strength) (defBody s_strength) (defScope s_strength) .none kV_strength dc_strength pm_strength an_strength cd_strength ct_strength), sl_strength⟩)
    (c_strength : PySem.W.codeIn K cd_strength "strength" = true)
    (k_strength : PySem.W.keepIn K (.ref f_strength) = true)
    (a_shares_of : PySem.W.nsIn K mainGlobals "shares_of" = some (some (.ref f_shares_of)))
    (l_shares_of : K.lookup f_shares_of = some ⟨oc_shares_of, od_shares_of, .func (PySem.W.fnOf "shares_of" "shares_of" (defArgs s_shares_of) (defBody s_shares_of) (defScope s_shares_of) .none kV_shares_of dc_shares_of pm_shares_of an_shares_of cd_shares_of ct_shares_of), sl_shares_of⟩)
    (c_shares_of : PySem.W.codeIn K cd_shares_of "shares_of" = true)
    (k_shares_of : PySem.W.keepIn K (.ref f_shares_of) = true)
    (a_share_of : PySem.W.nsIn K mainGlobals "share_of" = some (some (.ref f_share_of)))
    (l_share_of : K.lookup f_share_of = some ⟨oc_share_of, od_share_of, .func (PySem.W.fnOf "share_of" "share_of" (defArgs s_share_of) (defBody s_share_of) (defScope s_share_of) .none kV_share_of dc_share_of pm_share_of an_share_of cd_share_of ct_share_of), sl_share_of⟩)
    (c_share_of : PySem.W.codeIn K cd_share_of "share_of" = true)
    (k_share_of : PySem.W.keepIn K (.ref f_share_of) = true)
    (a_parts_of : PySem.W.nsIn K mainGlobals "parts_of" = some (some (.ref f_parts_of)))
    (l_parts_of : K.lookup f_parts_of = some ⟨oc_parts_of, od_parts_of, .func (PySem.W.fnOf "parts_of" "parts_of" (defArgs s_parts_of) (defBody s_parts_of) (defScope s_parts_of) .none kV_parts_of dc_parts_of pm_parts_of an_parts_of cd_parts_of ct_parts_of), sl_parts_of⟩)
    (c_parts_of : PySem.W.codeIn K cd_parts_of "parts_of" = true)
    (k_parts_of : PySem.W.keepIn K (.ref f_parts_of) = true)
    (a_run : PySem.W.nsIn K mainGlobals "run" = some (some (.ref f_run)))
    (l_run : K.lookup f_run = some ⟨oc_run, od_run, .func (PySem.W.fnOf "run" "run" (defArgs s_run) (defBody s_run) (defScope s_run) .none kV_run dc_run pm_run an_run cd_run ct_run), sl_run⟩)
    (c_run : PySem.W.codeIn K cd_run "run" = true)
    (k_run : PySem.W.keepIn K (.ref f_run) = true)
    (a_rows_of : PySem.W.nsIn K mainGlobals "rows_of" = some (some (.ref f_rows_of)))
    (l_rows_of : K.lookup f_rows_of = some ⟨oc_rows_of, od_rows_of, .func (PySem.W.fnOf "rows_of" "rows_of" (defArgs s_rows_of) (defBody s_rows_of) (defScope s_rows_of) .none kV_rows_of dc_rows_of pm_rows_of an_rows_of cd_rows_of ct_rows_of), sl_rows_of⟩)
    (c_rows_of : PySem.W.codeIn K cd_rows_of "rows_of" = true)
    (k_rows_of : PySem.W.keepIn K (.ref f_rows_of) = true)
    (a_check_strengths : PySem.W.nsIn K mainGlobals "check_strengths" = some (some (.ref f_check_strengths)))
    (l_check_strengths : K.lookup f_check_strengths = some ⟨oc_check_strengths, od_check_strengths, .func (PySem.W.fnOf "check_strengths" "check_strengths" (defArgs s_check_strengths) (defBody s_check_strengths) (defScope s_check_strengths) .none kV_check_strengths dc_check_strengths pm_check_strengths an_check_strengths cd_check_strengths ct_check_strengths), sl_check_strengths⟩)
    (c_check_strengths : PySem.W.codeIn K cd_check_strengths "check_strengths" = true)
    (k_check_strengths : PySem.W.keepIn K (.ref f_check_strengths) = true)
    (a_first_no_stronger : PySem.W.nsIn K mainGlobals "first_no_stronger" = some (some (.ref f_first_no_stronger)))
    (l_first_no_stronger : K.lookup f_first_no_stronger = some ⟨oc_first_no_stronger, od_first_no_stronger, .func (PySem.W.fnOf "first_no_stronger" "first_no_stronger" (defArgs s_first_no_stronger) (defBody s_first_no_stronger) (defScope s_first_no_stronger) .none kV_first_no_stronger dc_first_no_stronger pm_first_no_stronger an_first_no_stronger cd_first_no_stronger ct_first_no_stronger), sl_first_no_stronger⟩)
    (c_first_no_stronger : PySem.W.codeIn K cd_first_no_stronger "first_no_stronger" = true)
    (k_first_no_stronger : PySem.W.keepIn K (.ref f_first_no_stronger) = true)
    (a_first_weaker : PySem.W.nsIn K mainGlobals "first_weaker" = some (some (.ref f_first_weaker)))
    (l_first_weaker : K.lookup f_first_weaker = some ⟨oc_first_weaker, od_first_weaker, .func (PySem.W.fnOf "first_weaker" "first_weaker" (defArgs s_first_weaker) (defBody s_first_weaker) (defScope s_first_weaker) .none kV_first_weaker dc_first_weaker pm_first_weaker an_first_weaker cd_first_weaker ct_first_weaker), sl_first_weaker⟩)
    (c_first_weaker : PySem.W.codeIn K cd_first_weaker "first_weaker" = true)
    (k_first_weaker : PySem.W.keepIn K (.ref f_first_weaker) = true)
    (a_cut_by : PySem.W.nsIn K mainGlobals "cut_by" = some (some (.ref f_cut_by)))
    (l_cut_by : K.lookup f_cut_by = some ⟨oc_cut_by, od_cut_by, .func (PySem.W.fnOf "cut_by" "cut_by" (defArgs s_cut_by) (defBody s_cut_by) (defScope s_cut_by) .none kV_cut_by dc_cut_by pm_cut_by an_cut_by cd_cut_by ct_cut_by), sl_cut_by⟩)
    (c_cut_by : PySem.W.codeIn K cd_cut_by "cut_by" = true)
    (k_cut_by : PySem.W.keepIn K (.ref f_cut_by) = true)
    (a__law_take : PySem.W.nsIn K mainGlobals "_law_take" = some (some (.ref f__law_take)))
    (l__law_take : K.lookup f__law_take = some ⟨oc__law_take, od__law_take, .func (PySem.W.fnOf "_law_take" "_law_take" (defArgs s__law_take) (defBody s__law_take) (defScope s__law_take) .none kV__law_take dc__law_take pm__law_take an__law_take cd__law_take ct__law_take), sl__law_take⟩)
    (c__law_take : PySem.W.codeIn K cd__law_take "_law_take" = true)
    (k__law_take : PySem.W.keepIn K (.ref f__law_take) = true)
    (a__law_low : PySem.W.nsIn K mainGlobals "_law_low" = some (some (.ref f__law_low)))
    (l__law_low : K.lookup f__law_low = some ⟨oc__law_low, od__law_low, .func (PySem.W.fnOf "_law_low" "_law_low" (defArgs s__law_low) (defBody s__law_low) (defScope s__law_low) .none kV__law_low dc__law_low pm__law_low an__law_low cd__law_low ct__law_low), sl__law_low⟩)
    (c__law_low : PySem.W.codeIn K cd__law_low "_law_low" = true)
    (k__law_low : PySem.W.keepIn K (.ref f__law_low) = true)
    (a__law_cell : PySem.W.nsIn K mainGlobals "_law_cell" = some (some (.ref f__law_cell)))
    (l__law_cell : K.lookup f__law_cell = some ⟨oc__law_cell, od__law_cell, .func (PySem.W.fnOf "_law_cell" "_law_cell" (defArgs s__law_cell) (defBody s__law_cell) (defScope s__law_cell) .none kV__law_cell dc__law_cell pm__law_cell an__law_cell cd__law_cell ct__law_cell), sl__law_cell⟩)
    (c__law_cell : PySem.W.codeIn K cd__law_cell "_law_cell" = true)
    (k__law_cell : PySem.W.keepIn K (.ref f__law_cell) = true)
    (a__law_purse : PySem.W.nsIn K mainGlobals "_law_purse" = some (some (.ref f__law_purse)))
    (l__law_purse : K.lookup f__law_purse = some ⟨oc__law_purse, od__law_purse, .func (PySem.W.fnOf "_law_purse" "_law_purse" (defArgs s__law_purse) (defBody s__law_purse) (defScope s__law_purse) .none kV__law_purse dc__law_purse pm__law_purse an__law_purse cd__law_purse ct__law_purse), sl__law_purse⟩)
    (c__law_purse : PySem.W.codeIn K cd__law_purse "_law_purse" = true)
    (k__law_purse : PySem.W.keepIn K (.ref f__law_purse) = true)
    (a__law_add : PySem.W.nsIn K mainGlobals "_law_add" = some (some (.ref f__law_add)))
    (l__law_add : K.lookup f__law_add = some ⟨oc__law_add, od__law_add, .func (PySem.W.fnOf "_law_add" "_law_add" (defArgs s__law_add) (defBody s__law_add) (defScope s__law_add) .none kV__law_add dc__law_add pm__law_add an__law_add cd__law_add ct__law_add), sl__law_add⟩)
    (c__law_add : PySem.W.codeIn K cd__law_add "_law_add" = true)
    (k__law_add : PySem.W.keepIn K (.ref f__law_add) = true)
    (a__law_mul : PySem.W.nsIn K mainGlobals "_law_mul" = some (some (.ref f__law_mul)))
    (l__law_mul : K.lookup f__law_mul = some ⟨oc__law_mul, od__law_mul, .func (PySem.W.fnOf "_law_mul" "_law_mul" (defArgs s__law_mul) (defBody s__law_mul) (defScope s__law_mul) .none kV__law_mul dc__law_mul pm__law_mul an__law_mul cd__law_mul ct__law_mul), sl__law_mul⟩)
    (c__law_mul : PySem.W.codeIn K cd__law_mul "_law_mul" = true)
    (k__law_mul : PySem.W.keepIn K (.ref f__law_mul) = true)
    (a__law_of : PySem.W.nsIn K mainGlobals "_law_of" = some (some (.ref f__law_of)))
    (l__law_of : K.lookup f__law_of = some ⟨oc__law_of, od__law_of, .func (PySem.W.fnOf "_law_of" "_law_of" (defArgs s__law_of) (defBody s__law_of) (defScope s__law_of) .none kV__law_of dc__law_of pm__law_of an__law_of cd__law_of ct__law_of), sl__law_of⟩)
    (c__law_of : PySem.W.codeIn K cd__law_of "_law_of" = true)
    (k__law_of : PySem.W.keepIn K (.ref f__law_of) = true)
    (a__law_less : PySem.W.nsIn K mainGlobals "_law_less" = some (some (.ref f__law_less)))
    (l__law_less : K.lookup f__law_less = some ⟨oc__law_less, od__law_less, .func (PySem.W.fnOf "_law_less" "_law_less" (defArgs s__law_less) (defBody s__law_less) (defScope s__law_less) .none kV__law_less dc__law_less pm__law_less an__law_less cd__law_less ct__law_less), sl__law_less⟩)
    (c__law_less : PySem.W.codeIn K cd__law_less "_law_less" = true)
    (k__law_less : PySem.W.keepIn K (.ref f__law_less) = true)
    (a__law_all : PySem.W.nsIn K mainGlobals "_law_all" = some (some (.ref f__law_all)))
    (l__law_all : K.lookup f__law_all = some ⟨oc__law_all, od__law_all, .func (PySem.W.fnOf "_law_all" "_law_all" (defArgs s__law_all) (defBody s__law_all) (defScope s__law_all) .none kV__law_all dc__law_all pm__law_all an__law_all cd__law_all ct__law_all), sl__law_all⟩)
    (c__law_all : PySem.W.codeIn K cd__law_all "_law_all" = true)
    (k__law_all : PySem.W.keepIn K (.ref f__law_all) = true)
    (a__law_both : PySem.W.nsIn K mainGlobals "_law_both" = some (some (.ref f__law_both)))
    (l__law_both : K.lookup f__law_both = some ⟨oc__law_both, od__law_both, .func (PySem.W.fnOf "_law_both" "_law_both" (defArgs s__law_both) (defBody s__law_both) (defScope s__law_both) .none kV__law_both dc__law_both pm__law_both an__law_both cd__law_both ct__law_both), sl__law_both⟩)
    (c__law_both : PySem.W.codeIn K cd__law_both "_law_both" = true)
    (k__law_both : PySem.W.keepIn K (.ref f__law_both) = true)
    (a__law_heap : PySem.W.nsIn K mainGlobals "_law_heap" = some (some (.ref f__law_heap)))
    (l__law_heap : K.lookup f__law_heap = some ⟨oc__law_heap, od__law_heap, .func (PySem.W.fnOf "_law_heap" "_law_heap" (defArgs s__law_heap) (defBody s__law_heap) (defScope s__law_heap) .none kV__law_heap dc__law_heap pm__law_heap an__law_heap cd__law_heap ct__law_heap), sl__law_heap⟩)
    (c__law_heap : PySem.W.codeIn K cd__law_heap "_law_heap" = true)
    (k__law_heap : PySem.W.keepIn K (.ref f__law_heap) = true)
    (a__law_tenths : PySem.W.nsIn K mainGlobals "_law_tenths" = some (some (.ref f__law_tenths)))
    (l__law_tenths : K.lookup f__law_tenths = some ⟨oc__law_tenths, od__law_tenths, .func (PySem.W.fnOf "_law_tenths" "_law_tenths" (defArgs s__law_tenths) (defBody s__law_tenths) (defScope s__law_tenths) .none kV__law_tenths dc__law_tenths pm__law_tenths an__law_tenths cd__law_tenths ct__law_tenths), sl__law_tenths⟩)
    (c__law_tenths : PySem.W.codeIn K cd__law_tenths "_law_tenths" = true)
    (k__law_tenths : PySem.W.keepIn K (.ref f__law_tenths) = true)
    (a__law_still : PySem.W.nsIn K mainGlobals "_law_still" = some (some (.ref f__law_still)))
    (l__law_still : K.lookup f__law_still = some ⟨oc__law_still, od__law_still, .func (PySem.W.fnOf "_law_still" "_law_still" (defArgs s__law_still) (defBody s__law_still) (defScope s__law_still) .none kV__law_still dc__law_still pm__law_still an__law_still cd__law_still ct__law_still), sl__law_still⟩)
    (c__law_still : PySem.W.codeIn K cd__law_still "_law_still" = true)
    (k__law_still : PySem.W.keepIn K (.ref f__law_still) = true)
    (a__law_cut : PySem.W.nsIn K mainGlobals "_law_cut" = some (some (.ref f__law_cut)))
    (l__law_cut : K.lookup f__law_cut = some ⟨oc__law_cut, od__law_cut, .func (PySem.W.fnOf "_law_cut" "_law_cut" (defArgs s__law_cut) (defBody s__law_cut) (defScope s__law_cut) .none kV__law_cut dc__law_cut pm__law_cut an__law_cut cd__law_cut ct__law_cut), sl__law_cut⟩)
    (c__law_cut : PySem.W.codeIn K cd__law_cut "_law_cut" = true)
    (k__law_cut : PySem.W.keepIn K (.ref f__law_cut) = true)
    (a__law_liquor : PySem.W.nsIn K mainGlobals "_law_liquor" = some (some (.ref f__law_liquor)))
    (l__law_liquor : K.lookup f__law_liquor = some ⟨oc__law_liquor, od__law_liquor, .func (PySem.W.fnOf "_law_liquor" "_law_liquor" (defArgs s__law_liquor) (defBody s__law_liquor) (defScope s__law_liquor) .none kV__law_liquor dc__law_liquor pm__law_liquor an__law_liquor cd__law_liquor ct__law_liquor), sl__law_liquor⟩)
    (c__law_liquor : PySem.W.codeIn K cd__law_liquor "_law_liquor" = true)
    (k__law_liquor : PySem.W.keepIn K (.ref f__law_liquor) = true)
    (a__law_charge : PySem.W.nsIn K mainGlobals "_law_charge" = some (some (.ref f__law_charge)))
    (l__law_charge : K.lookup f__law_charge = some ⟨oc__law_charge, od__law_charge, .func (PySem.W.fnOf "_law_charge" "_law_charge" (defArgs s__law_charge) (defBody s__law_charge) (defScope s__law_charge) .none kV__law_charge dc__law_charge pm__law_charge an__law_charge cd__law_charge ct__law_charge), sl__law_charge⟩)
    (c__law_charge : PySem.W.codeIn K cd__law_charge "_law_charge" = true)
    (k__law_charge : PySem.W.keepIn K (.ref f__law_charge) = true)
    (a__law_just : PySem.W.nsIn K mainGlobals "_law_just" = some (some (.ref f__law_just)))
    (l__law_just : K.lookup f__law_just = some ⟨oc__law_just, od__law_just, .func (PySem.W.fnOf "_law_just" "_law_just" (defArgs s__law_just) (defBody s__law_just) (defScope s__law_just) .none kV__law_just dc__law_just pm__law_just an__law_just cd__law_just ct__law_just), sl__law_just⟩)
    (c__law_just : PySem.W.codeIn K cd__law_just "_law_just" = true)
    (k__law_just : PySem.W.keepIn K (.ref f__law_just) = true)
    (a__law_rows : PySem.W.nsIn K mainGlobals "_law_rows" = some (some (.ref f__law_rows)))
    (l__law_rows : K.lookup f__law_rows = some ⟨oc__law_rows, od__law_rows, .func (PySem.W.fnOf "_law_rows" "_law_rows" (defArgs s__law_rows) (defBody s__law_rows) (defScope s__law_rows) .none kV__law_rows dc__law_rows pm__law_rows an__law_rows cd__law_rows ct__law_rows), sl__law_rows⟩)
    (c__law_rows : PySem.W.codeIn K cd__law_rows "_law_rows" = true)
    (k__law_rows : PySem.W.keepIn K (.ref f__law_rows) = true)
    (a__law_strong : PySem.W.nsIn K mainGlobals "_law_strong" = some (some (.ref f__law_strong)))
    (l__law_strong : K.lookup f__law_strong = some ⟨oc__law_strong, od__law_strong, .func (PySem.W.fnOf "_law_strong" "_law_strong" (defArgs s__law_strong) (defBody s__law_strong) (defScope s__law_strong) .none kV__law_strong dc__law_strong pm__law_strong an__law_strong cd__law_strong ct__law_strong), sl__law_strong⟩)
    (c__law_strong : PySem.W.codeIn K cd__law_strong "_law_strong" = true)
    (k__law_strong : PySem.W.keepIn K (.ref f__law_strong) = true)
    (a__law_two : PySem.W.nsIn K mainGlobals "_law_two" = some (some (.ref f__law_two)))
    (l__law_two : K.lookup f__law_two = some ⟨oc__law_two, od__law_two, .func (PySem.W.fnOf "_law_two" "_law_two" (defArgs s__law_two) (defBody s__law_two) (defScope s__law_two) .none kV__law_two dc__law_two pm__law_two an__law_two cd__law_two ct__law_two), sl__law_two⟩)
    (c__law_two : PySem.W.codeIn K cd__law_two "_law_two" = true)
    (k__law_two : PySem.W.keepIn K (.ref f__law_two) = true)
    (a__law_falling : PySem.W.nsIn K mainGlobals "_law_falling" = some (some (.ref f__law_falling)))
    (l__law_falling : K.lookup f__law_falling = some ⟨oc__law_falling, od__law_falling, .func (PySem.W.fnOf "_law_falling" "_law_falling" (defArgs s__law_falling) (defBody s__law_falling) (defScope s__law_falling) .none kV__law_falling dc__law_falling pm__law_falling an__law_falling cd__law_falling ct__law_falling), sl__law_falling⟩)
    (c__law_falling : PySem.W.codeIn K cd__law_falling "_law_falling" = true)
    (k__law_falling : PySem.W.keepIn K (.ref f__law_falling) = true)
    (a__law_linear : PySem.W.nsIn K mainGlobals "_law_linear" = some (some (.ref f__law_linear)))
    (l__law_linear : K.lookup f__law_linear = some ⟨oc__law_linear, od__law_linear, .func (PySem.W.fnOf "_law_linear" "_law_linear" (defArgs s__law_linear) (defBody s__law_linear) (defScope s__law_linear) .none kV__law_linear dc__law_linear pm__law_linear an__law_linear cd__law_linear ct__law_linear), sl__law_linear⟩)
    (c__law_linear : PySem.W.codeIn K cd__law_linear "_law_linear" = true)
    (k__law_linear : PySem.W.keepIn K (.ref f__law_linear) = true)
    (a__law_falls_right : PySem.W.nsIn K mainGlobals "_law_falls_right" = some (some (.ref f__law_falls_right)))
    (l__law_falls_right : K.lookup f__law_falls_right = some ⟨oc__law_falls_right, od__law_falls_right, .func (PySem.W.fnOf "_law_falls_right" "_law_falls_right" (defArgs s__law_falls_right) (defBody s__law_falls_right) (defScope s__law_falls_right) .none kV__law_falls_right dc__law_falls_right pm__law_falls_right an__law_falls_right cd__law_falls_right ct__law_falls_right), sl__law_falls_right⟩)
    (c__law_falls_right : PySem.W.codeIn K cd__law_falls_right "_law_falls_right" = true)
    (k__law_falls_right : PySem.W.keepIn K (.ref f__law_falls_right) = true)
    (a__law_right : PySem.W.nsIn K mainGlobals "_law_right" = some (some (.ref f__law_right)))
    (l__law_right : K.lookup f__law_right = some ⟨oc__law_right, od__law_right, .func (PySem.W.fnOf "_law_right" "_law_right" (defArgs s__law_right) (defBody s__law_right) (defScope s__law_right) .none kV__law_right dc__law_right pm__law_right an__law_right cd__law_right ct__law_right), sl__law_right⟩)
    (c__law_right : PySem.W.codeIn K cd__law_right "_law_right" = true)
    (k__law_right : PySem.W.keepIn K (.ref f__law_right) = true)
    (a_law : PySem.W.nsIn K mainGlobals "law" = some (some (.ref f_law)))
    (l_law : K.lookup f_law = some ⟨oc_law, od_law, .func (PySem.W.fnOf "law" "law" (defArgs s_law) (defBody s_law) (defScope s_law) .none kV_law dc_law pm_law an_law cd_law ct_law), sl_law⟩)
    (c_law : PySem.W.codeIn K cd_law "law" = true)
    (k_law : PySem.W.keepIn K (.ref f_law) = true)
    (z_abs : PySem.W.nsIn K mainGlobals "abs" = some none)
    (z_all : PySem.W.nsIn K mainGlobals "all" = some none)
    (z_any : PySem.W.nsIn K mainGlobals "any" = some none)
    (z_bool : PySem.W.nsIn K mainGlobals "bool" = some none)
    (z_dict : PySem.W.nsIn K mainGlobals "dict" = some none)
    (z_enumerate : PySem.W.nsIn K mainGlobals "enumerate" = some none)
    (z_int : PySem.W.nsIn K mainGlobals "int" = some none)
    (z_isinstance : PySem.W.nsIn K mainGlobals "isinstance" = some none)
    (z_len : PySem.W.nsIn K mainGlobals "len" = some none)
    (z_list : PySem.W.nsIn K mainGlobals "list" = some none)
    (z_max : PySem.W.nsIn K mainGlobals "max" = some none)
    (z_min : PySem.W.nsIn K mainGlobals "min" = some none)
    (z_range : PySem.W.nsIn K mainGlobals "range" = some none)
    (z_repr : PySem.W.nsIn K mainGlobals "repr" = some none)
    (z_sorted : PySem.W.nsIn K mainGlobals "sorted" = some none)
    (z_str : PySem.W.nsIn K mainGlobals "str" = some none)
    (z_sum : PySem.W.nsIn K mainGlobals "sum" = some none)
    (z_tuple : PySem.W.nsIn K mainGlobals "tuple" = some none)
    (z_zip : PySem.W.nsIn K mainGlobals "zip" = some none)
    (z_ValueError : PySem.W.nsIn K mainGlobals "ValueError" = some none)
    (g_tree : l.prog.given.tree = none)
    (g_tenths : cd_tenths = .ref cc_tenths)
    (h_tenths : PySem.W.codeHdIn K cc_tenths tt_tenths = true)
    (g_are_rows : cd_are_rows = .ref cc_are_rows)
    (h_are_rows : PySem.W.codeHdIn K cc_are_rows tt_are_rows = true)
    (g_parts_of : cd_parts_of = .ref cc_parts_of)
    (h_parts_of : PySem.W.codeHdIn K cc_parts_of tt_parts_of = true)
    (g_rows_of : cd_rows_of = .ref cc_rows_of)
    (h_rows_of : PySem.W.codeHdIn K cc_rows_of tt_rows_of = true)
    (aS : PySem.W.nsIn K mainGlobals "StillError" = some (some (.ref S)))
    (eS : PySem.W.excIn K S veM "ValueError.__new__" = true)
    (bS : PySem.W.subIn K (.ref S) (.type "BaseException") = some true)
    (cS : PySem.W.clsIn K S = some cdS)
    (tS : PySem.W.typeIn K (.ref S) = some (.type "type"))
    (aC0 : PySem.W.nsIn K mainGlobals "NoNumber" = some (some (.ref C0)))
    (cC0 : PySem.W.clsIn K C0 = some cdC0)
    (tC0 : PySem.W.typeIn K (.ref C0) = some (.type "type"))
    (aC1 : PySem.W.nsIn K mainGlobals "NoLiquor" = some (some (.ref C1)))
    (cC1 : PySem.W.clsIn K C1 = some cdC1)
    (tC1 : PySem.W.typeIn K (.ref C1) = some (.type "type"))
    (aC2 : PySem.W.nsIn K mainGlobals "NoStill" = some (some (.ref C2)))
    (cC2 : PySem.W.clsIn K C2 = some cdC2)
    (tC2 : PySem.W.typeIn K (.ref C2) = some (.type "type"))
    (aC3 : PySem.W.nsIn K mainGlobals "NoCut" = some (some (.ref C3)))
    (cC3 : PySem.W.clsIn K C3 = some cdC3)
    (tC3 : PySem.W.typeIn K (.ref C3) = some (.type "type"))
    (aC9 : PySem.W.nsIn K mainGlobals "NoStrength" = some (some (.ref C9)))
    (cC9 : PySem.W.clsIn K C9 = some cdC9)
    (tC9 : PySem.W.typeIn K (.ref C9) = some (.type "type"))
    (eC0 : PySem.W.excIn K C0 veM "ValueError.__new__" = true)
    (eC1 : PySem.W.excIn K C1 veM "ValueError.__new__" = true)
    (eC2 : PySem.W.excIn K C2 veM "ValueError.__new__" = true) :
    ∃ fd : FuncData, (∀ (s : Shared) (v : Value), BindsTo s fd ⟨[v], []⟩ [("_law_script", v)]) ∧ ∀ base : Heap, K.In base → base.Ns mainGlobals mg → base.life.ids = [(cc_tenths, tt_tenths), (cc_are_rows, tt_are_rows), (cc_parts_of, tt_parts_of), (cc_rows_of, tt_rows_of)] → BM mg base → FnOk l.prog w K mg base CX0 48 fa fd P_law (spLaw K) := by
  have e := hfa.symm.trans (PySem.W.mg_of X G a_law)
  cases e
  have T : Nob mg := ⟨PySem.W.mg_none_of X G z_abs, PySem.W.mg_none_of X G z_all, PySem.W.mg_none_of X G z_any, PySem.W.mg_none_of X G z_bool, PySem.W.mg_none_of X G z_dict, PySem.W.mg_none_of X G z_enumerate, PySem.W.mg_none_of X G z_int, PySem.W.mg_none_of X G z_isinstance, PySem.W.mg_none_of X G z_len, PySem.W.mg_none_of X G z_list, PySem.W.mg_none_of X G z_max, PySem.W.mg_none_of X G z_min, PySem.W.mg_none_of X G z_range, PySem.W.mg_none_of X G z_repr, PySem.W.mg_none_of X G z_sorted, PySem.W.mg_none_of X G z_str, PySem.W.mg_none_of X G z_sum, PySem.W.mg_none_of X G z_tuple, PySem.W.mg_none_of X G z_zip, PySem.W.mg_none_of X G z_ValueError⟩
  let cs : Nat → Addr := fun i => [C0, C1, C2, C3, 0, 0, 0, 0, 0, C9, 0, 0, 0, 0, 0, 0, 0, 0, 0, 0, 0, 0].getD i 0
  have c_NoNumber : ExcK K mg "NoNumber" (cs 0) := ⟨PySem.W.mg_of X G aC0, eC0⟩
  have c_NoLiquor : ExcK K mg "NoLiquor" (cs 1) := ⟨PySem.W.mg_of X G aC1, eC1⟩
  have c_NoStill : ExcK K mg "NoStill" (cs 2) := ⟨PySem.W.mg_of X G aC2, eC2⟩
  subst g_tenths
  subst g_are_rows
  subst g_parts_of
  subst g_rows_of
  have F_is_whole := fun_mk (st := s_is_whole) l_is_whole c_is_whole k_is_whole
  have m_is_whole : mg "is_whole" = some (.ref f_is_whole) := PySem.W.mg_of X G a_is_whole
  have b_is_whole := F_is_whole.binds (ps := P_is_whole) fun _ _ _ _ _ _ us hl => match us, hl with | [_], _ => rfl
  have F_is_whole_within := fun_mk (st := s_is_whole_within) l_is_whole_within c_is_whole_within k_is_whole_within
  have m_is_whole_within : mg "is_whole_within" = some (.ref f_is_whole_within) := PySem.W.mg_of X G a_is_whole_within
  have b_is_whole_within := F_is_whole_within.binds (ps := P_is_whole_within) fun _ _ _ _ _ _ us hl => match us, hl with | [_, _, _], _ => rfl
  have F_is_pair := fun_mk (st := s_is_pair) l_is_pair c_is_pair k_is_pair
  have m_is_pair : mg "is_pair" = some (.ref f_is_pair) := PySem.W.mg_of X G a_is_pair
  have b_is_pair := F_is_pair.binds (ps := P_is_pair) fun _ _ _ _ _ _ us hl => match us, hl with | [_], _ => rfl
  have F_common_divisor := fun_mk (st := s_common_divisor) l_common_divisor c_common_divisor k_common_divisor
  have m_common_divisor : mg "common_divisor" = some (.ref f_common_divisor) := PySem.W.mg_of X G a_common_divisor
  have b_common_divisor := F_common_divisor.binds (ps := P_common_divisor) fun _ _ _ _ _ _ us hl => match us, hl with | [_, _], _ => rfl
  have F_is_fraction := fun_mk (st := s_is_fraction) l_is_fraction c_is_fraction k_is_fraction
  have m_is_fraction : mg "is_fraction" = some (.ref f_is_fraction) := PySem.W.mg_of X G a_is_fraction
  have b_is_fraction := F_is_fraction.binds (ps := P_is_fraction) fun _ _ _ _ _ _ us hl => match us, hl with | [_], _ => rfl
  have F_is_part := fun_mk (st := s_is_part) l_is_part c_is_part k_is_part
  have m_is_part : mg "is_part" = some (.ref f_is_part) := PySem.W.mg_of X G a_is_part
  have b_is_part := F_is_part.binds (ps := P_is_part) fun _ _ _ _ _ _ us hl => match us, hl with | [_], _ => rfl
  have F_is_liquor := fun_mk (st := s_is_liquor) l_is_liquor c_is_liquor k_is_liquor
  have m_is_liquor : mg "is_liquor" = some (.ref f_is_liquor) := PySem.W.mg_of X G a_is_liquor
  have b_is_liquor := F_is_liquor.binds (ps := P_is_liquor) fun _ _ _ _ _ _ us hl => match us, hl with | [_], _ => rfl
  have F_check_liquor := fun_mk (st := s_check_liquor) l_check_liquor c_check_liquor k_check_liquor
  have m_check_liquor : mg "check_liquor" = some (.ref f_check_liquor) := PySem.W.mg_of X G a_check_liquor
  have b_check_liquor := F_check_liquor.binds (ps := P_check_liquor) fun _ _ _ _ _ _ us hl => match us, hl with | [_], _ => rfl
  have F_is_row := fun_mk (st := s_is_row) l_is_row c_is_row k_is_row
  have m_is_row : mg "is_row" = some (.ref f_is_row) := PySem.W.mg_of X G a_is_row
  have b_is_row := F_is_row.binds (ps := P_is_row) fun _ _ _ _ _ _ us hl => match us, hl with | [_], _ => rfl
  have F_tenths := fun_mk (st := s_tenths) l_tenths c_tenths k_tenths
  have m_tenths : mg "tenths" = some (.ref f_tenths) := PySem.W.mg_of X G a_tenths
  have b_tenths := F_tenths.binds (ps := P_tenths) fun _ _ _ _ _ _ us hl => match us, hl with | [_, _], _ => rfl
  have F_are_rows := fun_mk (st := s_are_rows) l_are_rows c_are_rows k_are_rows
  have m_are_rows : mg "are_rows" = some (.ref f_are_rows) := PySem.W.mg_of X G a_are_rows
  have b_are_rows := F_are_rows.binds (ps := P_are_rows) fun _ _ _ _ _ _ us hl => match us, hl with | [_], _ => rfl
  have F_is_still := fun_mk (st := s_is_still) l_is_still c_is_still k_is_still
  have m_is_still : mg "is_still" = some (.ref f_is_still) := PySem.W.mg_of X G a_is_still
  have b_is_still := F_is_still.binds (ps := P_is_still) fun _ _ _ _ _ _ us hl => match us, hl with | [_], _ => rfl
  have F_check_still := fun_mk (st := s_check_still) l_check_still c_check_still k_check_still
  have m_check_still : mg "check_still" = some (.ref f_check_still) := PySem.W.mg_of X G a_check_still
  have b_check_still := F_check_still.binds (ps := P_check_still) fun _ _ _ _ _ _ us hl => match us, hl with | [_], _ => rfl
  have F_is_cut := fun_mk (st := s_is_cut) l_is_cut c_is_cut k_is_cut
  have m_is_cut : mg "is_cut" = some (.ref f_is_cut) := PySem.W.mg_of X G a_is_cut
  have b_is_cut := F_is_cut.binds (ps := P_is_cut) fun _ _ _ _ _ _ us hl => match us, hl with | [_, _], _ => rfl
  have F_check_cut := fun_mk (st := s_check_cut) l_check_cut c_check_cut k_check_cut
  have m_check_cut : mg "check_cut" = some (.ref f_check_cut) := PySem.W.mg_of X G a_check_cut
  have b_check_cut := F_check_cut.binds (ps := P_check_cut) fun _ _ _ _ _ _ us hl => match us, hl with | [_, _], _ => rfl
  have F_falls := fun_mk (st := s_falls) l_falls c_falls k_falls
  have m_falls : mg "falls" = some (.ref f_falls) := PySem.W.mg_of X G a_falls
  have b_falls := F_falls.binds (ps := P_falls) fun _ _ _ _ _ _ us hl => match us, hl with | [_], _ => rfl
  have F_fraction := fun_mk (st := s_fraction) l_fraction c_fraction k_fraction
  have m_fraction : mg "fraction" = some (.ref f_fraction) := PySem.W.mg_of X G a_fraction
  have b_fraction := F_fraction.binds (ps := P_fraction) fun _ _ _ _ _ _ us hl => match us, hl with | [_, _], _ => rfl
  have F_plus := fun_mk (st := s_plus) l_plus c_plus k_plus
  have m_plus : mg "plus" = some (.ref f_plus) := PySem.W.mg_of X G a_plus
  have b_plus := F_plus.binds (ps := P_plus) fun _ _ _ _ _ _ us hl => match us, hl with | [_, _], _ => rfl
  have F_times := fun_mk (st := s_times) l_times c_times k_times
  have m_times : mg "times" = some (.ref f_times) := PySem.W.mg_of X G a_times
  have b_times := F_times.binds (ps := P_times) fun _ _ _ _ _ _ us hl => match us, hl with | [_, _], _ => rfl
  have F_over := fun_mk (st := s_over) l_over c_over k_over
  have m_over : mg "over" = some (.ref f_over) := PySem.W.mg_of X G a_over
  have b_over := F_over.binds (ps := P_over) fun _ _ _ _ _ _ us hl => match us, hl with | [_, _], _ => rfl
  have F_below := fun_mk (st := s_below) l_below c_below k_below
  have m_below : mg "below" = some (.ref f_below) := PySem.W.mg_of X G a_below
  have b_below := F_below.binds (ps := P_below) fun _ _ _ _ _ _ us hl => match us, hl with | [_, _], _ => rfl
  have F_measures := fun_mk (st := s_measures) l_measures c_measures k_measures
  have m_measures : mg "measures" = some (.ref f_measures) := PySem.W.mg_of X G a_measures
  have b_measures := F_measures.binds (ps := P_measures) fun _ _ _ _ _ _ us hl => match us, hl with | [_], _ => rfl
  have F_strength := fun_mk (st := s_strength) l_strength c_strength k_strength
  have m_strength : mg "strength" = some (.ref f_strength) := PySem.W.mg_of X G a_strength
  have b_strength := F_strength.binds (ps := P_strength) fun _ _ _ _ _ _ us hl => match us, hl with | [_], _ => rfl
  have F_shares_of := fun_mk (st := s_shares_of) l_shares_of c_shares_of k_shares_of
  have m_shares_of : mg "shares_of" = some (.ref f_shares_of) := PySem.W.mg_of X G a_shares_of
  have b_shares_of := F_shares_of.binds (ps := P_shares_of) fun _ _ _ _ _ _ us hl => match us, hl with | [_, _, _], _ => rfl
  have F_share_of := fun_mk (st := s_share_of) l_share_of c_share_of k_share_of
  have m_share_of : mg "share_of" = some (.ref f_share_of) := PySem.W.mg_of X G a_share_of
  have b_share_of := F_share_of.binds (ps := P_share_of) fun _ _ _ _ _ _ us hl => match us, hl with | [_, _, _], _ => rfl
  have F_parts_of := fun_mk (st := s_parts_of) l_parts_of c_parts_of k_parts_of
  have m_parts_of : mg "parts_of" = some (.ref f_parts_of) := PySem.W.mg_of X G a_parts_of
  have b_parts_of := F_parts_of.binds (ps := P_parts_of) fun _ _ _ _ _ _ us hl => match us, hl with | [_, _, _], _ => rfl
  have F_run := fun_mk (st := s_run) l_run c_run k_run
  have m_run : mg "run" = some (.ref f_run) := PySem.W.mg_of X G a_run
  have b_run := F_run.binds (ps := P_run) fun _ _ _ _ _ _ us hl => match us, hl with | [_, _, _], _ => rfl
  have F_rows_of := fun_mk (st := s_rows_of) l_rows_of c_rows_of k_rows_of
  have m_rows_of : mg "rows_of" = some (.ref f_rows_of) := PySem.W.mg_of X G a_rows_of
  have b_rows_of := F_rows_of.binds (ps := P_rows_of) fun _ _ _ _ _ _ us hl => match us, hl with | [_, _], _ => rfl
  have F_check_strengths := fun_mk (st := s_check_strengths) l_check_strengths c_check_strengths k_check_strengths
  have m_check_strengths : mg "check_strengths" = some (.ref f_check_strengths) := PySem.W.mg_of X G a_check_strengths
  have b_check_strengths := F_check_strengths.binds (ps := P_check_strengths) fun _ _ _ _ _ _ us hl => match us, hl with | [_, _], _ => rfl
  have F_first_no_stronger := fun_mk (st := s_first_no_stronger) l_first_no_stronger c_first_no_stronger k_first_no_stronger
  have m_first_no_stronger : mg "first_no_stronger" = some (.ref f_first_no_stronger) := PySem.W.mg_of X G a_first_no_stronger
  have b_first_no_stronger := F_first_no_stronger.binds (ps := P_first_no_stronger) fun _ _ _ _ _ _ us hl => match us, hl with | [_, _], _ => rfl
  have F_first_weaker := fun_mk (st := s_first_weaker) l_first_weaker c_first_weaker k_first_weaker
  have m_first_weaker : mg "first_weaker" = some (.ref f_first_weaker) := PySem.W.mg_of X G a_first_weaker
  have b_first_weaker := F_first_weaker.binds (ps := P_first_weaker) fun _ _ _ _ _ _ us hl => match us, hl with | [_, _, _], _ => rfl
  have F_cut_by := fun_mk (st := s_cut_by) l_cut_by c_cut_by k_cut_by
  have m_cut_by : mg "cut_by" = some (.ref f_cut_by) := PySem.W.mg_of X G a_cut_by
  have b_cut_by := F_cut_by.binds (ps := P_cut_by) fun _ _ _ _ _ _ us hl => match us, hl with | [_, _, _, _], _ => rfl
  have F__law_take := fun_mk (st := s__law_take) l__law_take c__law_take k__law_take
  have m__law_take : mg "_law_take" = some (.ref f__law_take) := PySem.W.mg_of X G a__law_take
  have b__law_take := F__law_take.binds (ps := P__law_take) fun _ _ _ _ _ _ us hl => match us, hl with | [_, _], _ => rfl
  have F__law_low := fun_mk (st := s__law_low) l__law_low c__law_low k__law_low
  have m__law_low : mg "_law_low" = some (.ref f__law_low) := PySem.W.mg_of X G a__law_low
  have b__law_low := F__law_low.binds (ps := P__law_low) fun _ _ _ _ _ _ us hl => match us, hl with | [_, _], _ => rfl
  have F__law_cell := fun_mk (st := s__law_cell) l__law_cell c__law_cell k__law_cell
  have m__law_cell : mg "_law_cell" = some (.ref f__law_cell) := PySem.W.mg_of X G a__law_cell
  have b__law_cell := F__law_cell.binds (ps := P__law_cell) fun _ _ _ _ _ _ us hl => match us, hl with | [_, _], _ => rfl
  have F__law_purse := fun_mk (st := s__law_purse) l__law_purse c__law_purse k__law_purse
  have m__law_purse : mg "_law_purse" = some (.ref f__law_purse) := PySem.W.mg_of X G a__law_purse
  have b__law_purse := F__law_purse.binds (ps := P__law_purse) fun _ _ _ _ _ _ us hl => match us, hl with | [_], _ => rfl
  have F__law_add := fun_mk (st := s__law_add) l__law_add c__law_add k__law_add
  have m__law_add : mg "_law_add" = some (.ref f__law_add) := PySem.W.mg_of X G a__law_add
  have b__law_add := F__law_add.binds (ps := P__law_add) fun _ _ _ _ _ _ us hl => match us, hl with | [_, _], _ => rfl
  have F__law_mul := fun_mk (st := s__law_mul) l__law_mul c__law_mul k__law_mul
  have m__law_mul : mg "_law_mul" = some (.ref f__law_mul) := PySem.W.mg_of X G a__law_mul
  have b__law_mul := F__law_mul.binds (ps := P__law_mul) fun _ _ _ _ _ _ us hl => match us, hl with | [_, _], _ => rfl
  have F__law_of := fun_mk (st := s__law_of) l__law_of c__law_of k__law_of
  have m__law_of : mg "_law_of" = some (.ref f__law_of) := PySem.W.mg_of X G a__law_of
  have b__law_of := F__law_of.binds (ps := P__law_of) fun _ _ _ _ _ _ us hl => match us, hl with | [_, _], _ => rfl
  have F__law_less := fun_mk (st := s__law_less) l__law_less c__law_less k__law_less
  have m__law_less : mg "_law_less" = some (.ref f__law_less) := PySem.W.mg_of X G a__law_less
  have b__law_less := F__law_less.binds (ps := P__law_less) fun _ _ _ _ _ _ us hl => match us, hl with | [_, _], _ => rfl
  have F__law_all := fun_mk (st := s__law_all) l__law_all c__law_all k__law_all
  have m__law_all : mg "_law_all" = some (.ref f__law_all) := PySem.W.mg_of X G a__law_all
  have b__law_all := F__law_all.binds (ps := P__law_all) fun _ _ _ _ _ _ us hl => match us, hl with | [_], _ => rfl
  have F__law_both := fun_mk (st := s__law_both) l__law_both c__law_both k__law_both
  have m__law_both : mg "_law_both" = some (.ref f__law_both) := PySem.W.mg_of X G a__law_both
  have b__law_both := F__law_both.binds (ps := P__law_both) fun _ _ _ _ _ _ us hl => match us, hl with | [_, _], _ => rfl
  have F__law_heap := fun_mk (st := s__law_heap) l__law_heap c__law_heap k__law_heap
  have m__law_heap : mg "_law_heap" = some (.ref f__law_heap) := PySem.W.mg_of X G a__law_heap
  have b__law_heap := F__law_heap.binds (ps := P__law_heap) fun _ _ _ _ _ _ us hl => match us, hl with | [_], _ => rfl
  have F__law_tenths := fun_mk (st := s__law_tenths) l__law_tenths c__law_tenths k__law_tenths
  have m__law_tenths : mg "_law_tenths" = some (.ref f__law_tenths) := PySem.W.mg_of X G a__law_tenths
  have b__law_tenths := F__law_tenths.binds (ps := P__law_tenths) fun _ _ _ _ _ _ us hl => match us, hl with | [_, _], _ => rfl
  have F__law_still := fun_mk (st := s__law_still) l__law_still c__law_still k__law_still
  have m__law_still : mg "_law_still" = some (.ref f__law_still) := PySem.W.mg_of X G a__law_still
  have b__law_still := F__law_still.binds (ps := P__law_still) fun _ _ _ _ _ _ us hl => match us, hl with | [_], _ => rfl
  have F__law_cut := fun_mk (st := s__law_cut) l__law_cut c__law_cut k__law_cut
  have m__law_cut : mg "_law_cut" = some (.ref f__law_cut) := PySem.W.mg_of X G a__law_cut
  have b__law_cut := F__law_cut.binds (ps := P__law_cut) fun _ _ _ _ _ _ us hl => match us, hl with | [_, _], _ => rfl
  have F__law_liquor := fun_mk (st := s__law_liquor) l__law_liquor c__law_liquor k__law_liquor
  have m__law_liquor : mg "_law_liquor" = some (.ref f__law_liquor) := PySem.W.mg_of X G a__law_liquor
  have b__law_liquor := F__law_liquor.binds (ps := P__law_liquor) fun _ _ _ _ _ _ us hl => match us, hl with | [_], _ => rfl
  have F__law_charge := fun_mk (st := s__law_charge) l__law_charge c__law_charge k__law_charge
  have m__law_charge : mg "_law_charge" = some (.ref f__law_charge) := PySem.W.mg_of X G a__law_charge
  have b__law_charge := F__law_charge.binds (ps := P__law_charge) fun _ _ _ _ _ _ us hl => match us, hl with | [_], _ => rfl
  have F__law_just := fun_mk (st := s__law_just) l__law_just c__law_just k__law_just
  have m__law_just : mg "_law_just" = some (.ref f__law_just) := PySem.W.mg_of X G a__law_just
  have b__law_just := F__law_just.binds (ps := P__law_just) fun _ _ _ _ _ _ us hl => match us, hl with | [_, _], _ => rfl
  have F__law_rows := fun_mk (st := s__law_rows) l__law_rows c__law_rows k__law_rows
  have m__law_rows : mg "_law_rows" = some (.ref f__law_rows) := PySem.W.mg_of X G a__law_rows
  have b__law_rows := F__law_rows.binds (ps := P__law_rows) fun _ _ _ _ _ _ us hl => match us, hl with | [_, _], _ => rfl
  have F__law_strong := fun_mk (st := s__law_strong) l__law_strong c__law_strong k__law_strong
  have m__law_strong : mg "_law_strong" = some (.ref f__law_strong) := PySem.W.mg_of X G a__law_strong
  have b__law_strong := F__law_strong.binds (ps := P__law_strong) fun _ _ _ _ _ _ us hl => match us, hl with | [_, _], _ => rfl
  have F__law_two := fun_mk (st := s__law_two) l__law_two c__law_two k__law_two
  have m__law_two : mg "_law_two" = some (.ref f__law_two) := PySem.W.mg_of X G a__law_two
  have b__law_two := F__law_two.binds (ps := P__law_two) fun _ _ _ _ _ _ us hl => match us, hl with | [_, _, _], _ => rfl
  have F__law_falling := fun_mk (st := s__law_falling) l__law_falling c__law_falling k__law_falling
  have m__law_falling : mg "_law_falling" = some (.ref f__law_falling) := PySem.W.mg_of X G a__law_falling
  have b__law_falling := F__law_falling.binds (ps := P__law_falling) fun _ _ _ _ _ _ us hl => match us, hl with | [_, _], _ => rfl
  have F__law_linear := fun_mk (st := s__law_linear) l__law_linear c__law_linear k__law_linear
  have m__law_linear : mg "_law_linear" = some (.ref f__law_linear) := PySem.W.mg_of X G a__law_linear
  have b__law_linear := F__law_linear.binds (ps := P__law_linear) fun _ _ _ _ _ _ us hl => match us, hl with | [_, _, _, _, _], _ => rfl
  have F__law_falls_right := fun_mk (st := s__law_falls_right) l__law_falls_right c__law_falls_right k__law_falls_right
  have m__law_falls_right : mg "_law_falls_right" = some (.ref f__law_falls_right) := PySem.W.mg_of X G a__law_falls_right
  have b__law_falls_right := F__law_falls_right.binds (ps := P__law_falls_right) fun _ _ _ _ _ _ us hl => match us, hl with | [_, _, _, _], _ => rfl
  have F__law_right := fun_mk (st := s__law_right) l__law_right c__law_right k__law_right
  have m__law_right : mg "_law_right" = some (.ref f__law_right) := PySem.W.mg_of X G a__law_right
  have b__law_right := F__law_right.binds (ps := P__law_right) fun _ _ _ _ _ _ us hl => match us, hl with | [_], _ => rfl
  have F_law := fun_mk (st := s_law) l_law c_law k_law
  refine ⟨PySem.W.fnOf "law" "law" (defArgs s_law) (defBody s_law) (defScope s_law) .none kV_law dc_law pm_law an_law cd_law ct_law, fun s v => .of_eq rfl, fun base KB NB hids hbm => ?_⟩
  have q_is_whole : Cal l.prog w K mg base CX0 "is_whole" 1 P_is_whole (spB1 K isWh) := ⟨f_is_whole, _, ok_is_whole F_is_whole T , m_is_whole, k_is_whole, b_is_whole⟩
  have q_is_whole_within : Cal l.prog w K mg base CX0 "is_whole_within" 2 P_is_whole_within (spWithin K) := ⟨f_is_whole_within, _, ok_is_whole_within F_is_whole_within T  q_is_whole, m_is_whole_within, k_is_whole_within, b_is_whole_within⟩
  have q_is_pair : Cal l.prog w K mg base CX0 "is_pair" 1 P_is_pair (spB1 K isPr) := ⟨f_is_pair, _, ok_is_pair F_is_pair T , m_is_pair, k_is_pair, b_is_pair⟩
  have q_common_divisor : Cal l.prog w K mg base CX0 "common_divisor" 1 P_common_divisor (spGcd) := ⟨f_common_divisor, _, ok_common_divisor F_common_divisor T , m_common_divisor, k_common_divisor, b_common_divisor⟩
  have q_is_fraction : Cal l.prog w K mg base CX0 "is_fraction" 2 P_is_fraction (spB1 K isFq) := ⟨f_is_fraction, _, ok_is_fraction F_is_fraction T  q_is_pair q_is_whole q_common_divisor, m_is_fraction, k_is_fraction, b_is_fraction⟩
  have q_is_part : Cal l.prog w K mg base CX0 "is_part" 3 P_is_part (spB1 K isPt) := ⟨f_is_part, _, ok_is_part F_is_part T  q_is_fraction, m_is_part, k_is_part, b_is_part⟩
  have q_is_liquor : Cal l.prog w K mg base CX0 "is_liquor" 4 P_is_liquor (spB1 K isLq) := ⟨f_is_liquor, _, ok_is_liquor F_is_liquor T  q_is_pair q_is_part, m_is_liquor, k_is_liquor, b_is_liquor⟩
  have q_check_liquor : Cal l.prog w K mg base (CXE l.prog w) "check_liquor" 5 P_check_liquor (spChk K isLq (cs 1)) := ⟨f_check_liquor, _, ok_check_liquor F_check_liquor T  c_NoLiquor q_is_liquor, m_check_liquor, k_check_liquor, b_check_liquor⟩
  have q_is_row : Cal l.prog w K mg base CX0 "is_row" 3 P_is_row (spB1 K isRw) := ⟨f_is_row, _, ok_is_row F_is_row T  q_is_pair q_is_whole_within, m_is_row, k_is_row, b_is_row⟩
  have q_tenths : Cal l.prog w K mg base CX0 "tenths" 8 P_tenths (spTenths K) := ⟨f_tenths, _, ok_tenths F_tenths T  rfl (by rw [hids]; simp) (PySem.W.codeHd_of_K KB h_tenths) hbm, m_tenths, k_tenths, b_tenths⟩
  have q_are_rows : Cal l.prog w K mg base CX0 "are_rows" 16 P_are_rows (spB1 K areRw) := ⟨f_are_rows, _, ok_are_rows F_are_rows T  rfl (by rw [hids]; simp) (PySem.W.codeHd_of_K KB h_are_rows) hbm q_is_row q_tenths, m_are_rows, k_are_rows, b_are_rows⟩
  have q_is_still : Cal l.prog w K mg base CX0 "is_still" 17 P_is_still (spB1 K isSt) := ⟨f_is_still, _, ok_is_still F_is_still T  q_is_pair q_are_rows q_is_whole_within, m_is_still, k_is_still, b_is_still⟩
  have q_check_still : Cal l.prog w K mg base (CXE l.prog w) "check_still" 18 P_check_still (spChk K isSt (cs 2)) := ⟨f_check_still, _, ok_check_still F_check_still T  c_NoStill q_is_still, m_check_still, k_check_still, b_check_still⟩
  have q_is_cut : Cal l.prog w K mg base (CXE l.prog w) "is_cut" 19 P_is_cut (spCut K (cs 2)) := ⟨f_is_cut, _, ok_is_cut F_is_cut T  q_check_still q_is_pair q_is_whole_within, m_is_cut, k_is_cut, b_is_cut⟩
  have q_check_cut : Cal l.prog w K mg base CX0 "check_cut" 20 P_check_cut (spChkCut K) := ⟨f_check_cut, _, ok_check_cut F_check_cut T  q_is_cut, m_check_cut, k_check_cut, b_check_cut⟩
  have q_falls : Cal l.prog w K mg base CX0 "falls" 19 P_falls (spFalls K) := ⟨f_falls, _, ok_falls F_falls T  q_check_still, m_falls, k_falls, b_falls⟩
  have q_fraction : Cal l.prog w K mg base (CXE l.prog w) "fraction" 34 P_fraction (spFrac K (cs 0)) := ⟨f_fraction, _, ok_fraction F_fraction T  hbm g_tree c_NoNumber q_common_divisor, m_fraction, k_fraction, b_fraction⟩
  have q_plus : Cal l.prog w K mg base CX0 "plus" 34 P_plus (spAr K (· + ·)) := ⟨f_plus, _, ok_plus F_plus T  hbm g_tree q_common_divisor, m_plus, k_plus, b_plus⟩
  have q_times : Cal l.prog w K mg base CX0 "times" 35 P_times (spAr K (· * ·)) := ⟨f_times, _, ok_times F_times T  q_fraction, m_times, k_times, b_times⟩
  have q_over : Cal l.prog w K mg base (CXE l.prog w) "over" 36 P_over (spOver K (cs 0)) := ⟨f_over, _, ok_over F_over T  q_fraction q_times, m_over, k_over, b_over⟩
  have q_below : Cal l.prog w K mg base CX0 "below" 1 P_below (spBelow K) := ⟨f_below, _, ok_below F_below T , m_below, k_below, b_below⟩
  have q_measures : Cal l.prog w K mg base CX0 "measures" 35 P_measures (spMs K) := ⟨f_measures, _, ok_measures F_measures T  q_plus, m_measures, k_measures, b_measures⟩
  have q_strength : Cal l.prog w K mg base CX0 "strength" 37 P_strength (spStr K) := ⟨f_strength, _, ok_strength F_strength T  q_measures q_over, m_strength, k_strength, b_strength⟩
  have q_shares_of : Cal l.prog w K mg base CX0 "shares_of" 35 P_shares_of (spShr K) := ⟨f_shares_of, _, ok_shares_of F_shares_of T  q_tenths q_fraction, m_shares_of, k_shares_of, b_shares_of⟩
  have q_share_of : Cal l.prog w K mg base CX0 "share_of" 36 P_share_of (spShare K) := ⟨f_share_of, _, ok_share_of F_share_of T  q_times, m_share_of, k_share_of, b_share_of⟩
  have q_parts_of : Cal l.prog w K mg base CX0 "parts_of" 44 P_parts_of (spRun K) := ⟨f_parts_of, _, ok_parts_of F_parts_of T  rfl (by rw [hids]; simp) (PySem.W.codeHd_of_K KB h_parts_of) hbm q_shares_of q_share_of, m_parts_of, k_parts_of, b_parts_of⟩
  have q_run : Cal l.prog w K mg base CX0 "run" 45 P_run (spRun K) := ⟨f_run, _, ok_run F_run T  q_check_cut q_check_liquor q_parts_of, m_run, k_run, b_run⟩
  have q_rows_of : Cal l.prog w K mg base CX0 "rows_of" 44 P_rows_of (spRows K) := ⟨f_rows_of, _, ok_rows_of F_rows_of T  rfl (by rw [hids]; simp) (PySem.W.codeHd_of_K KB h_rows_of) hbm q_check_still q_check_liquor q_fraction q_share_of, m_rows_of, k_rows_of, b_rows_of⟩
  have q_check_strengths : Cal l.prog w K mg base CX0 "check_strengths" 3 P_check_strengths (spChkS) := ⟨f_check_strengths, _, ok_check_strengths F_check_strengths T  q_is_whole_within, m_check_strengths, k_check_strengths, b_check_strengths⟩
  have q_first_no_stronger : Cal l.prog w K mg base CX0 "first_no_stronger" 2 P_first_no_stronger (spFns K) := ⟨f_first_no_stronger, _, ok_first_no_stronger F_first_no_stronger T  q_below, m_first_no_stronger, k_first_no_stronger, b_first_no_stronger⟩
  have q_first_weaker : Cal l.prog w K mg base CX0 "first_weaker" 2 P_first_weaker (spFw K) := ⟨f_first_weaker, _, ok_first_weaker F_first_weaker T  q_below, m_first_weaker, k_first_weaker, b_first_weaker⟩
  have q_cut_by : Cal l.prog w K mg base CX0 "cut_by" 45 P_cut_by (spCutBy K) := ⟨f_cut_by, _, ok_cut_by F_cut_by T  q_rows_of q_strength q_check_strengths q_fraction q_first_no_stronger q_first_weaker, m_cut_by, k_cut_by, b_cut_by⟩
  have q__law_take : Cal l.prog w K mg base CX0 "_law_take" 1 P__law_take (spTake) := ⟨f__law_take, _, ok__law_take F__law_take T , m__law_take, k__law_take, b__law_take⟩
  have q__law_low : Cal l.prog w K mg base CX0 "_law_low" 33 P__law_low (spLow K) := ⟨f__law_low, _, ok__law_low F__law_low T  hbm g_tree, m__law_low, k__law_low, b__law_low⟩
  have q__law_cell : Cal l.prog w K mg base CX0 "_law_cell" 1 P__law_cell (spCell K) := ⟨f__law_cell, _, ok__law_cell F__law_cell T , m__law_cell, k__law_cell, b__law_cell⟩
  have q__law_purse : Cal l.prog w K mg base CX0 "_law_purse" 1 P__law_purse (spPurse) := ⟨f__law_purse, _, ok__law_purse F__law_purse T , m__law_purse, k__law_purse, b__law_purse⟩
  have q__law_add : Cal l.prog w K mg base CX0 "_law_add" 34 P__law_add (spLAdd K) := ⟨f__law_add, _, ok__law_add F__law_add T  q__law_low, m__law_add, k__law_add, b__law_add⟩
  have q__law_mul : Cal l.prog w K mg base CX0 "_law_mul" 34 P__law_mul (spMul K) := ⟨f__law_mul, _, ok__law_mul F__law_mul T  q__law_low, m__law_mul, k__law_mul, b__law_mul⟩
  have q__law_of : Cal l.prog w K mg base CX0 "_law_of" 35 P__law_of (spOf K) := ⟨f__law_of, _, ok__law_of F__law_of T  q__law_mul, m__law_of, k__law_of, b__law_of⟩
  have q__law_less : Cal l.prog w K mg base CX0 "_law_less" 1 P__law_less (spBelow4 K) := ⟨f__law_less, _, ok__law_less F__law_less T , m__law_less, k__law_less, b__law_less⟩
  have q__law_all : Cal l.prog w K mg base CX0 "_law_all" 35 P__law_all (spMs K) := ⟨f__law_all, _, ok__law_all F__law_all T  q__law_add, m__law_all, k__law_all, b__law_all⟩
  have q__law_both : Cal l.prog w K mg base CX0 "_law_both" 35 P__law_both (spTog K) := ⟨f__law_both, _, ok__law_both F__law_both T  q__law_add, m__law_both, k__law_both, b__law_both⟩
  have q__law_heap : Cal l.prog w K mg base CX0 "_law_heap" 36 P__law_heap (spHeapT K) := ⟨f__law_heap, _, ok__law_heap F__law_heap T  q__law_both, m__law_heap, k__law_heap, b__law_heap⟩
  have q__law_tenths : Cal l.prog w K mg base CX0 "_law_tenths" 2 P__law_tenths (spLTen) := ⟨f__law_tenths, _, ok__law_tenths F__law_tenths T  q__law_take, m__law_tenths, k__law_tenths, b__law_tenths⟩
  have q__law_still : Cal l.prog w K mg base CX0 "_law_still" 3 P__law_still (spLSt K) := ⟨f__law_still, _, ok__law_still F__law_still T  q__law_take q__law_tenths, m__law_still, k__law_still, b__law_still⟩
  have q__law_cut : Cal l.prog w K mg base CX0 "_law_cut" 2 P__law_cut (spLCut K) := ⟨f__law_cut, _, ok__law_cut F__law_cut T  q__law_take, m__law_cut, k__law_cut, b__law_cut⟩
  have q__law_liquor : Cal l.prog w K mg base CX0 "_law_liquor" 34 P__law_liquor (spLLq K 64) := ⟨f__law_liquor, _, ok__law_liquor F__law_liquor T  q__law_take q__law_low, m__law_liquor, k__law_liquor, b__law_liquor⟩
  have q__law_charge : Cal l.prog w K mg base CX0 "_law_charge" 36 P__law_charge (spLLq K 500) := ⟨f__law_charge, _, ok__law_charge F__law_charge T  q__law_take q__law_low q__law_of q__law_liquor, m__law_charge, k__law_charge, b__law_charge⟩
  have q__law_just : Cal l.prog w K mg base CX0 "_law_just" 5 P__law_just (spJust K 4) := ⟨f__law_just, _, ok__law_just F__law_just T m__law_just b__law_just 4, m__law_just, k__law_just, b__law_just⟩
  have q__law_rows : Cal l.prog w K mg base CX0 "_law_rows" 35 P__law_rows (spLRows K) := ⟨f__law_rows, _, ok__law_rows F__law_rows T  q__law_low q__law_mul, m__law_rows, k__law_rows, b__law_rows⟩
  have q__law_strong : Cal l.prog w K mg base CX0 "_law_strong" 36 P__law_strong (spStrong K) := ⟨f__law_strong, _, ok__law_strong F__law_strong T  q__law_all q__law_mul q__law_less, m__law_strong, k__law_strong, b__law_strong⟩
  have q__law_two : Cal l.prog w K mg base CX0 "_law_two" 36 P__law_two (spTwo K) := ⟨f__law_two, _, ok__law_two F__law_two T  q__law_take q__law_rows q__law_all q__law_mul, m__law_two, k__law_two, b__law_two⟩
  have q__law_falling : Cal l.prog w K mg base CX0 "_law_falling" 2 P__law_falling (spFallg K) := ⟨f__law_falling, _, ok__law_falling F__law_falling T  q__law_take, m__law_falling, k__law_falling, b__law_falling⟩
  have q__law_linear : Cal l.prog w K mg base CX0 "_law_linear" 46 P__law_linear (spLin K) := ⟨f__law_linear, _, ok__law_linear F__law_linear T  q_run q__law_both q__law_of q__law_just q_rows_of q__law_heap, m__law_linear, k__law_linear, b__law_linear⟩
  have q__law_falls_right : Cal l.prog w K mg base CX0 "_law_falls_right" 46 P__law_falls_right (spFR K) := ⟨f__law_falls_right, _, ok__law_falls_right F__law_falls_right T  q_rows_of q__law_less q__law_mul q__law_all q_cut_by q__law_strong q_falls, m__law_falls_right, k__law_falls_right, b__law_falls_right⟩
  have q__law_right : Cal l.prog w K mg base CX0 "_law_right" 47 P__law_right (spP1 true) := ⟨f__law_right, _, ok__law_right F__law_right T  q__law_still q__law_cut q__law_charge q__law_linear q__law_low q__law_take q__law_falling q__law_two q__law_falls_right, m__law_right, k__law_right, b__law_right⟩
  exact ok_law F_law T  q__law_right q__law_purse q__law_cell
end LW
open PySem PySem.W PyProof.Rows
set_option maxRecDepth 100000 in
set_option maxHeartbeats 0 in
theorem PySem.Challenge.cw_twicerun_k10_whole_runs_put_together_holds : PySem.Challenge.rw_twicerun_k10_whole_runs_put_together.Holds :=
  hd (by
  refine' L2.walk_lawB (l := PySem.Challenge.rw_twicerun_k10_whole_runs_put_together) (k := 48) (x := "_law_script") (tabs := [(?cc_tenths, ?tt_tenths), (?cc_are_rows, ?tt_are_rows), (?cc_parts_of, ?tt_parts_of), (?cc_rows_of, ?tt_rows_of)]) rfl rfl ⟨rfl, by decide, by decide, rfl⟩ (by kernel_rfl) (fun w h Y => PySem.W.kIn_of Y) ?noT ?tIn ?F
  case tIn =>
    intro w mean mg mb h T X
    refine List.forall_mem_cons.mpr ⟨PySem.W.tab_of (x := "tenths") T X rfl (by first | k_is | rfl), List.forall_mem_cons.mpr ⟨PySem.W.tab_of (x := "are_rows") T X rfl (by first | k_is | rfl), List.forall_mem_cons.mpr ⟨PySem.W.tab_of (x := "parts_of") T X rfl (by first | k_is | rfl), List.forall_mem_cons.mpr ⟨PySem.W.tab_of (x := "rows_of") T X rfl (by first | k_is | rfl), fun _ z => nomatch z⟩⟩⟩⟩
  case noT => intro R; kernel_rfl
  case F =>
    intro w mg fa h KX G hmg
    refine' LW.all_mk KX G hmg ?a_is_whole ?l_is_whole ?c_is_whole ?k_is_whole ?a_is_whole_within ?l_is_whole_within ?c_is_whole_within ?k_is_whole_within ?a_is_pair ?l_is_pair ?c_is_pair ?k_is_pair ?a_common_divisor ?l_common_divisor ?c_common_divisor ?k_common_divisor ?a_is_fraction ?l_is_fraction ?c_is_fraction ?k_is_fraction ?a_is_part ?l_is_part ?c_is_part ?k_is_part ?a_is_liquor ?l_is_liquor ?c_is_liquor ?k_is_liquor ?a_check_liquor ?l_check_liquor ?c_check_liquor ?k_check_liquor ?a_is_row ?l_is_row ?c_is_row ?k_is_row ?a_tenths ?l_tenths ?c_tenths ?k_tenths ?a_are_rows ?l_are_rows ?c_are_rows ?k_are_rows ?a_is_still ?l_is_still ?c_is_still ?k_is_still ?a_check_still ?l_check_still ?c_check_still ?k_check_still ?a_is_cut ?l_is_cut ?c_is_cut ?k_is_cut ?a_check_cut ?l_check_cut ?c_check_cut ?k_check_cut ?a_falls ?l_falls ?c_falls ?k_falls ?a_fraction ?l_fraction ?c_fraction ?k_fraction ?a_plus ?l_plus ?c_plus ?k_plus ?a_times ?l_times ?c_times ?k_times ?a_over ?l_over ?c_over ?k_over ?a_below ?l_below ?c_below ?k_below ?a_measures ?l_measures ?c_measures ?k_measures ?a_strength ?l_strength ?c_strength ?k_strength ?a_shares_of ?l_shares_of ?c_shares_of ?k_shares_of ?a_share_of ?l_share_of ?c_share_of ?k_share_of ?a_parts_of ?l_parts_of ?c_parts_of ?k_parts_of ?a_run ?l_run ?c_run ?k_run ?a_rows_of ?l_rows_of ?c_rows_of ?k_rows_of ?a_check_strengths ?l_check_strengths ?c_check_strengths ?k_check_strengths ?a_first_no_stronger ?l_first_no_stronger ?c_first_no_stronger ?k_first_no_stronger ?a_first_weaker ?l_first_weaker ?c_first_weaker ?k_first_weaker ?a_cut_by ?l_cut_by ?c_cut_by ?k_cut_by ?a__law_take ?l__law_take ?c__law_take ?k__law_take ?a__law_low ?l__law_low ?c__law_low ?k__law_low ?a__law_cell ?l__law_cell ?c__law_cell ?k__law_cell ?a__law_purse ?l__law_purse ?c__law_purse ?k__law_purse ?a__law_add ?l__law_add ?c__law_add ?k__law_add ?a__law_mul ?l__law_mul ?c__law_mul ?k__law_mul ?a__law_of ?l__law_of ?c__law_of ?k__law_of ?a__law_less ?l__law_less ?c__law_less ?k__law_less ?a__law_all ?l__law_all ?c__law_all ?k__law_all ?a__law_both ?l__law_both ?c__law_both ?k__law_both ?a__law_heap ?l__law_heap ?c__law_heap ?k__law_heap ?a__law_tenths ?l__law_tenths ?c__law_tenths ?k__law_tenths ?a__law_still ?l__law_still ?c__law_still ?k__law_still ?a__law_cut ?l__law_cut ?c__law_cut ?k__law_cut ?a__law_liquor ?l__law_liquor ?c__law_liquor ?k__law_liquor ?a__law_charge ?l__law_charge ?c__law_charge ?k__law_charge ?a__law_just ?l__law_just ?c__law_just ?k__law_just ?a__law_rows ?l__law_rows ?c__law_rows ?k__law_rows ?a__law_strong ?l__law_strong ?c__law_strong ?k__law_strong ?a__law_two ?l__law_two ?c__law_two ?k__law_two ?a__law_falling ?l__law_falling ?c__law_falling ?k__law_falling ?a__law_linear ?l__law_linear ?c__law_linear ?k__law_linear ?a__law_falls_right ?l__law_falls_right ?c__law_falls_right ?k__law_falls_right ?a__law_right ?l__law_right ?c__law_right ?k__law_right ?a_law ?l_law ?c_law ?k_law ?z_abs ?z_all ?z_any ?z_bool ?z_dict ?z_enumerate ?z_int ?z_isinstance ?z_len ?z_list ?z_max ?z_min ?z_range ?z_repr ?z_sorted ?z_str ?z_sum ?z_tuple ?z_zip ?z_ValueError ?g_tree ?g_tenths ?h_tenths ?g_are_rows ?h_are_rows ?g_parts_of ?h_parts_of ?g_rows_of ?h_rows_of ?aS ?eS ?bS ?cS ?tS ?aC0 ?cC0 ?tC0 ?aC1 ?cC1 ?tC1 ?aC2 ?cC2 ?tC2 ?aC3 ?cC3 ?tC3 ?aC9 ?cC9 ?tC9 ?eC0 ?eC1 ?eC2
    (case a_is_whole => k_is)
    (case l_is_whole => k_is)
    (case c_is_whole => k_is)
    (case k_is_whole => k_is)
    (case a_is_whole_within => k_is)
    (case l_is_whole_within => k_is)
    (case c_is_whole_within => k_is)
    (case k_is_whole_within => k_is)
    (case a_is_pair => k_is)
    (case l_is_pair => k_is)
    (case c_is_pair => k_is)
    (case k_is_pair => k_is)
    (case a_common_divisor => k_is)
    (case l_common_divisor => k_is)
    (case c_common_divisor => k_is)
    (case k_common_divisor => k_is)
    (case a_is_fraction => k_is)
    (case l_is_fraction => k_is)
    (case c_is_fraction => k_is)
    (case k_is_fraction => k_is)
    (case a_is_part => k_is)
    (case l_is_part => k_is)
    (case c_is_part => k_is)
    (case k_is_part => k_is)
    (case a_is_liquor => k_is)
    (case l_is_liquor => k_is)
    (case c_is_liquor => k_is)
    (case k_is_liquor => k_is)
    (case a_check_liquor => k_is)
    (case l_check_liquor => k_is)
    (case c_check_liquor => k_is)
    (case k_check_liquor => k_is)
    (case a_is_row => k_is)
    (case l_is_row => k_is)
    (case c_is_row => k_is)
    (case k_is_row => k_is)
    (case a_tenths => k_is)
    (case l_tenths => k_is)
    (case c_tenths => k_is)
    (case k_tenths => k_is)
    (case a_are_rows => k_is)
    (case l_are_rows => k_is)
    (case c_are_rows => k_is)
    (case k_are_rows => k_is)
    (case a_is_still => k_is)
    (case l_is_still => k_is)
    (case c_is_still => k_is)
    (case k_is_still => k_is)
    (case a_check_still => k_is)
    (case l_check_still => k_is)
    (case c_check_still => k_is)
    (case k_check_still => k_is)
    (case a_is_cut => k_is)
    (case l_is_cut => k_is)
    (case c_is_cut => k_is)
    (case k_is_cut => k_is)
    (case a_check_cut => k_is)
    (case l_check_cut => k_is)
    (case c_check_cut => k_is)
    (case k_check_cut => k_is)
    (case a_falls => k_is)
    (case l_falls => k_is)
    (case c_falls => k_is)
    (case k_falls => k_is)
    (case a_fraction => k_is)
    (case l_fraction => k_is)
    (case c_fraction => k_is)
    (case k_fraction => k_is)
    (case a_plus => k_is)
    (case l_plus => k_is)
    (case c_plus => k_is)
    (case k_plus => k_is)
    (case a_times => k_is)
    (case l_times => k_is)
    (case c_times => k_is)
    (case k_times => k_is)
    (case a_over => k_is)
    (case l_over => k_is)
    (case c_over => k_is)
    (case k_over => k_is)
    (case a_below => k_is)
    (case l_below => k_is)
    (case c_below => k_is)
    (case k_below => k_is)
    (case a_measures => k_is)
    (case l_measures => k_is)
    (case c_measures => k_is)
    (case k_measures => k_is)
    (case a_strength => k_is)
    (case l_strength => k_is)
    (case c_strength => k_is)
    (case k_strength => k_is)
    (case a_shares_of => k_is)
    (case l_shares_of => k_is)
    (case c_shares_of => k_is)
    (case k_shares_of => k_is)
    (case a_share_of => k_is)
    (case l_share_of => k_is)
    (case c_share_of => k_is)
    (case k_share_of => k_is)
    (case a_parts_of => k_is)
    (case l_parts_of => k_is)
    (case c_parts_of => k_is)
    (case k_parts_of => k_is)
    (case a_run => k_is)
    (case l_run => k_is)
    (case c_run => k_is)
    (case k_run => k_is)
    (case a_rows_of => k_is)
    (case l_rows_of => k_is)
    (case c_rows_of => k_is)
    (case k_rows_of => k_is)
    (case a_check_strengths => k_is)
    (case l_check_strengths => k_is)
    (case c_check_strengths => k_is)
    (case k_check_strengths => k_is)
    (case a_first_no_stronger => k_is)
    (case l_first_no_stronger => k_is)
    (case c_first_no_stronger => k_is)
    (case k_first_no_stronger => k_is)
    (case a_first_weaker => k_is)
    (case l_first_weaker => k_is)
    (case c_first_weaker => k_is)
    (case k_first_weaker => k_is)
    (case a_cut_by => k_is)
    (case l_cut_by => k_is)
    (case c_cut_by => k_is)
    (case k_cut_by => k_is)
    (case a__law_take => k_is)
    (case l__law_take => k_is)
    (case c__law_take => k_is)
    (case k__law_take => k_is)
    (case a__law_low => k_is)
    (case l__law_low => k_is)
    (case c__law_low => k_is)
    (case k__law_low => k_is)
    (case a__law_cell => k_is)
    (case l__law_cell => k_is)
    (case c__law_cell => k_is)
    (case k__law_cell => k_is)
    (case a__law_purse => k_is)
    (case l__law_purse => k_is)
    (case c__law_purse => k_is)
    (case k__law_purse => k_is)
    (case a__law_add => k_is)
    (case l__law_add => k_is)
    (case c__law_add => k_is)
    (case k__law_add => k_is)
    (case a__law_mul => k_is)
    (case l__law_mul => k_is)
    (case c__law_mul => k_is)
    (case k__law_mul => k_is)
    (case a__law_of => k_is)
    (case l__law_of => k_is)
    (case c__law_of => k_is)
    (case k__law_of => k_is)
    (case a__law_less => k_is)
    (case l__law_less => k_is)
    (case c__law_less => k_is)
    (case k__law_less => k_is)
    (case a__law_all => k_is)
    (case l__law_all => k_is)
    (case c__law_all => k_is)
    (case k__law_all => k_is)
    (case a__law_both => k_is)
    (case l__law_both => k_is)
    (case c__law_both => k_is)
    (case k__law_both => k_is)
    (case a__law_heap => k_is)
    (case l__law_heap => k_is)
    (case c__law_heap => k_is)
    (case k__law_heap => k_is)
    (case a__law_tenths => k_is)
    (case l__law_tenths => k_is)
    (case c__law_tenths => k_is)
    (case k__law_tenths => k_is)
    (case a__law_still => k_is)
    (case l__law_still => k_is)
    (case c__law_still => k_is)
    (case k__law_still => k_is)
    (case a__law_cut => k_is)
    (case l__law_cut => k_is)
    (case c__law_cut => k_is)
    (case k__law_cut => k_is)
    (case a__law_liquor => k_is)
    (case l__law_liquor => k_is)
    (case c__law_liquor => k_is)
    (case k__law_liquor => k_is)
    (case a__law_charge => k_is)
    (case l__law_charge => k_is)
    (case c__law_charge => k_is)
    (case k__law_charge => k_is)
    (case a__law_just => k_is)
    (case l__law_just => k_is)
    (case c__law_just => k_is)
    (case k__law_just => k_is)
    (case a__law_rows => k_is)
    (case l__law_rows => k_is)
    (case c__law_rows => k_is)
    (case k__law_rows => k_is)
    (case a__law_strong => k_is)
    (case l__law_strong => k_is)
    (case c__law_strong => k_is)
    (case k__law_strong => k_is)
    (case a__law_two => k_is)
    (case l__law_two => k_is)
    (case c__law_two => k_is)
    (case k__law_two => k_is)
    (case a__law_falling => k_is)
    (case l__law_falling => k_is)
    (case c__law_falling => k_is)
    (case k__law_falling => k_is)
    (case a__law_linear => k_is)
    (case l__law_linear => k_is)
    (case c__law_linear => k_is)
    (case k__law_linear => k_is)
    (case a__law_falls_right => k_is)
    (case l__law_falls_right => k_is)
    (case c__law_falls_right => k_is)
    (case k__law_falls_right => k_is)
    (case a__law_right => k_is)
    (case l__law_right => k_is)
    (case c__law_right => k_is)
    (case k__law_right => k_is)
    (case a_law => k_is)
    (case l_law => k_is)
    (case c_law => k_is)
    (case k_law => k_is)
    (case z_abs => k_is)
    (case z_all => k_is)
    (case z_any => k_is)
    (case z_bool => k_is)
    (case z_dict => k_is)
    (case z_enumerate => k_is)
    (case z_int => k_is)
    (case z_isinstance => k_is)
    (case z_len => k_is)
    (case z_list => k_is)
    (case z_max => k_is)
    (case z_min => k_is)
    (case z_range => k_is)
    (case z_repr => k_is)
    (case z_sorted => k_is)
    (case z_str => k_is)
    (case z_sum => k_is)
    (case z_tuple => k_is)
    (case z_zip => k_is)
    (case z_ValueError => k_is)
    (case g_tree => rfl)
    (case g_tenths => rfl)
    (case h_tenths => kernel_rfl)
    (case g_are_rows => rfl)
    (case h_are_rows => kernel_rfl)
    (case g_parts_of => rfl)
    (case h_parts_of => kernel_rfl)
    (case g_rows_of => rfl)
    (case h_rows_of => kernel_rfl)
    (case aS => k_is)
    (case eS => k_exc)
    (case bS => k_is)
    (case cS => k_is)
    (case tS => k_is)
    (case aC0 => k_is)
    (case cC0 => k_is)
    (case tC0 => k_is)
    (case aC1 => k_is)
    (case cC1 => k_is)
    (case tC1 => k_is)
    (case aC2 => k_is)
    (case cC2 => k_is)
    (case tC2 => k_is)
    (case aC3 => k_is)
    (case cC3 => k_is)
    (case tC3 => k_is)
    (case aC9 => k_is)
    (case cC9 => k_is)
    (case tC9 => k_is)
    (case eC0 => k_exc)
    (case eC1 => k_exc)
    (case eC2 => k_exc))
