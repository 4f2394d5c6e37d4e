import PyProof.Rows.All
import Wide.All
import OpenK.AllK
import Wide.FinOn
import Lean
import PyProof.EqAt
import PyProof.EqKinds
import PyProof.TupleCall
import KE.KTryMore
import PyProof.NeData
import PySem.Challenge.RW_shelfbook_k03_whole_pieces
set_option Elab.async false
set_option linter.all false
set_option maxRecDepth 100000
namespace L2
open PySem PySem.Spec PyProof.Rows

/-- a key: an int or a str -/
abbrev Key := Sum Int Str
def keyIs : Key → Value → Bool
  | .inl k, v => Value.isInt k v
  | .inr x, v => Value.isStrOf x v
def keyH (w : World) : Key → Int
  | .inl k => hashInt k
  | .inr x => hashStr w x
theorem keyIs_shape : ∀ {k : Key} {v : Value}, keyIs k v = true → (∃ i t, k = Sum.inl i ∧ v = Value.int i t) ∨ (∃ x t, k = Sum.inr x ∧ v = Value.str x t)
  | .inl i, v, h => by
    obtain ⟨t, e⟩ := Value.isInt_shape (k := i) (v := v) h
    exact .inl ⟨i, t, rfl, e⟩
  | .inr x, v, h => by
    obtain ⟨t, e⟩ := Value.isStrOf_shape (x := x) (v := v) h
    exact .inr ⟨x, t, rfl, e⟩
theorem keyIs_int (i : Int) (t : Tok) : keyIs (.inl i) (.int i t) = true := by simp [keyIs, Value.isInt]
theorem keyIs_str (x : Str) (t : Tok) : keyIs (.inr x) (.str x t) = true := by simp [keyIs, Value.isStrOf]
theorem key_ll (a b : Int) : decide ((Sum.inl a : Key) = Sum.inl b) = (a == b) := by
  by_cases e : a = b
  · subst e; simp
  · have h : ¬ (Sum.inl a : Key) = Sum.inl b := fun q => e (Sum.inl.inj q)
    rw [decide_eq_false h]
    exact (beq_eq_false_iff_ne.mpr e).symm
theorem key_rr (a b : Str) : decide ((Sum.inr a : Key) = Sum.inr b) = decide (a = b) := by
  by_cases e : a = b
  · subst e; simp
  · have h : ¬ (Sum.inr a : Key) = Sum.inr b := fun q => e (Sum.inr.inj q)
    rw [decide_eq_false h, decide_eq_false e]
theorem key_lr (a : Int) (b : Str) : decide ((Sum.inl a : Key) = Sum.inr b) = false := decide_eq_false (fun q => nomatch q)
theorem key_rl (a : Str) (b : Int) : decide ((Sum.inr a : Key) = Sum.inl b) = false := decide_eq_false (fun q => nomatch q)

def mixKind (prog : Program) (w : World) : PySem.KeyKind prog w Key where
  is := keyIs
  hash := keyH w
  inj := fun v a b ha hb => by
    rcases keyIs_shape ha with ⟨i, t, rfl, rfl⟩ | ⟨x, t, rfl, rfl⟩
    · rcases keyIs_shape hb with ⟨j, u, rfl, e⟩ | ⟨y, u, rfl, e⟩
      · injection e with e1 _; rw [e1]
      · exact nomatch e
    · rcases keyIs_shape hb with ⟨j, u, rfl, e⟩ | ⟨y, u, rfl, e⟩
      · exact nomatch e
      · injection e with e1 _; rw [e1]
  byValue := fun k v h => by
    rcases keyIs_shape h with ⟨i, t, rfl, rfl⟩ | ⟨x, t, rfl, rfl⟩ <;> rfl
  pyHash := fun hv h => by
    rcases keyIs_shape hv with ⟨i, t, rfl, rfl⟩ | ⟨x, t, rfl, rfl⟩
    · exact wpAny_pyHash_int h
    · exact wpAny_pyHash_str h
  eqBool := fun hu hv h => by
    rcases keyIs_shape hu with ⟨i, t, rfl, rfl⟩ | ⟨x, t, rfl, rfl⟩
    · rcases keyIs_shape hv with ⟨j, u, rfl, rfl⟩ | ⟨y, u, rfl, rfl⟩
      · rw [key_ll] at h; exact wpAny_eqBool_int h
      · rw [key_lr] at h; exact SeqAt.EqAt.int_str i t y u _ _ _ _ h
    · rcases keyIs_shape hv with ⟨j, u, rfl, rfl⟩ | ⟨y, u, rfl, rfl⟩
      · rw [key_rl] at h; exact SeqAt.EqAt.str_int x t j u _ _ _ _ h
      · rw [key_rr] at h; exact wpAny_eqBool_str h
  «strs» := fun k x t v h => by
    rcases keyIs_shape h with ⟨i, u, rfl, e⟩ | ⟨y, u, rfl, e⟩
    · exact nomatch e
    · injection e with e1 _
      subst e1
      cases v <;> rfl

theorem mixKind_int (prog : Program) (w : World) (i : Int) (t : Tok) : (mixKind prog w).is (.inl i) (.int i t) = true := keyIs_int i t
theorem mixKind_str (prog : Program) (w : World) (x : Str) (t : Tok) : (mixKind prog w).is (.inr x) (.str x t) = true := keyIs_str x t
end L2

namespace L2
open PySem PySem.Spec PyProof.Rows

/-- a value, without the heap -/
inductive V where
  | non | bl (b : Bool) | int (i : Int) | str (x : Str) | byt (b : Array UInt8) | flt (b : UInt64) | ref (a : Addr) | ty (n : String)
  deriving DecidableEq

def RelV : V → Value → Prop
  | .non, u => u = Value.none
  | .bl b, u => u = Value.bool b
  | .int i, u => ∃ t, u = Value.int i t
  | .str x, u => ∃ t, u = Value.str x t
  | .byt b, u => ∃ t, u = Value.bytes b t
  | .flt b, u => ∃ t, u = Value.float b t
  | .ref a, u => u = Value.ref a
  | .ty n, u => u = Value.type n

abbrev Vals : List V → List Value → Prop := Paired RelV
theorem Vals.length {xs : List V} {us : List Value} (r : Vals xs us) : xs.length = us.length := Paired.length r
theorem Vals.get : ∀ {xs : List V} {us : List Value} {i : Nat} {x : V}, Vals xs us → xs[i]? = some x → ∃ u, us[i]? = some u ∧ RelV x u
  | _, _, _, _, .nil, e => by simp at e
  | _, _, 0, _, .cons r _, e => by simp at e; subst e; exact ⟨_, rfl, r⟩
  | _, _, i + 1, x, .cons _ t, e => by
    obtain ⟨u, h1, h2⟩ := Vals.get (i := i) (x := x) t (by simpa using e)
    exact ⟨u, by simpa using h1, h2⟩
theorem Vals.set {x : V} {u : Value} (r : RelV x u) : ∀ {xs : List V} {us : List Value} (i : Nat), Vals xs us → Vals (xs.set i x) (us.set i u)
  | _, _, _, .nil => .nil
  | _, _, 0, .cons _ t => .cons r t
  | _, _, i + 1, .cons q t => .cons q (Vals.set r i t)
theorem Vals.append : ∀ {xs ys : List V} {us ws : List Value}, Vals xs us → Vals ys ws → Vals (xs ++ ys) (us ++ ws)
  | _, _, _, _, .nil, s => s
  | _, _, _, _, .cons r t, s => .cons r (Vals.append t s)
theorem Vals.take : ∀ {xs : List V} {us : List Value} (n : Nat), Vals xs us → Vals (xs.take n) (us.take n)
  | _, _, 0, _ => .nil
  | _, _, _ + 1, .nil => .nil
  | _, _, n + 1, .cons r t => .cons r (Vals.take n t)
theorem Vals.drop : ∀ {xs : List V} {us : List Value} (n : Nat), Vals xs us → Vals (xs.drop n) (us.drop n)
  | _, _, 0, r => r
  | _, _, _ + 1, .nil => .nil
  | _, _, n + 1, .cons _ t => Vals.drop n t
theorem Vals.none_of : ∀ {xs : List V} {us : List Value} {i : Nat}, Vals xs us → xs[i]? = none → us[i]? = none := fun {xs us i} r e => by
  have h1 := r.length
  have h2 : xs.length ≤ i := List.getElem?_eq_none_iff.mp e
  exact List.getElem?_eq_none_iff.mpr (by omega)

def RelO : Option V → Option Value → Prop
  | some v, some u => RelV v u
  | none, none => True
  | _, _ => False
def KV {κ : Type} : List (κ × V) → List (κ × Value) → Prop := Paired fun (p : κ × V) (q : κ × Value) => p.1 = q.1 ∧ RelV p.2 q.2

/-- a key of a dict (00_mix): an int or a text -/
def kV : Key → V
  | .inl i => .int i
  | .inr x => .str x

/-- what stands at a tracked address -/
inductive HO where
  /-- a list -/
  | lst (xs : List V)
  /-- a tuple (never changes) -/
  | tup (xs : List V)
  /-- a dict whose keys are ints and texts; one whose keys are tuples of ints and texts (the empty one is both) -/
  | dK (kvs : List (Key × V)) | dT (kvs : List (List Key × V))
  /-- a set of ints: its members, its size -/
  | set (S : Int → Bool) (n : Nat)
  /-- an instance of the class at C, its dict at dx, its attributes -/
  | ins (C dx : Addr) (fs : List (Str × V))
  /-- the dict of the instance at x -/
  | own (x : Addr)
  /-- the dict of an exception -/
  | xd (fs : List (Str × V))
  /-- a bound method, f of x -/
  | met (f x : Addr)
  /-- a range object lo, lo + 1, .. below hi -/
  | rng (lo hi : Int)
  /-- a thing that is known to the object (the script; a dict while a loop walks it): read, never written while it is so -/
  | frz (o : Obj) (u : HO)
  /-- a code object's table -/
  | tbl (ps : Array Value)
  /-- any other thing, by what is true of its one object (a def of one's own: SetO a S n := HO.ext fun h => ..) -/
  | ext (φ : Heap → Prop)

abbrev Hp := Addr → Option HO
def upd (H : Hp) (a : Addr) (o : HO) : Hp := fun b => if b = a then some o else H b
theorem upd_same {H : Hp} {a : Addr} {o : HO} : upd H a o a = some o := by unfold upd; rw [if_pos rfl]
theorem upd_ne {H : Hp} {a b : Addr} {o : HO} (h : b ≠ a) : upd H a o b = H b := by unfold upd; rw [if_neg h]
theorem upd_upd {H : Hp} {a : Addr} {o u : HO} : upd (upd H a o) a u = upd H a u := by
  funext b; unfold upd; split <;> rfl
/-- two objects of different content stand apart -/
theorem ne_of {H : Hp} {a b : Addr} {o u : HO} (h : H a = some o) (h' : H b = some u) (d : o ≠ u) : a ≠ b := by
  intro e; subst e; rw [h] at h'; exact d (Option.some.inj h')
theorem ne_of_none {H : Hp} {a b : Addr} {o : HO} (h : H a = some o) (h' : H b = none) : a ≠ b := by
  intro e; subst e; rw [h] at h'; cases h'

section
variable (P : Program) (w : World)
def ObjOk (H : Hp) (h : Heap) (a : Addr) : HO → Prop
  | .lst xs => xs.length ≤ sizeLine ∧ ∃ (its : List Value) (n : Nat), Vals xs its ∧ h.get? a = some { cls := .type "list", data := .seq its.toArray n }
  | .tup xs => xs.length ≤ sizeLine ∧ ∃ its : List Value, Vals xs its ∧ IsTup h a its.toArray
  | .dK kvs => kvs.length ≤ sizeLine ∧ (a == sysModules) = false ∧ ∃ vs, KV kvs vs ∧ h.DictOf (mixKind P w) a vs
  | .dT kvs => kvs.length ≤ sizeLine ∧ (a == sysModules) = false ∧ ∃ xs : List (List Key × Addr × Value),
      Paired (fun (p : List Key × V) (q : List Key × Addr × Value) => p.1 = q.1 ∧ H q.2.1 = some (.tup (p.1.map kV)) ∧ RelV p.2 q.2.2) kvs xs ∧
      ∃ o es ep, h.get? a = some o ∧ o.ExactDict ∧ o.data = .dict es ep ∧ es.toList = xs.map (entryOfKey (tupleKind (mixKind P w))) ∧ (xs.map (·.1)).Nodup
  | .set S n => h.SetOf (intKind P w) a S n
  | .ins C dx fs => H dx = some (.own a) ∧ fs.length ≤ 1000 ∧ dx ≠ a ∧ h.get? a = some (PySem.W.instObj C dx) ∧
      ∃ mA, h.Ns1 dx mA ∧ (∀ f, RelO (fs.lookup f) (mA f)) ∧ PySem.Within mA (fs.map (·.1))
  | .own _ => ∃ o, h.get? a = some o
  | .xd fs => ∃ mA, h.Ns1 a mA ∧ ∀ f, RelO (fs.lookup f) (mA f)
  | .rng lo hi => ∃ t u v, h.get? a = some { cls := .type "range", data := .fields #[.int lo t, .int hi u, .int 1 v] }
  | .frz o u => h.get? a = some o ∧ ObjOk H h a u
  | .tbl ps => h.get? a = some { cls := .none, data := .fields ps }
  | .met f x => h.get? a = some (PySem.W.methodObj (.ref f) (.ref x))
  | .ext φ => φ h ∧ (∃ o, h.get? a = some o) ∧ ∀ h1 h2 : Heap, φ h1 → (∀ o, h1.get? a = some o → h2.get? a = some o) → φ h2
/-- the abstract heap is held -/
def HOk (H : Hp) (h : Heap) : Prop := ∀ a o, H a = some o → ObjOk P w H h a o
end

section
variable {P : Program} {w : World} {H H' : Hp} {h h' : Heap} {a : Addr} {o : HO}
theorem ObjOk.lt (x : ObjOk P w H h a o) : a < h.objs.size := by
  cases o with
  | lst xs => obtain ⟨_, _, _, _, e⟩ := x; exact Heap.lt_size e
  | tup xs => obtain ⟨_, _, _, p⟩ := x; exact p.lt
  | dK kvs => obtain ⟨_, _, _, _, o, _, _, e, _⟩ := x; exact Heap.lt_size e
  | dT kvs => obtain ⟨_, _, _, _, o, _, _, e, _⟩ := x; exact Heap.lt_size e
  | set S n => obtain ⟨o, _, _, _, e, _⟩ := x; exact Heap.lt_size e
  | ins C dx fs => obtain ⟨_, _, _, e, _⟩ := x; exact Heap.lt_size e
  | own y => obtain ⟨_, e⟩ := x; exact Heap.lt_size e
  | xd fs => obtain ⟨_, ⟨_, _, _, e, _⟩, _⟩ := x; exact Heap.lt_size e
  | rng lo hi => obtain ⟨_, _, _, e⟩ := x; exact Heap.lt_size e
  | frz ob u => obtain ⟨e, _⟩ := x; exact Heap.lt_size e
  | tbl ps => exact Heap.lt_size (show h.get? a = some _ from x)
  | met f y => exact Heap.lt_size (show h.get? a = some _ from x)
  | ext φ => obtain ⟨_, ⟨_, e⟩, _⟩ := x; exact Heap.lt_size e
theorem Paired.mapP {α β : Type} {F G : α → β → Prop} : ∀ {l₁ : List α} {l₂ : List β}, Paired F l₁ l₂ → (∀ a b, F a b → G a b) → Paired G l₁ l₂
  | _, _, .nil, _ => .nil
  | _, _, .cons r t, f => .cons (f _ _ r) (Paired.mapP t f)
/-- what an object's description leans on: its own object, its own dict, the tuples -/
theorem ObjOk.stay (x : ObjOk P w H h a o) (k : ∀ b u, (b = a ∨ H b = some (.own a)) → h.get? b = some u → h'.get? b = some u)
    (ho : ∀ b, H b = some (.own a) → H' b = some (.own a)) (ht : ∀ b xs, H b = some (.tup xs) → H' b = some (.tup xs)) : ObjOk P w H' h' a o := by
  induction o with
  | lst xs => obtain ⟨z, its, n, r, e⟩ := x; exact ⟨z, its, n, r, k _ _ (.inl rfl) e⟩
  | tup xs => obtain ⟨z, its, r, ob, e, c⟩ := x; exact ⟨z, its, r, ob, k _ _ (.inl rfl) e, c⟩
  | dK kvs => obtain ⟨z, y, vs, r, ob, es, ep, e, c⟩ := x; exact ⟨z, y, vs, r, ob, es, ep, k _ _ (.inl rfl) e, c⟩
  | dT kvs =>
    obtain ⟨z, y, xs, r, ob, es, ep, e, c⟩ := x
    exact ⟨z, y, xs, Paired.mapP r fun p q z => ⟨z.1, ht _ _ z.2.1, z.2.2⟩, ob, es, ep, k _ _ (.inl rfl) e, c⟩
  | set S n => obtain ⟨ob, es, ep, t, e, c⟩ := x; exact ⟨ob, es, ep, t, k _ _ (.inl rfl) e, c⟩
  | ins C dx fs =>
    obtain ⟨d, z, ne, e, mA, ⟨od, es, ep, e2, c⟩, r⟩ := x
    exact ⟨ho _ d, z, ne, k _ _ (.inl rfl) e, mA, ⟨od, es, ep, k _ _ (.inr d) e2, c⟩, r⟩
  | own y => obtain ⟨ob, e⟩ := x; exact ⟨ob, k _ _ (.inl rfl) e⟩
  | xd fs => obtain ⟨mA, ⟨od, es, ep, e, c⟩, r⟩ := x; exact ⟨mA, ⟨od, es, ep, k _ _ (.inl rfl) e, c⟩, r⟩
  | rng lo hi => obtain ⟨t, u, v, e⟩ := x; exact ⟨t, u, v, k _ _ (.inl rfl) e⟩
  | frz ob u ih => obtain ⟨e, q⟩ := x; exact ⟨k _ _ (.inl rfl) e, ih q⟩
  | tbl ps =>
    have e : h.get? a = some { cls := .none, data := .fields ps } := x
    show h'.get? a = some { cls := .none, data := .fields ps }
    exact k a _ (.inl rfl) e
  | met f y =>
    have e : h.get? a = some (PySem.W.methodObj (.ref f) (.ref y)) := x
    show h'.get? a = some (PySem.W.methodObj (.ref f) (.ref y))
    exact k a _ (.inl rfl) e
  | ext φ => obtain ⟨p, ⟨o, e⟩, st⟩ := x; exact ⟨st _ _ p fun o q => k _ _ (.inl rfl) q, ⟨o, k _ _ (.inl rfl) e⟩, st⟩
theorem HOk.lt (x : HOk P w H h) (e : H a = some o) : a < h.objs.size := (x a o e).lt
theorem HOk.fresh (x : HOk P w H h) (e : h.objs.size ≤ a) : H a = none := by
  cases q : H a with
  | none => rfl
  | some u => exact absurd (Nat.lt_of_lt_of_le (x.lt q) e) (Nat.lt_irrefl _)
/-- every object of the heap is kept -/
theorem HOk.kept (x : HOk P w H h) (k : ∀ b u, h.get? b = some u → h'.get? b = some u) : HOk P w H h' := fun a o e =>
  (x a o e).stay (fun b u _ q => k b u q) (fun _ q => q) fun _ _ q => q
/-- a new object is laid and tracked -/
theorem HOk.laid (x : HOk P w H h) (k : ∀ b u, h.get? b = some u → h'.get? b = some u) (hp : h.objs.size ≤ a) (new : ObjOk P w (upd H a o) h' a o) : HOk P w (upd H a o) h' := fun b u e => by
  have hn := x.fresh hp
  by_cases hb : b = a
  · subst hb; rw [upd_same] at e; cases e; exact new
  · rw [upd_ne hb] at e
    exact (x b u e).stay (fun c v _ q => k c v q) (fun c q => by rw [upd_ne (ne_of_none q hn)]; exact q) fun c xs q => by rw [upd_ne (ne_of_none q hn)]; exact q
end

/-- what may be read as u: it is u, or a known u -/
def Rd (H : Hp) (a : Addr) (u : HO) : Prop := H a = some u ∨ ∃ o, H a = some (.frz o u)
theorem Rd.of {H : Hp} {a : Addr} {u : HO} (h : H a = some u) : Rd H a u := .inl h
theorem Rd.ok {P : Program} {w : World} {H : Hp} {h : Heap} {a : Addr} {u : HO} (r : Rd H a u) (x : HOk P w H h) : ObjOk P w H h a u := by
  rcases r with r | ⟨o, r⟩
  · exact x a u r
  · obtain ⟨_, q⟩ := x a _ r
    exact q
/-- what may be written -/
def Mut : Option HO → Prop
  | some (.lst _) => True
  | some (.dK _) => True
  | some (.dT _) => True
  | some (.set _ _) => True
  | some (.ins _ _ _) => True
  | some (.ext _) => True
  | _ => False
section
variable {P : Program} {w : World} {H : Hp} {h h' : Heap} {x e : Addr} {o' : HO}
/-- the object at e is changed: x itself, or the dict of the instance x -/
theorem HOk.write (ok : HOk P w H h) (mu : Mut (H x)) (he : e = x ∨ H e = some (.own x)) (k : ∀ b u, b ≠ e → h.get? b = some u → h'.get? b = some u) (heo : ∃ u, h'.get? e = some u)
    (new : ObjOk P w (upd H x o') h' x o') : HOk P w (upd H x o') h' := fun b u q => by
  have nown : ∀ c y, H c = some (.own y) → c ≠ x := fun c y r z => by subst z; rw [r] at mu; exact mu
  have ntup : ∀ c xs, H c = some (.tup xs) → c ≠ x := fun c xs r z => by subst z; rw [r] at mu; exact mu
  by_cases hb : b = x
  · subst hb; rw [upd_same] at q; cases q; exact new
  · rw [upd_ne hb] at q
    by_cases hbe : b = e
    · have q' : H b = some (.own x) := by
        rcases he with z | z
        · exact absurd (hbe.trans z) hb
        · rw [hbe]; exact z
      rw [q] at q'; cases q'
      obtain ⟨v, hv⟩ := heo
      exact ⟨v, by rw [hbe]; exact hv⟩
    · refine (ok b u q).stay (fun c v hc r => k c v ?_ r) (fun c r => by rw [upd_ne (nown c b r)]; exact r) fun c xs r => by rw [upd_ne (ntup c xs r)]; exact r
      rcases hc with rfl | hc
      · exact hbe
      · rintro rfl
        rcases he with z | z
        · exact nown c b hc z
        · rw [hc] at z; cases z; exact hb rfl
end

/-! ### kept unless tracked; of the frames at fs (the callers') the slots may change (an exception that passes writes there); of the records at ex (iterators) nothing is said -/
structure Un (fs ex : List Addr) (H H' : Hp) (h h' : Heap) : Prop where
  keep : ∀ b o, h.get? b = some o → H b = none → b ∉ fs → b ∉ ex → h'.get? b = some o
  slot : ∀ b o, h.get? b = some o → H b = none → b ∈ fs → b ∉ ex → ∃ sl, h'.get? b = some { o with slots := sl }
  free : ∀ b o, h.get? b = some o → H b = none → b ∉ ex → H' b = none
  there : ∀ b o, h.get? b = some o → b ∉ ex → ∃ o', h'.get? b = some o'
  tups : ∀ b xs, H b = some (.tup xs) → H' b = some (.tup xs)
  frzs : ∀ b o u, H b = some (.frz o u) → H' b = some (.frz o u)
  tbls : ∀ b ps, H b = some (.tbl ps) → ∃ more, H' b = some (.tbl (ps ++ more))
section
variable {fs fs' ex ex' : List Addr} {H H1 H2 : Hp} {h h1 h2 h' : Heap} {a x e : Addr} {o : HO}
theorem Un.any (u : Un fs ex H H1 h h1) {b : Addr} {ob : Obj} (q : h.get? b = some ob) (n : H b = none) (hx : b ∉ ex) : ∃ sl, h1.get? b = some { ob with slots := sl } := by
  by_cases hb : b ∈ fs
  · exact u.slot b ob q n hb hx
  · exact ⟨ob.slots, u.keep b ob q n hb hx⟩
theorem Un.trans (a : Un fs ex H H1 h h1) (b : Un fs ex H1 H2 h1 h2) : Un fs ex H H2 h h2 where
  keep := fun c ob q n hc hx => b.keep c ob (a.keep c ob q n hc hx) (a.free c ob q n hx) hc hx
  slot := fun c ob q n hc hx => by
    obtain ⟨sl, e1⟩ := a.slot c ob q n hc hx
    obtain ⟨sl', e2⟩ := b.slot c _ e1 (a.free c ob q n hx) hc hx
    exact ⟨sl', e2⟩
  free := fun c ob q n hx => by
    obtain ⟨o', e1⟩ := a.there c ob q hx
    exact b.free c o' e1 (a.free c ob q n hx) hx
  there := fun c ob q hx => by
    obtain ⟨o', e1⟩ := a.there c ob q hx
    exact b.there c o' e1 hx
  tups := fun c xs q => b.tups c xs (a.tups c xs q)
  frzs := fun c ob xs q => b.frzs c ob xs (a.frzs c ob xs q)
  tbls := fun c ps q => by
    obtain ⟨m1, e1⟩ := a.tbls c ps q
    obtain ⟨m2, e2⟩ := b.tbls c _ e1
    exact ⟨m1 ++ m2, by rw [e2, Array.append_assoc]⟩
theorem Un.kept (k : ∀ b u, h.get? b = some u → h'.get? b = some u) : Un fs ex H H h h' :=
  ⟨fun b ob q _ _ _ => k b ob q, fun b ob q _ _ _ => ⟨ob.slots, k b ob q⟩, fun _ _ _ n _ => n, fun b ob q _ => ⟨ob, k b ob q⟩, fun _ _ q => q, fun _ _ _ q => q, fun _ ps q => ⟨#[], by rw [q]; simp⟩⟩
theorem Un.refl : Un fs ex H H h h := Un.kept fun _ _ q => q
theorem Un.laid (k : ∀ b u, h.get? b = some u → h'.get? b = some u) (hp : h.objs.size ≤ a) (hn : H a = none) : Un fs ex H (upd H a o) h h' where
  keep := fun b u q _ _ _ => k b u q
  slot := fun b u q _ _ _ => ⟨u.slots, k b u q⟩
  free := fun b u q n _ => by rw [upd_ne (Nat.ne_of_lt (Nat.lt_of_lt_of_le (Heap.lt_size q) hp))]; exact n
  there := fun b u q _ => ⟨u, k b u q⟩
  tups := fun b xs q => by rw [upd_ne (ne_of_none q hn)]; exact q
  frzs := fun b u xs q => by rw [upd_ne (ne_of_none q hn)]; exact q
  tbls := fun b ps q => ⟨#[], by rw [upd_ne (ne_of_none q hn), q]; simp⟩
theorem Un.write (mu : Mut (H x)) (he : e = x ∨ H e = some (.own x)) (k : ∀ b u, b ≠ e → h.get? b = some u → h'.get? b = some u) (heo : ∃ u, h'.get? e = some u) : Un fs ex H (upd H x o) h h' := by
  have hx : ∀ b, H b = none → b ≠ x := fun b n z => by subst z; rw [n] at mu; exact mu
  have hb : ∀ b, H b = none → b ≠ e := fun b n z => by
    subst z
    rcases he with r | r
    · exact hx b n r
    · rw [n] at r; cases r
  have hm : ∀ b u, H b = some u → ¬ Mut (some u) → b ≠ x := fun b u q nm z => by subst z; rw [q] at mu; exact nm mu
  refine ⟨fun b u q n _ _ => k b u (hb b n) q, fun b u q n _ _ => ⟨u.slots, k b u (hb b n) q⟩, fun b u q n _ => by rw [upd_ne (hx b n)]; exact n, fun b u q _ => ?_,
    fun b xs q => by rw [upd_ne (hm b _ q fun z => z)]; exact q, fun b u xs q => by rw [upd_ne (hm b _ q fun z => z)]; exact q, fun b ps q => ⟨#[], by rw [upd_ne (hm b _ q fun z => z), q]; simp⟩⟩
  by_cases hbe : b = e
  · subst hbe; exact heo
  · exact ⟨u, k b u hbe q⟩
theorem Un.mono (u : Un fs ex H H1 h h1) (hs : ∀ b ∈ fs, b ∈ fs') (hx : ∀ b ∈ ex, b ∈ ex') : Un fs' ex' H H1 h h1 :=
  ⟨fun b ob q n hb he => u.keep b ob q n (fun z => hb (hs b z)) fun z => he (hx b z), fun _ _ q n _ he => u.any q n fun z => he (hx _ z), fun b ob q n he => u.free b ob q n fun z => he (hx b z), fun b ob q he => u.there b ob q fun z => he (hx b z), u.tups, u.frzs, u.tbls⟩
end

/-! ### the heap without what is tracked -/
def trk (h : Heap) (H : Hp) : List Addr := (List.range h.objs.size).filter fun a => (H a).isSome
def hidT (h : Heap) (H : Hp) : Heap := PySem.W.hideAll h (trk h H)
theorem hidT_size (h : Heap) (H : Hp) : (hidT h H).objs.size = h.objs.size := PySem.W.hideAll_size _ _
theorem hidT_get {h : Heap} {H : Hp} {b : Addr} {o : Obj} (e : h.get? b = some o) (n : H b = none) : (hidT h H).get? b = some o :=
  PySem.W.hideAll_get _ e fun hm => by
    have q : (H b).isSome = true := (List.mem_filter.mp hm).2
    rw [n] at q; simp at q
theorem of_hidT {h : Heap} {H : Hp} {b : Addr} {o : Obj} (e : (hidT h H).get? b = some o) : h.get? b = some o ∧ H b = none := by
  have e' : h.get? b = some o := PySem.W.of_hideAll (trk h H) e
  refine ⟨e', ?_⟩
  cases q : H b with
  | none => rfl
  | some x =>
    have hm : b ∈ trk h H := List.mem_filter.mpr ⟨List.mem_range.mpr (Heap.lt_size e'), by simp [q]⟩
    have z : (hidT h H).get? b = none := PySem.W.hideAll_none (trk h H) hm
    rw [z] at e; cases e

/-! ### OpenK's ledger, filled with every new object but one -/
def allNews (g h : Heap) (L : Addr) : List (Addr × Obj) := (List.range h.objs.size).filterMap fun a => if a = L ∨ (g.get? a).isSome = true then none else (h.get? a).map fun o => (a, o)
def rest (g h : Heap) (L d : Addr) : List (Addr × Obj) := (allNews g h L).filter fun p => decide (p.1 ≠ d)
end L2

namespace L2
open PySem PySem.Spec PyProof.Rows

/-- the module's facts, over the base: the heap at the law's entry without what is tracked there -/
structure Mod (K : PySem.W.Frag) (mg : Str → Option Value) (base : Heap) : Prop where
  kin : K.In base
  glob : base.Ns mainGlobals mg
  blt : ∃ mb, base.Ns builtinsNs mb ∧ ∀ x : Str, x ≠ "__name__" → mb x = bootBuiltins x
  nolimit : base.NoLimit

/-- the context: a def's body (or a comprehension's block) running. base: fixed through the whole law; s₀, H₀: the entry; outer: the frames whose slots others may change (a def's callers); stack: all frames that run;
   ex: iterators that were made ahead of the entry and are walked here (a comprehension's); fn: the names whose cells were made at the entry (a def: all; a comprehension's block: its own); calm: not within an except suite; pn: pins that every state bears; xe: what is wanted of an exception that leaves the code -/
structure Cx where
  prog : Program
  w : World
  K : PySem.W.Frag
  mg : Str → Option Value
  base : Heap
  A : Around
  N : List Str
  s₀ : Shared
  H₀ : Hp
  env : Env
  outer : List Env
  stack : List Env
  ex : List Addr
  fn : Str → Bool
  calm : Bool
  pn : List (Addr × Obj)
  xe : Value → Shared → Prop
/-- the callers' frames -/
def frs (l : List Env) : List Addr := l.filterMap (·.frame)
abbrev Cx.fs (X : Cx) : List Addr := frs X.outer

def Vis (sc : Scope) (x : Str) : Prop := sc.names.lookup x = some .local ∨ sc.names.lookup x = some .cell ∨ sc.names.lookup x = some .free
def Loc (sc : Scope) (x : Str) : Prop := sc.names.lookup x = some .local ∨ sc.names.lookup x = some .cell
def Look (env : Env) (h : Heap) (m : Str → Option Value) (x : Str) (u : Value) : Prop :=
  (env.kindOf x = some .local ∧ m x = some u) ∨ ((env.kindOf x = some .cell ∨ env.kindOf x = some .free) ∧ ∃ c, env.cells.lookup x = some c ∧ h.IsCell c (some u))

structure Cx.Ok (X : Cx) : Prop where
  mod : Mod X.K X.mg X.base
  kind : X.env.scope.kind = .function
  glob : X.env.globals = mainGlobals
  blt : X.env.builtins = builtinsNs
  above : X.s₀.heap.objs.size ≤ X.env.locals
  inj : ∀ x y c, X.env.cells.lookup x = some c → X.env.cells.lookup y = some c → x = y
  has : ∀ x, (X.env.kindOf x = some .cell ∨ X.env.kindOf x = some .free) → ∃ c, X.env.cells.lookup x = some c
  cab : ∀ x c, X.fn x = true → X.env.cells.lookup x = some c → X.s₀.heap.objs.size ≤ c
  hd : X.calm = true → X.A.handled = none
  frames : X.A.frames = some X.stack
  stk : X.stack = X.outer ∨ (X.stack = X.env :: X.outer ∧ X.env.frame = some X.env.locals)
  exf : ∀ b ∈ X.ex, b ≠ X.env.locals ∧ ∀ x c, X.env.cells.lookup x = some c → c ≠ b
  bs : ∀ b o, X.base.get? b = some o → X.s₀.heap.get? b = some o ∧ X.H₀ b = none
  bsz : X.base.objs.size ≤ X.s₀.heap.objs.size
  noex : ∀ b o, X.base.get? b = some o → b ∉ X.ex
  exfs : ∀ b ∈ X.ex, b ∉ X.fs
  funs : X.s₀.heap.FunFrames X.base X.outer
  frf : ∀ b ∈ X.fs, X.H₀ b = none

structure Inv (X : Cx) (pins : List (Addr × Obj)) (σ : List (Option V)) (H : Hp) (s : Shared) : Prop where
  ok : X.Ok
  os : s.os = X.s₀.os
  bare : AllBare s.gens
  base : Un X.fs X.ex X.H₀ H X.s₀.heap s.heap
  loc : ∃ m, s.heap.Ns X.env.locals m ∧ ∀ (i : Nat) (x : Str) (v : V), X.N[i]? = some x → σ[i]? = some (some v) → Vis X.env.scope x → ∃ u, RelV v u ∧ Look X.env s.heap m x u
  cell : ∀ x c, X.env.cells.lookup x = some c → ∃ v, s.heap.IsCell c v
  free : H X.env.locals = none
  freeC : ∀ x c, X.env.cells.lookup x = some c → H c = none
  pin : ∀ p ∈ X.pn ++ pins, s.heap.get? p.1 = some p.2 ∧ H p.1 = none ∧ p.1 ≠ X.env.locals ∧ p.1 ∉ X.fs ∧ ∀ v, p.2.data ≠ .cell v
  hok : HOk X.prog X.w H s.heap
  len : σ.length = X.N.length

section
variable {X : Cx} {pins : List (Addr × Obj)} {σ : List (Option V)} {H H' : Hp} {s : Shared} {h' : Heap}

theorem Cx.Ok.nofr (ok : X.Ok) {b : Addr} {o : Obj} (e : X.base.get? b = some o) : b ∉ X.fs := fun hb => by
  have := (ok.funs.mem hb).1
  rw [e] at this; cases this
theorem Inv.bs (I : Inv X pins σ H s) : ∀ b o, X.base.get? b = some o → s.heap.get? b = some o ∧ H b = none := fun b o e =>
  ⟨I.base.keep b o (I.ok.bs b o e).1 (I.ok.bs b o e).2 (I.ok.nofr e) (I.ok.noex b o e), I.base.free b o (I.ok.bs b o e).1 (I.ok.bs b o e).2 (I.ok.noex b o e)⟩
theorem Inv.bk (I : Inv X pins σ H s) : ∀ b o, X.base.get? b = some o → s.heap.get? b = some o := fun b o e => (I.bs b o e).1
theorem Inv.mod (I : Inv X pins σ H s) : Mod X.K X.mg X.base := I.ok.mod
theorem Inv.kIn (I : Inv X pins σ H s) : X.K.In s.heap := I.ok.mod.kin.keeps I.bk
theorem Inv.nolimit (I : Inv X pins σ H s) : s.heap.NoLimit := I.ok.mod.nolimit.keeps I.bk
/-- the frame over the base: for OpenK's rules (K.In X.base is I.mod.kin) -/
theorem Inv.fr (I : Inv X pins σ H s) : ∃ m, Fr X.base X.env.locals s.heap m :=
  let ⟨m, hn, _⟩ := I.loc
  ⟨m, hn, I.bk, Nat.le_trans I.ok.bsz I.ok.above⟩
theorem Inv.lt (I : Inv X pins σ H s) : X.env.locals < s.heap.objs.size := let ⟨_, hn, _⟩ := I.loc; hn.lt
theorem Inv.sz (I : Inv X pins σ H s) : X.s₀.heap.objs.size ≤ s.heap.objs.size := Nat.le_trans I.ok.above (Nat.le_of_lt I.lt)
theorem Inv.nofs (I : Inv X pins σ H s) {a : Addr} (h : s.heap.objs.size ≤ a) : a ∉ X.fs := fun hb => by
  obtain ⟨_, o, ho, _⟩ := I.ok.funs.mem hb
  exact absurd (Nat.lt_of_lt_of_le (Heap.lt_size ho) (Nat.le_trans I.sz h)) (Nat.lt_irrefl _)
theorem Inv.cne (I : Inv X pins σ H s) : ∀ x c, X.env.cells.lookup x = some c → c ≠ X.env.locals := fun x c e z => by
  obtain ⟨v, o, ho, hd⟩ := I.cell x c e
  obtain ⟨m, ⟨o', es, ep, ho', hd', _⟩, _⟩ := I.loc
  rw [z, ho'] at ho; cases ho; rw [hd'] at hd; cases hd
theorem Inv.funs (I : Inv X pins σ H s) : s.heap.FunFrames X.base X.outer := by
  have all : ∀ (l : List Env), (∀ b ∈ frs l, b ∈ X.fs) → X.s₀.heap.FunFrames X.base l → s.heap.FunFrames X.base l := by
    intro l
    induction l with
    | nil => intro _ _; trivial
    | cons env r ih =>
      intro hs hl
      obtain ⟨hk, ⟨L, o, hf, hn, ho, hd⟩, hr⟩ := hl
      have hL : L ∈ X.fs := hs L (by unfold frs; rw [List.filterMap_cons, hf]; exact List.mem_cons_self)
      obtain ⟨sl, e⟩ := I.base.slot L o ho (I.ok.frf L hL) hL fun z => I.ok.exfs L z hL
      exact ⟨hk, ⟨L, _, hf, hn, e, hd⟩, ih (fun b hb => hs b (by unfold frs; rw [List.filterMap_cons, hf]; exact List.mem_cons_of_mem _ hb)) hr⟩
  exact all X.outer (fun _ hb => hb) I.ok.funs

/-- the frames that run, for a call -/
theorem Inv.stack (I : Inv X pins σ H s) : s.heap.FunFrames X.base X.stack := by
  rcases I.ok.stk with e | ⟨e, hf⟩
  · rw [e]; exact I.funs
  · rw [e]
    obtain ⟨m, hn, _⟩ := I.loc
    refine .cons (by rw [I.ok.kind]; decide) hf hn ?_ I.funs
    exact Heap.get?_none_of_le (Nat.le_trans I.ok.bsz I.ok.above)
theorem Inv.stkSub (I : Inv X pins σ H s) : ∀ b ∈ frs X.stack, b ∈ X.env.locals :: X.fs := fun b hb => by
  rcases I.ok.stk with e | ⟨e, hf⟩
  · rw [e] at hb; exact List.mem_cons_of_mem _ hb
  · rw [e] at hb
    unfold frs at hb
    rw [List.filterMap_cons, hf] at hb
    exact hb
theorem Inv.stkFree (I : Inv X pins σ H s) : ∀ b ∈ frs X.stack, H b = none := fun b hb => by
  rcases List.mem_cons.mp (I.stkSub b hb) with e | hb
  · rw [e]; exact I.free
  · obtain ⟨_, o, ho, _⟩ := I.ok.funs.mem hb
    exact I.base.free b o ho (I.ok.frf b hb) fun z => I.ok.exfs b z hb

/-- THE STEP: the untracked objects but the frame and the records at ch are kept (the callers' frames up to slots), the frame's map is kept, the new abstract heap is held -/
theorem Inv.step {g' : Array GenState} {t' : Nat} {d' : Drawn} {ch : List Addr} (I : Inv X pins σ H s)
    (hch : ∀ b ∈ ch, (b ∈ X.ex ∨ X.s₀.heap.objs.size ≤ b) ∧ b ≠ X.env.locals ∧ (∀ x c, X.env.cells.lookup x = some c → c ≠ b) ∧ ∀ p ∈ X.pn ++ pins, p.1 ≠ b)
    (keep : ∀ b o, b ≠ X.env.locals → b ∉ X.fs → b ∉ ch → s.heap.get? b = some o → H b = none → h'.get? b = some o)
    (slot : ∀ b o, b ≠ X.env.locals → b ∈ X.fs → b ∉ ch → s.heap.get? b = some o → H b = none → ∃ sl, h'.get? b = some { o with slots := sl }) (free : ∀ b o, b ∉ ch → s.heap.get? b = some o → H b = none → H' b = none)
    (there : ∀ b o, b ∉ ch → s.heap.get? b = some o → ∃ o', h'.get? b = some o')
    (tups : ∀ b xs, H b = some (.tup xs) → H' b = some (.tup xs)) (frzs : ∀ b o u, H b = some (.frz o u) → H' b = some (.frz o u)) (tbls : ∀ b ps, H b = some (.tbl ps) → ∃ more, H' b = some (.tbl (ps ++ more)))
    (ns : ∀ m, s.heap.Ns X.env.locals m → h'.Ns X.env.locals m) (hok : HOk X.prog X.w H' h') (hg : AllBare g') :
    Inv X pins σ H' { s with heap := h', gens := g', drawn := d', toks := t' } := by
  have neL : ∀ b o, X.s₀.heap.get? b = some o → b ≠ X.env.locals := fun b o e => Nat.ne_of_lt (Nat.lt_of_lt_of_le (Heap.lt_size e) I.ok.above)
  have neC : ∀ b o, X.s₀.heap.get? b = some o → b ∉ X.ex → b ∉ ch := fun b o e hx hb => by
    rcases (hch b hb).1 with z | z
    · exact hx z
    · exact absurd (Nat.lt_of_lt_of_le (Heap.lt_size e) z) (Nat.lt_irrefl _)
  have cellK : ∀ x c, X.env.cells.lookup x = some c → ∀ v, s.heap.IsCell c v → h'.IsCell c v := fun x c e v ⟨o, ho, hd⟩ => by
    have nch : c ∉ ch := fun z => (hch c z).2.2.1 x c e rfl
    by_cases hc : c ∈ X.fs
    · obtain ⟨sl, q⟩ := slot c o (I.cne x c e) hc nch ho (I.freeC x c e)
      exact ⟨_, q, hd⟩
    · exact ⟨o, keep c o (I.cne x c e) hc nch ho (I.freeC x c e), hd⟩
  refine ⟨I.ok, I.os, hg, ⟨fun b o e n hb hx => ?_, fun b o e n hb hx => ?_, fun b o e n hx => ?_, fun b o e hx => ?_, fun b xs e => tups b xs (I.base.tups b xs e), fun b o xs e => frzs b o xs (I.base.frzs b o xs e), fun b ps e => ?_⟩, ?_, fun x c e => ?_, ?_, fun x c e => ?_, fun p hp => ?_, hok, I.len⟩
  · exact keep b o (neL b o e) hb (neC b o e hx) (I.base.keep b o e n hb hx) (I.base.free b o e n hx)
  · obtain ⟨sl, e1⟩ := I.base.slot b o e n hb hx
    obtain ⟨sl', e2⟩ := slot b _ (neL b o e) hb (neC b o e hx) e1 (I.base.free b o e n hx)
    exact ⟨sl', e2⟩
  · obtain ⟨o', e1⟩ := I.base.there b o e hx
    exact free b o' (neC b o e hx) e1 (I.base.free b o e n hx)
  · obtain ⟨o', e1⟩ := I.base.there b o e hx
    exact there b o' (neC b o e hx) e1
  · obtain ⟨m1, e1⟩ := I.base.tbls b ps e
    obtain ⟨m2, e2⟩ := tbls b _ e1
    exact ⟨m1 ++ m2, by rw [e2, Array.append_assoc]⟩
  · obtain ⟨m, hn, hl⟩ := I.loc
    refine ⟨m, ns m hn, fun i x v e1 e2 e3 => ?_⟩
    obtain ⟨u, r, l⟩ := hl i x v e1 e2 e3
    refine ⟨u, r, ?_⟩
    rcases l with l | ⟨k, c, e, z⟩
    · exact .inl l
    · exact .inr ⟨k, c, e, cellK x c e _ z⟩
  · obtain ⟨v, z⟩ := I.cell x c e
    exact ⟨v, cellK x c e v z⟩
  · obtain ⟨m, ⟨o, _, _, ho, _⟩, _⟩ := I.loc
    exact free _ o (fun z => (hch _ z).2.1 rfl) ho I.free
  · obtain ⟨v, o, ho, hd⟩ := I.cell x c e
    exact free c o (fun z => (hch c z).2.2.1 x c e rfl) ho (I.freeC x c e)
  · obtain ⟨e, n, ne, nf, d⟩ := I.pin p hp
    have nch : p.1 ∉ ch := fun z => (hch p.1 z).2.2.2 p hp rfl
    exact ⟨keep p.1 p.2 ne nf nch e n, free p.1 p.2 nch e n, ne, nf, d⟩
/-- .. where the frame's own object is kept too -/
theorem Inv.un {t' : Nat} (I : Inv X pins σ H s) (u : Un X.fs [] H H' s.heap h') (hok : HOk X.prog X.w H' h') : Inv X pins σ H' { s with heap := h', toks := t' } := by
  obtain ⟨m, ⟨o, es, ep, ho, r⟩, _⟩ := id I.loc
  obtain ⟨sl, hL⟩ := u.any ho I.free (by simp)
  exact I.step (g' := s.gens) (d' := s.drawn) (ch := []) (fun _ z => nomatch z) (fun b o _ hb _ e n => u.keep b o e n hb (by simp)) (fun b o _ hb _ e n => u.slot b o e n hb (by simp)) (fun b o _ e n => u.free b o e n (by simp)) (fun b o _ e => u.there b o e (by simp)) u.tups u.frzs u.tbls (fun m' hm => by
    obtain ⟨o', es', ep', ho', r'⟩ := hm
    rw [ho] at ho'; cases ho'
    exact ⟨_, es', ep', hL, r'⟩) hok I.bare
/-- behind a call (or a comprehension's block): the slots of this frame may have changed too, the records at ch may have turned -/
theorem Inv.call {g' : Array GenState} {t' : Nat} {d' : Drawn} {ch : List Addr} (I : Inv X pins σ H s) (u : Un (frs X.stack) ch H H' s.heap h') (hok : HOk X.prog X.w H' h') (hg : AllBare g')
    (hch : ∀ b ∈ ch, (b ∈ X.ex ∨ X.s₀.heap.objs.size ≤ b) ∧ b ≠ X.env.locals ∧ (∀ x c, X.env.cells.lookup x = some c → c ≠ b) ∧ ∀ p ∈ X.pn ++ pins, p.1 ≠ b) :
    Inv X pins σ H' { s with heap := h', gens := g', drawn := d', toks := t' } := by
  obtain ⟨m, ⟨o, es, ep, ho, r⟩, _⟩ := id I.loc
  obtain ⟨sl, hL⟩ := u.any ho I.free fun z => (hch _ z).2.1 rfl
  exact I.step (ch := ch) hch (fun b o hL hb hc e n => u.keep b o e n (fun z => (List.mem_cons.mp (I.stkSub b z)).elim hL hb) hc) (fun b o _ _ hc e n => u.any e n hc) (fun b o hc e n => u.free b o e n hc) (fun b o hc e => u.there b o e hc) u.tups u.frzs u.tbls (fun m' hm => by
    obtain ⟨o', es', ep', ho', r'⟩ := hm
    rw [ho] at ho'; cases ho'
    exact ⟨_, es', ep', hL, r'⟩) hok hg
/-- an untracked record of ours (an iterator) has turned -/
theorem Inv.turned {t' : Nat} {it : Addr} (I : Inv X pins σ H s) (k : ∀ b o, b ≠ it → s.heap.get? b = some o → h'.get? b = some o) (hn : H it = none) (hL : it ≠ X.env.locals)
    (h1 : it ∈ X.ex ∨ X.s₀.heap.objs.size ≤ it) (h2 : ∀ x c, X.env.cells.lookup x = some c → c ≠ it) (h3 : ∀ p ∈ X.pn ++ pins, p.1 ≠ it) : Inv X pins σ H { s with heap := h', toks := t' } := by
  have nit : ∀ b u, H b = some u → b ≠ it := fun b u e z => by rw [z, hn] at e; cases e
  refine I.step (g' := s.gens) (d' := s.drawn) (ch := [it]) (fun b hb => ?_) (fun b o _ _ hc e _ => k b o (fun z => hc (by simp [z])) e) (fun b o _ _ hc e _ => ⟨o.slots, k b o (fun z => hc (by simp [z])) e⟩) (fun _ _ _ _ n => n)
    (fun b o hc e => ⟨o, k b o (fun z => hc (by simp [z])) e⟩) (fun _ _ e => e) (fun _ _ _ e => e) (fun b ps e => ⟨#[], by rw [e]; simp⟩) (fun m hm => ?_) (fun b u e => ?_) I.bare
  · have e : b = it := by simpa using hb
    subst e
    exact ⟨h1, hL, h2, h3⟩
  · obtain ⟨o, es, ep, ho, r⟩ := hm
    exact ⟨o, es, ep, k _ o (Ne.symm hL) ho, r⟩
  · refine (I.hok b u e).stay (fun c v hc q => k c v ?_ q) (fun _ q => q) fun _ _ q => q
    rcases hc with z | z
    · rw [z]; exact nit b u e
    · exact nit c _ z
theorem Inv.tok (I : Inv X pins σ H s) (t : Nat) : Inv X pins σ H { s with toks := t } := I.un (h' := s.heap) (t' := t) Un.refl I.hok
/-- all objects kept -/
theorem Inv.kept {t' : Nat} (I : Inv X pins σ H s) (k : ∀ b u, s.heap.get? b = some u → h'.get? b = some u) : Inv X pins σ H { s with heap := h', toks := t' } := I.un (Un.kept k) (I.hok.kept k)
/-- a new object laid and tracked -/
theorem Inv.laid {a : Addr} {o : HO} {t' : Nat} (I : Inv X pins σ H s) (k : ∀ b u, s.heap.get? b = some u → h'.get? b = some u) (hp : s.heap.objs.size ≤ a) (new : ObjOk X.prog X.w (upd H a o) h' a o) :
    Inv X pins σ (upd H a o) { s with heap := h', toks := t' } := I.un (Un.laid k hp (I.hok.fresh hp)) (I.hok.laid k hp new)
/-- an object written -/
theorem Inv.write {x e : Addr} {o : HO} {t' : Nat} (I : Inv X pins σ H s) (mu : Mut (H x)) (he : e = x ∨ H e = some (.own x)) (k : ∀ b u, b ≠ e → s.heap.get? b = some u → h'.get? b = some u) (heo : ∃ u, h'.get? e = some u)
    (new : ObjOk X.prog X.w (upd H x o) h' x o) : Inv X pins σ (upd H x o) { s with heap := h', toks := t' } := I.un (Un.write mu he k heo) (I.hok.write mu he k heo new)
theorem Inv.pins_of {pins' : List (Addr × Obj)} (I : Inv X pins σ H s) (h : ∀ p ∈ pins', s.heap.get? p.1 = some p.2 ∧ H p.1 = none ∧ p.1 ≠ X.env.locals ∧ p.1 ∉ X.fs ∧ ∀ v, p.2.data ≠ .cell v) : Inv X pins' σ H s :=
  ⟨I.ok, I.os, I.bare, I.base, I.loc, I.cell, I.free, I.freeC, fun p hp => (List.mem_append.mp hp).elim (fun z => I.pin p (List.mem_append_left _ z)) (h p), I.hok, I.len⟩

theorem nodup_ix {N : List Str} (hN : N.Nodup) {i j : Nat} {x : Str} (a : N[i]? = some x) (b : N[j]? = some x) : i = j := by
  obtain ⟨h1, e1⟩ := List.getElem?_eq_some_iff.mp a
  obtain ⟨h2, e2⟩ := List.getElem?_eq_some_iff.mp b
  exact (List.getElem_inj hN).mp (e1.trans e2.symm)

/-- a name is stored; what changed -/
theorem store_ok2 {M : Model} {A : Around} {E : Value → Shared → Prop} {i : Nat} {x : Str} {v : V} {u : Value} {Q : Unit → Shared → Prop} (I : Inv X pins σ H s) (hN : X.N.Nodup) (hi : X.N[i]? = some x) (hx : Loc X.env.scope x) (r : RelV v u)
    (h : ∀ s', Inv X pins (σ.set i (some v)) H s' → (∃ a, Heap.SameBut a s.heap s'.heap ∧ (a = X.env.locals ∨ X.env.cells.lookup x = some a)) → Q () s') (hf : X.fn x = true ∨ X.env.scope.names.lookup x = some .local := by first | exact .inl rfl | exact .inr rfl | assumption) : wpAny M A (storeName X.env x u) Q E s := by
  obtain ⟨m, hn, hl⟩ := id I.loc
  have hcls : (X.env.scope.kind == .class || (X.env.scope.kind == .module && X.env.locals != X.env.globals)) = false := by rw [I.ok.kind]; rfl
  have hiσ : i < σ.length := by rw [I.len]; exact (List.getElem?_eq_some_iff.mp hi).1
  have cne := I.cne
  have tracked : ∀ {a : Addr} {h' : Heap}, (∃ o, s.heap.get? a = some o ∧ H a = none) → Heap.SameBut a s.heap h' → HOk X.prog X.w H h' := fun {a h'} ha hs b ob e => by
    obtain ⟨_, _, hfree⟩ := ha
    refine (I.hok b ob e).stay (fun c w' hc q => (hs.2 c ?_).trans q) (fun _ q => q) fun _ _ q => q
    rintro rfl
    rcases hc with rfl | hc
    · rw [hfree] at e; cases e
    · rw [hfree] at hc; cases hc
  rcases hx with hk | hk
  · refine wpAny_storeName_local hk hn (fun h' hn' hs => ?_) hcls
    obtain ⟨oL, _, _, hoL, _⟩ := id hn
    refine h _ ⟨I.ok, I.os, I.bare, ⟨fun b o e n hb hx => ?_, fun b o e n hb hx => ?_, I.base.free, fun b o e hx => ?_, I.base.tups, I.base.frzs, I.base.tbls⟩, ⟨_, hn', fun j y v' e1 e2 e3 => ?_⟩, fun y c e => ?_, I.free, I.freeC, fun p hp => ?_, tracked ⟨oL, hoL, I.free⟩ hs, by simpa using I.len⟩ ⟨_, hs, .inl rfl⟩
    · exact (hs.2 b (Nat.ne_of_lt (Nat.lt_of_lt_of_le (Heap.lt_size e) I.ok.above))).trans (I.base.keep b o e n hb hx)
    · obtain ⟨sl, e1⟩ := I.base.slot b o e n hb hx
      exact ⟨sl, (hs.2 b (Nat.ne_of_lt (Nat.lt_of_lt_of_le (Heap.lt_size e) I.ok.above))).trans e1⟩
    · obtain ⟨o', e1⟩ := I.base.there b o e hx
      exact ⟨o', (hs.2 b (Nat.ne_of_lt (Nat.lt_of_lt_of_le (Heap.lt_size e) I.ok.above))).trans e1⟩
    · by_cases hj : j = i
      · subst hj
        rw [hi] at e1; cases e1
        rw [List.getElem?_set_self hiσ] at e2
        cases e2
        exact ⟨u, r, .inl ⟨hk, by simp⟩⟩
      · rw [List.getElem?_set_ne (Ne.symm hj)] at e2
        obtain ⟨u', r', q⟩ := hl j y v' e1 e2 e3
        refine ⟨u', r', ?_⟩
        rcases q with ⟨k, e⟩ | ⟨k, c, e, z⟩
        · refine .inl ⟨k, ?_⟩
          have : y ≠ x := fun e => hj (nodup_ix hN e1 (e ▸ hi))
          simp [this, e]
        · exact .inr ⟨k, c, e, z.sameBut hs (cne y c e)⟩
    · obtain ⟨w', z⟩ := I.cell y c e
      exact ⟨w', z.sameBut hs (cne y c e)⟩
    · obtain ⟨e, n, ne, nf, d⟩ := I.pin p hp
      exact ⟨(hs.2 p.1 ne).trans e, n, ne, nf, d⟩
  · have hfn : X.fn x = true := by
      rcases hf with z | z
      · exact z
      · rw [z] at hk; cases hk
    obtain ⟨c, hc⟩ := I.ok.has x (.inl hk)
    obtain ⟨w', z⟩ := I.cell x c hc
    refine wpAny_storeName_cell I.ok.kind hk hc z (fun h' hc' hs => ?_)
    obtain ⟨oc, hoc, hocd⟩ := id z
    refine h { s with heap := h' } ⟨I.ok, I.os, I.bare, ⟨fun b o e n hb hx => ?_, fun b o e n hb hx => ?_, I.base.free, fun b o e hx => ?_, I.base.tups, I.base.frzs, I.base.tbls⟩, ⟨m, hn.sameBut hs (Ne.symm (cne x c hc)), fun j y v' e1 e2 e3 => ?_⟩, fun y c' e => ?_, I.free, I.freeC, fun p hp => ?_, tracked ⟨oc, hoc, I.freeC x c hc⟩ hs, by simpa using I.len⟩ ⟨c, hs, .inr hc⟩
    · exact (hs.2 b (Nat.ne_of_lt (Nat.lt_of_lt_of_le (Heap.lt_size e) (I.ok.cab x c hfn hc)))).trans (I.base.keep b o e n hb hx)
    · obtain ⟨sl, e1⟩ := I.base.slot b o e n hb hx
      exact ⟨sl, (hs.2 b (Nat.ne_of_lt (Nat.lt_of_lt_of_le (Heap.lt_size e) (I.ok.cab x c hfn hc)))).trans e1⟩
    · obtain ⟨o', e1⟩ := I.base.there b o e hx
      exact ⟨o', (hs.2 b (Nat.ne_of_lt (Nat.lt_of_lt_of_le (Heap.lt_size e) (I.ok.cab x c hfn hc)))).trans e1⟩
    · by_cases hj : j = i
      · subst hj
        rw [hi] at e1; cases e1
        rw [List.getElem?_set_self hiσ] at e2
        cases e2
        exact ⟨u, r, .inr ⟨.inl hk, c, hc, hc'⟩⟩
      · rw [List.getElem?_set_ne (Ne.symm hj)] at e2
        obtain ⟨u', r', q⟩ := hl j y v' e1 e2 e3
        refine ⟨u', r', ?_⟩
        rcases q with q | ⟨k, c', e, z'⟩
        · exact .inl q
        · refine .inr ⟨k, c', e, z'.sameBut hs ?_⟩
          rintro rfl
          exact hj (nodup_ix hN e1 (I.ok.inj _ _ _ e hc ▸ hi))
    · by_cases hcc : c' = c
      · subst hcc; exact ⟨_, hc'⟩
      · obtain ⟨w2, z2⟩ := I.cell y c' e
        exact ⟨w2, z2.sameBut hs hcc⟩
    · obtain ⟨e, n, ne, nf, d⟩ := I.pin p hp
      refine ⟨(hs.2 p.1 ?_).trans e, n, ne, nf, d⟩
      intro q
      rw [q, hoc] at e
      have q' : oc = p.2 := Option.some.inj e
      exact d w' (by rw [← q']; exact hocd)
theorem store_ok {M : Model} {A : Around} {E : Value → Shared → Prop} {i : Nat} {x : Str} {v : V} {u : Value} {Q : Unit → Shared → Prop} (I : Inv X pins σ H s) (hN : X.N.Nodup) (hi : X.N[i]? = some x) (hx : Loc X.env.scope x) (r : RelV v u)
    (h : ∀ s', Inv X pins (σ.set i (some v)) H s' → Q () s') (hf : X.fn x = true ∨ X.env.scope.names.lookup x = some .local := by first | exact .inl rfl | exact .inr rfl | assumption) : wpAny M A (storeName X.env x u) Q E s :=
  store_ok2 I hN hi hx r (fun s' I' _ => h s' I') hf
/-- behind a call or a block, the state as it is -/
theorem Inv.call' {s' : Shared} {ch : List Addr} (I : Inv X pins σ H s) (ho : s'.os = s.os) (u : Un (frs X.stack) ch H H' s.heap s'.heap) (hok : HOk X.prog X.w H' s'.heap) (hg : AllBare s'.gens)
    (hch : ∀ b ∈ ch, (b ∈ X.ex ∨ X.s₀.heap.objs.size ≤ b) ∧ b ≠ X.env.locals ∧ (∀ x c, X.env.cells.lookup x = some c → c ≠ b) ∧ ∀ p ∈ X.pn ++ pins, p.1 ≠ b) : Inv X pins σ H' s' := by
  obtain ⟨h', g', d', t', o'⟩ := s'
  have e : o' = s.os := ho
  subst e
  exact I.call (g' := g') (t' := t') (d' := d') u hok hg hch
end

/-! ### the judgements -/
/-- an exception: its class, its own dict's address (where it has one), the abstract heap behind it -/
abbrev XK := Value → Option Addr → Hp → Prop
abbrev St := List (Option V)
abbrev VK := V → Hp → Prop
/-- an expression's reading; a test's; an argument list's -/
abbrev TE := St → Hp → VK → Prop
abbrev TT := St → Hp → (Bool → Hp → Prop) → Prop
abbrev TA := St → Hp → (List V → Hp → Prop) → Prop
/-- what is wanted behind a statement -/
structure Ends where
  nx : St → Hp → Prop
  rt : VK
  bk : St → Hp → Prop := fun _ _ => False
  ct : St → Hp → Prop := fun _ _ => False
abbrev TS := Ends → St → Hp → Prop

def EP (X : Cx) (pins : List (Addr × Obj)) (σ : St) (Q : VK) (u : Value) (s' : Shared) : Prop := ∃ v H', Inv X pins σ H' s' ∧ RelV v u ∧ Q v H'
def TP (X : Cx) (pins : List (Addr × Obj)) (σ : St) (Q : Bool → Hp → Prop) (b : Bool) (s' : Shared) : Prop := ∃ H', Inv X pins σ H' s' ∧ Q b H'
def AP (X : Cx) (pins : List (Addr × Obj)) (σ : St) (Q : List V → Hp → Prop) (us : List Value) (s' : Shared) : Prop := ∃ vs H', Inv X pins σ H' s' ∧ Vals vs us ∧ Q vs H'
def SP (X : Cx) (pins : List (Addr × Obj)) (D : Ends) (f : Flow) (s' : Shared) : Prop :=
  match f with
  | .next => ∃ σ' H', Inv X pins σ' H' s' ∧ D.nx σ' H'
  | .brk => ∃ σ' H', Inv X pins σ' H' s' ∧ D.bk σ' H'
  | .cont => ∃ σ' H', Inv X pins σ' H' s' ∧ D.ct σ' H'
  | .ret u => ∃ v σ' H', Inv X pins σ' H' s' ∧ RelV v u ∧ D.rt v H'

def PE (X : Cx) (e : Expr) (t : TE) : Prop :=
  ∀ (pins : List (Addr × Obj)) (s : Shared) (σ : St) (H : Hp) (Q : VK), Inv X pins σ H s → t σ H Q → wpAny (model X.prog X.w) X.A (eval e X.env) (EP X pins σ Q) X.xe s
def PT (X : Cx) (e : Expr) (t : TT) : Prop :=
  ∀ (pins : List (Addr × Obj)) (s : Shared) (σ : St) (H : Hp) (Q : Bool → Hp → Prop), Inv X pins σ H s → t σ H Q → wpAny (model X.prog X.w) X.A (isTrue e X.env (eval e X.env)) (TP X pins σ Q) X.xe s
/-- a test whatever its 'whole' is (and, or) -/
def PW (X : Cx) (e : Expr) (t : TT) : Prop :=
  ∀ (whole : Sem Value) (pins : List (Addr × Obj)) (s : Shared) (σ : St) (H : Hp) (Q : Bool → Hp → Prop), Inv X pins σ H s → t σ H Q → wpAny (model X.prog X.w) X.A (isTrue e X.env whole) (TP X pins σ Q) X.xe s
theorem PW.pt {X : Cx} {e : Expr} {t : TT} (h : PW X e t) : PT X e t := h _
/-- an argument list (no star), from the left -/
def PA (X : Cx) (es : List Expr) (t : TA) : Prop :=
  ∀ (pos : Pos) (pins : List (Addr × Obj)) (s : Shared) (σ : St) (H : Hp) (Q : List V → Hp → Prop), Inv X pins σ H s → t σ H Q → wpAny (model X.prog X.w) X.A (spliced (backTo pos (starEach es X.env))) (AP X pins σ Q) X.xe s
def PS (X : Cx) (st : Stmt) (t : TS) : Prop :=
  ∀ (pins : List (Addr × Obj)) (s : Shared) (σ : St) (H : Hp) (D : Ends), Inv X pins σ H s → t D σ H → wpAny (model X.prog X.w) X.A (exec st X.env) (SP X pins D) X.xe s
def PSs (X : Cx) (st : List Stmt) (t : TS) : Prop :=
  ∀ (pins : List (Addr × Obj)) (s : Shared) (σ : St) (H : Hp) (D : Ends), Inv X pins σ H s → t D σ H → wpAny (model X.prog X.w) X.A (execs st X.env) (SP X pins D) X.xe s
/-- weaken the end -/
theorem thn {α : Type} {t : Sem α} {Q Q' : α → Shared → Prop} {M : Model} {A : Around} {E : Value → Shared → Prop} {s : Shared} (h : wpAny M A t Q E s) (hQ : ∀ a s, Q a s → Q' a s) : wpAny M A t Q' E s := wpAny_mono h hQ fun _ _ x => x
end L2

namespace L2
open PySem PySem.Spec PyProof.Rows
section
variable {X : Cx}

/-! ### names and constants -/
def tVar (i : Nat) : TE := fun σ H Q => ∃ v, σ[i]? = some (some v) ∧ Q v H
def tC (v : V) : TE := fun _ H Q => Q v H
theorem pe_var {i : Nat} {x : Str} {pos : Pos} (hN : X.N[i]? = some x) (hv : Vis X.env.scope x) (hd : (x == ("__debug__" : Str)) = false := by decide) (hcd : (x == ("__classdict__" : Str)) = false := by decide) : PE X (.Name x pos) (tVar i) := by
  intro pins s σ H Q I h
  obtain ⟨v, e, h⟩ := h
  obtain ⟨m, hn, hl⟩ := I.loc
  obtain ⟨u, r, l⟩ := hl i x v hN e hv
  have fin : EP X pins σ Q u s := ⟨v, H, I, r, h⟩
  rcases l with ⟨hk, hm⟩ | ⟨hk, c, hc, hcell⟩
  · exact wpAny_Name (wpAny_loadName_local I.ok.kind hk hn hm fin) hd
  · rcases hk with hk | hk
    · exact wpAny_Name (wpAny_loadName_cell I.ok.kind hk hc hcell fin) hd
    · exact wpAny_Name (wpAny_loadName_free I.ok.kind hk hc hcell fin hcd) hd
theorem pe_int {i j pos} : PE X (.Constant (.int i) j pos) (tC (.int i)) := fun _ _ _ H _ I h => wpAny_Constant_int ⟨.int i, H, I.tok _, ⟨_, rfl⟩, h⟩
theorem pe_bl {b j pos} : PE X (.Constant (.bool b) j pos) (tC (.bl b)) := fun _ _ _ H _ I h => Constant_bool ⟨.bl b, H, I, rfl, h⟩
theorem pe_str {x j pos} : PE X (.Constant (.str x) j pos) (tC (.str x)) := fun _ _ _ H _ I h => Calls.Constant_str ⟨.str x, H, I.tok _, ⟨_, rfl⟩, h⟩

/-- a global name of the def -/
def Gl (X : Cx) (x : Str) : Prop := X.env.kindOf x = some .globalImplicit
theorem ld_glob {E : Value → Shared → Prop} {pins : List (Addr × Obj)} {s : Shared} {σ : St} {H : Hp} {x : Str} {u : Value} {pos : Pos} {Q : Value → Shared → Prop} (I : Inv X pins σ H s) (hg : Gl X x) (hm : X.mg x = some u) (h : Q u s)
    (hd : (x == ("__debug__" : Str)) = false := by decide) : wpAny (model X.prog X.w) X.A (eval (.Name x pos) X.env) Q E s :=
  Calls.Name_function_global I.ok.kind hg (Calls.loadGlobal_global (by rw [I.ok.glob]; exact I.mod.glob.keeps I.bk) hm h) hd
theorem ld_blt {E : Value → Shared → Prop} {pins : List (Addr × Obj)} {s : Shared} {σ : St} {H : Hp} {x : Str} {u : Value} {pos : Pos} {Q : Value → Shared → Prop} (I : Inv X pins σ H s) (hg : Gl X x) (hm : X.mg x = none) (hv : bootBuiltins x = some u) (h : Q u s)
    (hn : x ≠ "__name__" := by decide) (hd : (x == ("__debug__" : Str)) = false := by decide) : wpAny (model X.prog X.w) X.A (eval (.Name x pos) X.env) Q E s := by
  obtain ⟨mb, h1, h2⟩ := I.mod.blt
  exact Calls.Name_function_global I.ok.kind hg (Calls.loadGlobal_builtin (by rw [I.ok.glob]; exact I.mod.glob.keeps I.bk) hm (by rw [I.ok.blt]; exact h1.keeps I.bk) ((h2 x hn).trans hv) h) hd
theorem pe_bltn {x : Str} {v : V} {u : Value} {pos : Pos} (hg : Gl X x) (hm : X.mg x = none) (hv : bootBuiltins x = some u) (r : RelV v u) (hn : x ≠ "__name__" := by decide) (hd : (x == ("__debug__" : Str)) = false := by decide) : PE X (.Name x pos) (tC v) :=
  fun _ _ _ H _ I h => ld_blt I hg hm hv ⟨v, H, I, r, h⟩ hn hd

/-! ### arithmetic -/
variable {a b : Expr} {ta tb : TE} {pos : Pos}
/-! ### comparisons -/
/-- a comparison as a value, as a test -/
def tB (t : TE) : TT := fun σ H Q => t σ H fun x H1 => ∃ c, x = .bl c ∧ Q c H1
/-! ### and, or, not -/
variable {tA tB' : TT} {rest : List Expr}
def tAnd (t u : TT) : TT := fun σ H Q => t σ H fun c H1 => if c = true then u σ H1 Q else Q false H1
def tOr (t u : TT) : TT := fun σ H Q => t σ H fun c H1 => if c = true then Q true H1 else u σ H1 Q
def tNot (t : TT) : TT := fun σ H Q => t σ H fun c H1 => Q (!c) H1
theorem pw_and1 (ha : PT X a tA) : PW X (.BoolOp .And [a] pos) tA := by
  intro wh pins s σ H Q I h
  refine isTrue_and (thn (ha pins s σ H Q I h) fun c s1 e => ?_)
  cases c with
  | true => exact isTrue_and_nil e
  | false => exact e
theorem pw_or1 (ha : PT X a tA) : PW X (.BoolOp .Or [a] pos) tA := by
  intro wh pins s σ H Q I h
  refine isTrue_or (thn (ha pins s σ H Q I h) fun c s1 e => ?_)
  cases c with
  | false => exact isTrue_or_nil e
  | true => exact e
theorem pw_and (ha : PT X a tA) (hb : PW X (.BoolOp .And (b :: rest) pos) tB') : PW X (.BoolOp .And (a :: b :: rest) pos) (tAnd tA tB') := by
  intro wh pins s σ H Q I h
  refine isTrue_and (thn (ha pins s σ H _ I h) fun c s1 ⟨H1, I1, q1⟩ => ?_)
  cases c with
  | true => exact hb wh pins s1 σ H1 Q I1 q1
  | false => exact ⟨H1, I1, q1⟩
theorem pw_or (ha : PT X a tA) (hb : PW X (.BoolOp .Or (b :: rest) pos) tB') : PW X (.BoolOp .Or (a :: b :: rest) pos) (tOr tA tB') := by
  intro wh pins s σ H Q I h
  refine isTrue_or (thn (ha pins s σ H _ I h) fun c s1 ⟨H1, I1, q1⟩ => ?_)
  cases c with
  | true => exact ⟨H1, I1, q1⟩
  | false => exact hb wh pins s1 σ H1 Q I1 q1
theorem pt_not (ha : PT X a tA) : PT X (.UnaryOp .Not a pos) (tNot tA) := by
  intro pins s σ H Q I h
  exact isTrue_not (ha pins s σ H (fun c H1 => Q (!c) H1) I h)
/-- .. as values (bools) -/
def tAndV (ta tb : TE) : TE := fun σ H Q => ta σ H fun x H1 => ∃ c, x = .bl c ∧ if c = true then tb σ H1 Q else Q (.bl false) H1
def tOrV (ta tb : TE) : TE := fun σ H Q => ta σ H fun x H1 => ∃ c, x = .bl c ∧ if c = true then Q (.bl true) H1 else tb σ H1 Q
def tNotV (ta : TE) : TE := fun σ H Q => ta σ H fun x H1 => ∃ c, x = .bl c ∧ Q (.bl (!c)) H1
theorem pe_one {op} {t : TE} (h : PE X a t) : PE X (.BoolOp op [a] pos) t := fun pins s σ H Q I hw => BoolOp_one (h pins s σ H Q I hw)
theorem pe_and (ha : PE X a ta) (hb : PE X (.BoolOp .And (b :: rest) pos) tb) : PE X (.BoolOp .And (a :: b :: rest) pos) (tAndV ta tb) := by
  intro pins s σ H Q I h
  refine BoolOp_and (thn (ha pins s σ H _ I h) fun v s1 ⟨x, H1, I1, r1, q1⟩ => ?_)
  obtain ⟨c, rfl, q1⟩ := q1
  cases r1
  refine wpAny_truthy_bool ?_
  cases c with
  | true => exact hb pins s1 σ H1 Q I1 q1
  | false => exact ⟨.bl false, H1, I1, rfl, q1⟩
theorem pe_not (ha : PE X a ta) : PE X (.UnaryOp .Not a pos) (tNotV ta) := by
  intro pins s σ H Q I h
  refine UnaryOp_ (thn (ha pins s σ H _ I h) fun v s1 ⟨x, H1, I1, r1, q1⟩ => ?_)
  obtain ⟨c, rfl, q1⟩ := q1
  cases r1
  exact not_of (wpAny_truthy_bool ⟨.bl (!c), H1, I1, rfl, q1⟩)
end
end L2

namespace L2
open PySem PySem.Spec PyProof.Rows

/-! ### a list, a tuple that is read: tracked, frozen, or an object of the module -/
def SqL (K : PySem.W.Frag) (H : Hp) (a : Addr) (xs : List V) : Prop :=
  Rd H a (.lst xs) ∨
    ∃ (o : Obj) (its : Array Value) (n : Nat), K.lookup a = some o ∧ o.cls = .type "list" ∧ o.dict = none ∧ o.data = .seq its n ∧ its.size ≤ sizeLine ∧ Vals xs its.toList
def SqT (K : PySem.W.Frag) (H : Hp) (a : Addr) (xs : List V) : Prop :=
  Rd H a (.tup xs) ∨
    ∃ (o : Obj) (its : Array Value) (n : Nat), K.lookup a = some o ∧ o.cls = .type "tuple" ∧ o.data = .seq its n ∧ its.size ≤ sizeLine ∧ Vals xs its.toList
def absV : Value → Option V
  | .none => some .non
  | .bool b => some (.bl b)
  | .int i _ => some (.int i)
  | .str x _ => some (.str x)
  | .bytes b _ => some (.byt b)
  | .float b _ => some (.flt b)
  | .ref a => some (.ref a)
  | .type n => some (.ty n)
  | _ => none
theorem RelV.abs {x : V} {u : Value} (r : RelV x u) : absV u = some x := by
  cases x with
  | non => cases r; rfl
  | bl _ => cases r; rfl
  | int _ => obtain ⟨t, rfl⟩ := r; rfl
  | str _ => obtain ⟨t, rfl⟩ := r; rfl
  | byt _ => obtain ⟨t, rfl⟩ := r; rfl
  | flt _ => obtain ⟨t, rfl⟩ := r; rfl
  | ref _ => cases r; rfl
  | ty _ => cases r; rfl
theorem RelV.inj {x y : V} {u : Value} (r : RelV x u) (q : RelV y u) : x = y := Option.some.inj (r.abs.symm.trans q.abs)
theorem Vals.inj : ∀ {xs ys : List V} {us : List Value}, Vals xs us → Vals ys us → xs = ys
  | _, _, _, .nil, .nil => rfl
  | _, _, _, .cons r t, .cons r' t' => by rw [r.inj r', Vals.inj t t']
section
variable {X : Cx} {pins : List (Addr × Obj)} {σ : St} {H : Hp} {s : Shared} {a : Addr} {xs ys : List V}
theorem SqL.of {K : PySem.W.Frag} (h : H a = some (.lst xs)) : SqL K H a xs := .inl (.inl h)
theorem SqT.of {K : PySem.W.Frag} (h : H a = some (.tup xs)) : SqT K H a xs := .inl (.inl h)
theorem Inv.list (I : Inv X pins σ H s) (h : SqL X.K H a xs) : ∃ its : List Value, Vals xs its ∧ PlainL s.heap a its.toArray ∧ xs.length ≤ sizeLine := by
  rcases h with h | ⟨o, its, n, hk, hc, hd, hs, hz, r⟩
  · obtain ⟨z, its, n, r, e⟩ := h.ok I.hok
    exact ⟨its, r, ⟨_, n, e, rfl, rfl, rfl⟩, z⟩
  · refine ⟨its.toList, r, ⟨o, n, I.kIn a o hk, hc, hd, by simpa using hs⟩, ?_⟩
    have e := r.length
    simp only [Array.length_toList] at e
    omega
theorem Inv.tuple (I : Inv X pins σ H s) (h : SqT X.K H a xs) : ∃ its : List Value, Vals xs its ∧ IsTup s.heap a its.toArray ∧ xs.length ≤ sizeLine := by
  rcases h with h | ⟨o, its, n, hk, hc, hs, hz, r⟩
  · obtain ⟨z, its, r, p⟩ := h.ok I.hok
    exact ⟨its, r, p, z⟩
  · refine ⟨its.toList, r, ⟨o, I.kIn a o hk, hc, n, by simpa using hs⟩, ?_⟩
    have e := r.length
    simp only [Array.length_toList] at e
    omega
theorem Inv.list_inj (I : Inv X pins σ H s) (h : SqL X.K H a xs) (h' : SqL X.K H a ys) : xs = ys := by
  obtain ⟨its, r, ⟨o, n, e, _, _, d⟩, _⟩ := I.list h
  obtain ⟨its', r', ⟨o', n', e', _, _, d'⟩, _⟩ := I.list h'
  rw [e] at e'; cases e'
  rw [d] at d'
  injection d' with d1 _
  have : its = its' := by simpa using congrArg Array.toList d1
  subst this
  exact r.inj r'
end

/-! ### another wish about exceptions -/
abbrev Cx.wish (X : Cx) (E : Value → Shared → Prop) : Cx := { X with xe := E }
/-- no exception leaves -/
abbrev Cx.nox (X : Cx) : Cx := X.wish fun _ _ => False
theorem Cx.Ok.wish {X : Cx} (ok : X.Ok) (E : Value → Shared → Prop) : (X.wish E).Ok :=
  ⟨ok.mod, ok.kind, ok.glob, ok.blt, ok.above, ok.inj, ok.has, ok.cab, ok.hd, ok.frames, ok.stk, ok.exf, ok.bs, ok.bsz, ok.noex, ok.exfs, ok.funs, ok.frf⟩
theorem Cx.Ok.unwish {X : Cx} {E : Value → Shared → Prop} (ok : (X.wish E).Ok) : X.Ok :=
  ⟨ok.mod, ok.kind, ok.glob, ok.blt, ok.above, ok.inj, ok.has, ok.cab, ok.hd, ok.frames, ok.stk, ok.exf, ok.bs, ok.bsz, ok.noex, ok.exfs, ok.funs, ok.frf⟩
section
variable {X : Cx} {pins : List (Addr × Obj)} {σ : St} {H : Hp} {s : Shared} {E : Value → Shared → Prop}
theorem Inv.wish (I : Inv X pins σ H s) (E : Value → Shared → Prop) : Inv (X.wish E) pins σ H s := ⟨I.ok.wish E, I.os, I.bare, I.base, I.loc, I.cell, I.free, I.freeC, I.pin, I.hok, I.len⟩
theorem Inv.unwish (I : Inv (X.wish E) pins σ H s) : Inv X pins σ H s := ⟨I.ok.unwish, I.os, I.bare, I.base, I.loc, I.cell, I.free, I.freeC, I.pin, I.hok, I.len⟩
theorem SP.unwish {D : Ends} {f : Flow} {s' : Shared} (h : SP (X.wish E) pins D f s') : SP X pins D f s' := by
  cases f with
  | next => obtain ⟨σ', H', I, q⟩ := h; exact ⟨σ', H', I.unwish, q⟩
  | brk => obtain ⟨σ', H', I, q⟩ := h; exact ⟨σ', H', I.unwish, q⟩
  | cont => obtain ⟨σ', H', I, q⟩ := h; exact ⟨σ', H', I.unwish, q⟩
  | ret u => obtain ⟨v, σ', H', I, r, q⟩ := h; exact ⟨v, σ', H', I.unwish, r, q⟩
theorem PE.nox {e : Expr} {t : TE} (h : PE X.nox e t) : PE X e t := fun pins s σ H Q I hw =>
  wpAny_mono (h pins s σ H Q (I.wish _) hw) (fun _ _ ⟨v, H', I', r, q⟩ => ⟨v, H', I'.unwish, r, q⟩) fun _ _ z => False.elim z
theorem PT.nox {e : Expr} {t : TT} (h : PT X.nox e t) : PT X e t := fun pins s σ H Q I hw =>
  wpAny_mono (h pins s σ H Q (I.wish _) hw) (fun _ _ ⟨H', I', q⟩ => ⟨H', I'.unwish, q⟩) fun _ _ z => False.elim z
theorem PSs.nox {st : List Stmt} {t : TS} (h : PSs X.nox st t) : PSs X st t := fun pins s σ H D I hw =>
  wpAny_mono (h pins s σ H D (I.wish _) hw) (fun _ _ q => q.unwish) fun _ _ z => False.elim z
end

/-! ### blocks and small statements -/
section
variable {X : Cx} {st : Stmt} {rest : List Stmt} {t u : TS} {e : Expr} {te : TE} {pos : Pos}
def tNext : TS := fun D σ H => D.nx σ H
def tSeq (t u : TS) : TS := fun D σ H => t { D with nx := u D } σ H
theorem pss_nil : PSs X [] tNext := fun _ _ σ H _ I h => wpAny_execs_nil ⟨σ, H, I, h⟩
theorem pss_cons (h1 : PS X st t) (h2 : PSs X rest u) : PSs X (st :: rest) (tSeq t u) := by
  intro pins s σ H D I h
  refine wpAny_execs_cons (thn (h1 pins s σ H { D with nx := u D } I h) fun f s1 q => ?_)
  cases f with
  | next =>
    obtain ⟨σ', H', I', q⟩ := q
    exact h2 pins s1 σ' H' D I' q
  | ret v => exact q
  | brk => exact q
  | cont => exact q
theorem pss_one (h1 : PS X st t) : PSs X [st] t := by
  intro pins s σ H D I h
  refine wpAny_execs_cons (thn (h1 pins s σ H D I h) fun f s1 q => ?_)
  cases f with
  | next => exact wpAny_execs_nil q
  | ret v => exact q
  | brk => exact q
  | cont => exact q
def tBreak : TS := fun D σ H => D.bk σ H
def tCont : TS := fun D σ H => D.ct σ H
/-- in a def's body nothing is shown -/
theorem Inv.quiet {pins : List (Addr × Obj)} {σ : St} {H : Hp} {s : Shared} (I : Inv X pins σ H s) : interactive X.env = false := by simp [interactive, I.ok.kind]
/-- an expression whose value is dropped -/
def tDrop (te : TE) : TS := fun D σ H => te σ H fun _ H1 => D.nx σ H1
theorem ps_expr (he : PE X e te) (hs : swapsWith e none pos.line X.env = pure false := by rfl) : PS X (.Expr e pos) (tDrop te) := by
  intro pins s σ H D I h
  exact wpAny_Expr_any (thn (he pins s σ H _ I h) fun v s1 ⟨x, H1, I1, r1, q1⟩ => ⟨σ, H1, I1, q1⟩) I.quiet hs
def tRet (te : TE) : TS := fun D σ H => te σ H D.rt
theorem ps_ret (he : PE X e te) : PS X (.Return (some e) pos) (tRet te) := by
  intro pins s σ H D I h
  exact wpAny_Return_some (thn (he pins s σ H _ I h) fun v s1 ⟨x, H1, I1, r1, q1⟩ => ⟨x, σ, H1, I1, r1, q1⟩)
def tRetN : TS := fun D _ H => D.rt .non H
def tIfS (c : TT) (t u : TS) : TS := fun D σ H => c σ H fun b H1 => if b = true then t D σ H1 else u D σ H1
theorem ps_if {c : Expr} {a b : List Stmt} {tc : TT} (hc : PT X c tc) (ha : PSs X a t) (hb : PSs X b u) : PS X (.If c a b pos) (tIfS tc t u) := by
  intro pins s σ H D I h
  refine wpAny_If (thn (hc pins s σ H _ I h) fun d s1 ⟨H1, I1, q1⟩ => ?_)
  cases d with
  | true => exact ha pins s1 σ H1 D I1 q1
  | false => exact hb pins s1 σ H1 D I1 q1
end

/-! ### targets -/
abbrev TG := V → St → Hp → (St → Hp → Prop) → Prop
abbrev TGs := List V → St → Hp → (St → Hp → Prop) → Prop
def PG (X : Cx) (target : Expr) (t : TG) : Prop :=
  ∀ (pins : List (Addr × Obj)) (s : Shared) (σ : St) (H : Hp) (v : V) (u : Value) (Q : St → Hp → Prop), Inv X pins σ H s → RelV v u → t v σ H Q →
    wpAny (model X.prog X.w) X.A (assign target X.env u) (fun _ s' => ∃ σ' H', Inv X pins σ' H' s' ∧ Q σ' H') X.xe s
/-- several targets, one after another -/
def PGs (X : Cx) (ts : List Expr) (t : TGs) : Prop :=
  ∀ (pins : List (Addr × Obj)) (s : Shared) (σ : St) (H : Hp) (vs : List V) (us : List Value) (Q : St → Hp → Prop), Inv X pins σ H s → Vals vs us → t vs σ H Q →
    wpAny (model X.prog X.w) X.A (assignInOrder ((assignEach ts X.env).map (·.2)) us) (fun _ s' => ∃ σ' H', Inv X pins σ' H' s' ∧ Q σ' H') X.xe s
/-- o[i] = v, by values -/
abbrev TSet := V → V → V → Hp → (Hp → Prop) → Prop
def PSet (X : Cx) (t : TSet) : Prop :=
  ∀ (pins : List (Addr × Obj)) (s : Shared) (σ : St) (H : Hp) (o i v : V) (ov iv u : Value) (Q : Hp → Prop), Inv X pins σ H s → RelV o ov → RelV i iv → RelV v u → t o i v H Q →
    wpAny (model X.prog X.w) X.A (setItem ov iv u) (fun _ s' => ∃ H', Inv X pins σ H' s' ∧ Q H') X.xe s
/-- a op= b, by values -/
abbrev TIp := V → V → Hp → VK → Prop
def PIp (X : Cx) (op : Operator) (t : TIp) : Prop :=
  ∀ (pins : List (Addr × Obj)) (s : Shared) (σ : St) (H : Hp) (x y : V) (v u : Value) (Q : VK), Inv X pins σ H s → RelV x v → RelV y u → t x y H Q →
    wpAny (model X.prog X.w) X.A (inplaceOp op v u) (EP X pins σ Q) X.xe s
section
variable {X : Cx} {pos : Pos}
def gName (i : Nat) : TG := fun v σ H Q => Q (σ.set i (some v)) H
theorem pg_name {i : Nat} {x : Str} (hN : X.N.Nodup) (hi : X.N[i]? = some x) (hx : Loc X.env.scope x) (hf : X.fn x = true ∨ X.env.scope.names.lookup x = some .local := by first | exact .inl rfl | exact .inr rfl | assumption) : PG X (.Name x pos) (gName i) := by
  intro pins s σ H v u Q I r h
  exact wpAny_assign_Name (store_ok I hN hi hx r (fun s' I' => ⟨_, H, I', h⟩) hf)
/-- target = value -/
def tAsg (te : TE) (g : TG) : TS := fun D σ H => te σ H fun x H1 => g x σ H1 D.nx
/-- name = value -/
theorem ps_set {i : Nat} {x : Str} {e : Expr} {te : TE} {pos' : Pos} (hN : X.N.Nodup) (hi : X.N[i]? = some x) (hx : Loc X.env.scope x) (he : PE X e te) (hs : swapsWith e (some (.Name x pos')) pos.line X.env = pure false := by rfl) (hf : X.fn x = true ∨ X.env.scope.names.lookup x = some .local := by first | exact .inl rfl | exact .inr rfl | assumption) :
    PS X (.Assign [.Name x pos'] e pos) (tAsg te (gName i)) := by
  intro pins s σ H D I h
  refine wpAny_Assign_Name (thn (he pins s σ H _ I h) fun v s1 ⟨y, H1, I1, r1, q1⟩ => ?_) hs
  exact store_ok I1 hN hi hx r1 (fun s2 I2 => ⟨_, H1, I2, q1⟩) hf
/-- ints -/
def ipI (f : Int → Int → Int) : TIp := fun x y H Q => ∃ i j, x = .int i ∧ y = .int j ∧ Q (.int (f i j)) H
theorem ip_add : PIp X .Add (ipI fun i j => i + j) := by
  intro pins s σ H x y v u Q I r1 r2 h
  obtain ⟨i, j, e1, e2, q⟩ := h
  subst e1; subst e2
  obtain ⟨t, rfl⟩ := r1
  obtain ⟨t', rfl⟩ := r2
  exact iadd_int ⟨.int _, H, I.tok _, ⟨_, rfl⟩, q⟩
theorem ip_sub : PIp X .Sub (ipI fun i j => i - j) := by
  intro pins s σ H x y v u Q I r1 r2 h
  obtain ⟨i, j, e1, e2, q⟩ := h
  subst e1; subst e2
  obtain ⟨t, rfl⟩ := r1
  obtain ⟨t', rfl⟩ := r2
  exact isub_int ⟨.int _, H, I.tok _, ⟨_, rfl⟩, q⟩
end

/-! ### while -/
section
variable {X : Cx} {pos : Pos}
end

/-! ### what a loop or a comprehension walks -/
/-- at turn i: it yields x (the heap may grow), or it stops -/
structure It where
  go : Nat → Hp → Prop
  yld : Nat → Hp → V → Hp → Prop
  stop : Nat → Hp → Prop
/-- the iterator's own objects may turn: they are not the frame's, not pinned, younger than the entry (or a comprehension's own) -/
def FpOk (X : Cx) (pins : List (Addr × Obj)) (H : Hp) (b : Addr) : Prop :=
  H b = none ∧ b ≠ X.env.locals ∧ b ∉ X.fs ∧ (b ∈ X.ex ∨ X.s₀.heap.objs.size ≤ b) ∧ (∀ x c, X.env.cells.lookup x = some c → c ≠ b) ∧ ∀ p ∈ X.pn ++ pins, p.1 ≠ b
theorem Inv.fpOk {X : Cx} {pins : List (Addr × Obj)} {σ : St} {H H' : Hp} {s : Shared} {b : Addr} (I : Inv X pins σ H s) (hb : s.heap.objs.size ≤ b) (hn : H' b = none) : FpOk X pins H' b := by
  refine ⟨hn, Nat.ne_of_gt (Nat.lt_of_lt_of_le I.lt hb), I.nofs hb, .inr (Nat.le_trans I.sz hb), fun x c e z => ?_, fun p hp z => ?_⟩
  · obtain ⟨v, q⟩ := I.cell x c e
    exact absurd (Nat.lt_of_lt_of_le q.lt (by rw [z]; exact hb)) (Nat.lt_irrefl _)
  · exact absurd (Nat.lt_of_lt_of_le (Heap.lt_size (I.pin p hp).1) (by rw [z]; exact hb)) (Nat.lt_irrefl _)
structure Turn (P : Program) (w : World) (K : PySem.W.Frag) (tg : Expr) (J : It) (fp : List Addr) (it : Addr) (tn : Nat → Heap → Prop) : Prop where
  mem : it ∈ fp
  obj : ∀ i h, tn i h → ∀ b ∈ fp, ∃ o, h.get? b = some o ∧ ∀ v, o.data ≠ .cell v
  keep : ∀ i h h', tn i h → (∀ b ∈ fp, ∀ o, h.get? b = some o → h'.get? b = some o) → tn i h'
  item : ∀ (X : Cx), X.prog = P → X.w = w → X.K = K → X.calm = true → ∀ (i : Nat) (pins : List (Addr × Obj)) (s : Shared) (σ : St) (H : Hp) (E : Value → Shared → Prop), Inv X pins σ H s → (∀ b ∈ fp, FpOk X pins H b) → tn i s.heap → J.go i H →
    wpAny (model P w) X.A (pyNext (.ref it)) (fun r s1 => ∃ u, r = some u ∧
      wpAny (model P w) X.A (letOwnedTupleGo tg (.ref it) u) (fun _ s2 => ∃ x H', Inv X pins σ H' s2 ∧ RelV x u ∧ J.yld i H x H' ∧ tn (i + 1) s2.heap ∧ ∀ b ∈ fp, H' b = none) E s1) E s
  done : ∀ (X : Cx), X.prog = P → X.w = w → X.K = K → X.calm = true → ∀ (i : Nat) (pins : List (Addr × Obj)) (s : Shared) (σ : St) (H : Hp) (E : Value → Shared → Prop), Inv X pins σ H s → (∀ b ∈ fp, FpOk X pins H b) → tn i s.heap → J.stop i H →
    wpAny (model P w) X.A (pyNext (.ref it)) (fun r s1 => r = none ∧ Inv X pins σ H s1) E s
  self : ∀ (A : Around) (i : Nat) (s : Shared) (Q : Value → Shared → Prop) (E : Value → Shared → Prop), tn i s.heap → Q (.ref it) s → wpAny (model P w) A (pyIter (.ref it)) Q E s
abbrev TI := St → Hp → (It → Hp → Prop) → Prop
/-- an iterator has come -/
def PIE (X : Cx) (pins : List (Addr × Obj)) (σ : St) (tg : Expr) (R : It → Hp → Prop) (itv : Value) (s2 : Shared) : Prop :=
  ∃ (it : Addr) (fp : List Addr) (tn : Nat → Heap → Prop) (J : It) (H' : Hp), itv = .ref it ∧ Inv X pins σ H' s2 ∧ Turn X.prog X.w X.K tg J fp it tn ∧ tn 0 s2.heap ∧ (∀ b ∈ fp, FpOk X pins H' b) ∧ R J H'
def PI (X : Cx) (tg iter : Expr) (wi : TI) : Prop :=
  ∀ (pins : List (Addr × Obj)) (s : Shared) (σ : St) (H : Hp) (R : It → Hp → Prop), Inv X pins σ H s → wi σ H R →
    wpAny (model X.prog X.w) X.A (eval iter X.env) (fun v s1 => wpAny (model X.prog X.w) X.A (pyIter v) (PIE X pins σ tg R) X.xe s1) X.xe s

/-- the step ahead of the store is nothing for an iterator that keeps no tuple -/
theorem go_of {M : Model} {A : Around} {E : Value → Shared → Prop} {s : Shared} {tg : Expr} {it : Addr} {u : Value} {o : Obj} {n : String} {vs : Array Value} {Q : Unit → Shared → Prop} (ho : s.heap.get? it = some o) (hc : o.cls = .type n) (hd : o.data = .fields vs)
    (hn : ["enumerate", "zip", "dict_itemiterator", "dict_reverseitemiterator", "odict_iterator", "itertools.zip_longest", "itertools.pairwise"].contains n = false) (hQ : Q () s) : wpAny M A (letOwnedTupleGo tg (.ref it) u) Q E s := by
  unfold letOwnedTupleGo
  cases tg <;> first
    | exact wpAny_pure hQ
    | (cases u <;> first
        | exact wpAny_pure hQ
        | (refine wpAny_bind (wpAny_load ho ?_)
           rw [hc, hd]
           show wpAny M A (if (["enumerate", "zip", "dict_itemiterator", "dict_reverseitemiterator", "odict_iterator", "itertools.zip_longest", "itertools.pairwise"].contains n && vs[0]? == some (rawInt _)) = true then _ else _) Q E s
           rw [if_neg (by intro h; rw [hn, Bool.false_and] at h; cases h)]
           exact wpAny_pure hQ))

/-- the list at a, as it stands at each turn (a loop may append to it) -/
def Itl (K : PySem.W.Frag) (a : Addr) : It :=
  ⟨fun i H => ∃ xs x, SqL K H a xs ∧ xs[i]? = some x, fun i H x H' => H' = H ∧ ∀ xs, SqL K H a xs → xs[i]? = some x, fun i H => ∃ xs, SqL K H a xs ∧ xs.length ≤ i⟩
/-- lo, lo + 1, .. (n of them) -/
def Itr (lo : Int) (n : Nat) : It := ⟨fun i _ => i < n, fun i H x H' => H' = H ∧ x = .int (lo + i), fun i _ => n ≤ i⟩
theorem turn_list {P : Program} {w : World} {K : PySem.W.Frag} {tg : Expr} (a it : Addr) : Turn P w K tg (Itl K a) [it] it (fun i h => h.IsListIter it a i) where
  mem := by simp
  obj := fun i h st b hb => by
    have e : b = it := by simpa using hb
    subst e
    obtain ⟨o, e, c, d⟩ := st
    exact ⟨o, e, fun v z => by rw [d] at z; cases z⟩
  keep := fun i h h' st k => st.at fun o e => k it (by simp) o e
  item := by
    intro X hP hw hK hc i pins s σ H E I hf st hg
    subst hP hw hK
    obtain ⟨xs, x, hq, hx⟩ := hg
    obtain ⟨its, rv, p, hz⟩ := I.list hq
    obtain ⟨u, hu, ru⟩ := rv.get hx
    obtain ⟨f0, f1, f2, f3, f4, f5⟩ := hf it (by simp)
    refine wpAny_pyNext_list_item st p.isList (x := u) (by simpa using hu) fun h' st' sb => ?_
    have I1 : Inv X pins σ H { s with heap := h' } := I.turned (t' := s.toks) (fun b o hb e => (sb.2 b hb).trans e) f0 f1 f3 f4 f5
    obtain ⟨o, e, c, d⟩ := id st'
    exact ⟨u, rfl, go_of (s := { s with heap := h' }) e c d (by decide) ⟨x, H, I1, ru, ⟨rfl, fun ys hy => by rw [I.list_inj hy hq]; exact hx⟩, st', fun b hb => (hf b hb).1⟩⟩
  done := by
    intro X hP hw hK hc i pins s σ H E I hf st hg
    subst hP hw hK
    obtain ⟨xs, hq, hx⟩ := hg
    obtain ⟨its, rv, p, hz⟩ := I.list hq
    obtain ⟨f0, f1, f2, f3, f4, f5⟩ := hf it (by simp)
    have hl := rv.length
    exact wpAny_pyNext_list_end (I.ok.hd hc) st p.isList (by simp; omega) fun h' eb => ⟨rfl, I.turned (t' := s.toks) (fun b o hb e => eb b o hb e) f0 f1 f3 f4 f5⟩
  self := fun _ _ _ _ _ st h => wpAny_pyIter_listiter st h
theorem turn_range {P : Program} {w : World} {K : PySem.W.Frag} {tg : Expr} (it : Addr) (lo : Int) (n : Nat) : Turn P w K tg (Itr lo n) [it] it (fun i h => IsRangeIter h it (lo + (i : Nat) * 1) ((n : Int) - (i : Nat)) 1) where
  mem := by simp
  obj := fun i h st b hb => by
    have e : b = it := by simpa using hb
    subst e
    exact ⟨_, st, fun v z => by
      have z' : Data.fields _ = Data.cell v := z
      cases z'⟩
  keep := fun i h h' st k => k it (by simp) _ st
  item := by
    intro X hP hw hK hc i pins s σ H E I hf st hg
    subst hP hw hK
    obtain ⟨f0, f1, f2, f3, f4, f5⟩ := hf it (by simp)
    have W := Walks.range (prog := X.prog) (w := X.w) (I.ok.hd hc) it lo 1 n
    refine W.item i s _ _ hg st fun v h' tk hv st' kk => ?_
    obtain ⟨t, rfl⟩ := hv
    have I1 : Inv X pins σ H { s with heap := h', toks := tk } := I.turned (fun b o hb e => kk b o (by simpa using hb) e) f0 f1 f3 f4 f5
    refine ⟨_, rfl, go_of (s := { s with heap := h', toks := tk }) (n := "range_iterator") st' rfl rfl (by decide) ⟨.int (lo + i), H, I1, ⟨t, ?_⟩, ⟨rfl, rfl⟩, st', fun b hb => (hf b hb).1⟩⟩
    rw [Int.mul_one]
  done := by
    intro X hP hw hK hc i pins s σ H E I hf st hg
    subst hP hw hK
    obtain ⟨f0, f1, f2, f3, f4, f5⟩ := hf it (by simp)
    exact wpAny_pyNext_range_end (I.ok.hd hc) st (by have : n ≤ i := hg; omega) fun h' eb => ⟨rfl, I.turned (t' := s.toks) (fun b o hb e => eb b o hb e) f0 f1 f3 f4 f5⟩
  self := fun _ _ _ _ _ st h => wpAny_pyIter_rangeiter st h
end L2

namespace L2
open PySem PySem.Spec PyProof.Rows
section
variable {X : Cx} {tg : Expr}
def iList (K : PySem.W.Frag) (tl : TE) : TI := fun σ H R => tl σ H fun x H1 => ∃ a, x = .ref a ∧ (∃ xs, SqL K H1 a xs) ∧ R (Itl K a) H1
theorem pi_list {l : Expr} {tl : TE} (hl : PE X l tl) : PI X tg l (iList X.K tl) := by
  intro pins s σ H R I h
  refine thn (hl pins s σ H _ I h) fun v s1 ⟨x, H1, I1, r1, q1⟩ => ?_
  obtain ⟨a, e, ⟨xs, hq⟩, q⟩ := q1
  subst e
  cases r1
  obtain ⟨its, rv, p, hz⟩ := I1.list hq
  refine wpAny_pyIter_list p.isList ?_
  refine ⟨s1.heap.objs.size, [s1.heap.objs.size], _, _, H1, rfl, I1.kept (t' := s1.toks) fun b o e => Heap.get?_push_of_some _ e, turn_list a _, ⟨_, Heap.get?_push_size _ rfl, rfl, rfl⟩, fun b hb => ?_, q⟩
  have e : b = s1.heap.objs.size := by simpa using hb
  subst e
  exact I1.fpOk (Nat.le_refl _) (I1.hok.fresh (Nat.le_refl _))
/-- a range object just made, walked -/
theorem range_it {pins : List (Addr × Obj)} {σ : St} {H : Hp} {s : Shared} {R : It → Hp → Prop} {E : Value → Shared → Prop} {lo hi : Int} {t u v : Tok} {tk : Nat} (I : Inv X pins σ H s) (h1 : -(2 ^ 62) ≤ lo) (h2 : lo < 2 ^ 62) (h3 : -(2 ^ 62) ≤ hi) (h4 : hi < 2 ^ 62)
    (q : R (Itr lo (hi - lo).toNat) H) : wpAny (model X.prog X.w) X.A (pyIter (.ref s.heap.objs.size)) (PIE X pins σ tg R) E { s with heap := s.heap.push { cls := .type "range", data := .fields #[.int lo t, .int hi u, .int 1 v] }, toks := tk } := by
  refine wpAny_pyIter_range (IsRange.new ..) (small_one h1 h2 h3 h4) ?_
  have I1 : Inv X pins σ H { s with heap := s.heap.push { cls := .type "range", data := .fields #[.int lo t, .int hi u, .int 1 v] }, toks := tk } := I.kept fun b o e => Heap.get?_push_of_some _ e
  refine ⟨(s.heap.push { cls := .type "range", data := .fields #[.int lo t, .int hi u, .int 1 v] }).objs.size, [(s.heap.push { cls := .type "range", data := .fields #[.int lo t, .int hi u, .int 1 v] }).objs.size], _, _, H, rfl,
    I1.kept (t' := tk) fun b o e => Heap.get?_push_of_some _ e, turn_range _ lo (hi - lo).toNat, ?_, fun b hb => ?_, q⟩
  · have e1 : lo + ((0 : Nat) : Int) * 1 = lo := by simp
    have e2 : (((hi - lo).toNat : Nat) : Int) - ((0 : Nat) : Int) = Builtin.Range.rangeSize lo hi 1 := by rw [rangeSize_one]; split <;> omega
    show IsRangeIter _ _ (lo + ((0 : Nat) : Int) * 1) ((((hi - lo).toNat : Nat) : Int) - ((0 : Nat) : Int)) 1
    rw [e1, e2]
    exact Heap.get?_push_size _ rfl
  · have e : b = (s.heap.push { cls := .type "range", data := .fields #[.int lo t, .int hi u, .int 1 v] }).objs.size := by simpa using hb
    subst e
    exact I1.fpOk (Nat.le_refl _) (I1.hok.fresh (Nat.le_refl _))
def iRng1 (ta : TA) : TI := fun σ H R => ta σ H fun vs H1 => ∃ j : Int, vs = [.int j] ∧ -(2 ^ 62) ≤ j ∧ j < 2 ^ 62 ∧ R (Itr 0 j.toNat) H1
theorem pi_range1 {a : Expr} {ta : TA} {p pos : Pos} (hg : Gl X "range") (hm : X.mg "range" = none) (ha : PA X [a] ta) (hs : starEach [a] X.env = [(false, eval a X.env)] := by rfl) : PI X tg (.Call (.Name "range" p) [a] [] pos) (iRng1 ta) := by
  intro pins s σ H R I h
  refine Call_ (ld_blt I hg hm boot_range (PyProof.Rows.callWith_type1 (thn (ha pos pins s σ H _ I h) fun us s1 ⟨vs, H1, I1, r1, q1⟩ => ?_) hs rfl))
  obtain ⟨j, e, q1, q2, q⟩ := q1
  subst e
  cases r1 with
  | cons r rr =>
    cases rr
    obtain ⟨t, rfl⟩ := r
    exact call_range_1 (range_it I1 (by omega) (by omega) q1 q2 (by simpa using q))
/-! ### for -/
/-- W: the invariant by the turn and a measure; N: what the body is to reach -/
def tFor (wi : TI) (g : TG) (tb : TS) : TS := fun D σ H => wi σ H fun J H1 => ∃ W : Nat → Nat → St → Hp → Prop, (∃ m, W 0 m σ H1) ∧ ∀ i m σ H, W i m σ H →
  (J.stop i H ∧ D.nx σ H) ∨ (J.go i H ∧ ∃ N : St → Hp → Prop, (∀ σ' H', N σ' H' → ∃ m', m' < m ∧ W (i + 1) m' σ' H') ∧ ∀ x H', J.yld i H x H' → g x σ H' fun σ2 H2 => tb { D with nx := N, ct := N, bk := D.nx } σ2 H2)
/-- the records at fp as they stand -/
def pinsAt (fp : List Addr) (h : Heap) : List (Addr × Obj) := fp.filterMap fun b => (h.get? b).map fun o => (b, o)
theorem mem_pinsAt {fp : List Addr} {h : Heap} {b : Addr} {o : Obj} (hb : b ∈ fp) (e : h.get? b = some o) : (b, o) ∈ pinsAt fp h := List.mem_filterMap.mpr ⟨b, hb, by rw [e]; rfl⟩
theorem of_pinsAt {fp : List Addr} {h : Heap} {p : Addr × Obj} (hp : p ∈ pinsAt fp h) : p.1 ∈ fp ∧ h.get? p.1 = some p.2 := by
  obtain ⟨b, hb, e⟩ := List.mem_filterMap.mp hp
  cases q : h.get? b with
  | none => rw [q] at e; cases e
  | some o =>
    rw [q] at e
    have e' : (b, o) = p := Option.some.inj e
    subst e'
    exact ⟨hb, q⟩
theorem Inv.pinned {pins : List (Addr × Obj)} {σ : St} {H : Hp} {s : Shared} {fp : List Addr} (I : Inv X pins σ H s) (hf : ∀ b ∈ fp, FpOk X pins H b) (ho : ∀ b ∈ fp, ∃ o, s.heap.get? b = some o ∧ ∀ v, o.data ≠ .cell v) : Inv X (pins ++ pinsAt fp s.heap) σ H s :=
  I.pins_of fun p hp => (List.mem_append.mp hp).elim (fun z => I.pin p (List.mem_append_right _ z)) fun z => by
    obtain ⟨hb, e⟩ := of_pinsAt z
    obtain ⟨f0, f1, f2, _⟩ := hf p.1 hb
    obtain ⟨o, e', d⟩ := ho p.1 hb
    rw [e] at e'; cases e'
    exact ⟨e, f0, f1, f2, d⟩
theorem Inv.unpinned {pins pl : List (Addr × Obj)} {σ : St} {H : Hp} {s : Shared} (I : Inv X (pins ++ pl) σ H s) : Inv X pins σ H s := I.pins_of fun p hp => I.pin p (List.mem_append_right _ (List.mem_append_left _ hp))
theorem ps_for {iter : Expr} {body : List Stmt} {wi : TI} {g : TG} {tb : TS} {pos : Pos} (hp : PassesOwn (model X.prog X.w) X.A X.env X.xe) (hc : X.calm = true) (hi : PI X tg iter wi) (hg : PG X tg g) (hb : PSs X body tb)
    (hs : ∀ x, foldedSetIterable iter X.env x = pure x := by intro _; rfl) : PS X (.For tg iter body [] pos) (tFor wi g tb) := by
  intro pins s σ H D I h
  refine wpAny_For (thn (hi pins s σ H _ I h) fun v s1 h1 => thn h1 fun itv s2 h2 => ?_) hs
  obtain ⟨it, fp, tn, J, H2, e, I2, T, st2, f2, W, ⟨m0, w0⟩, turn⟩ := h2
  subst e
  -- what stays true of the iterator's objects through the loop
  have stat : ∀ {H' : Hp}, (∀ b ∈ fp, H' b = none) → ∀ b ∈ fp, FpOk X pins H' b := fun hn b hb => ⟨hn b hb, (f2 b hb).2⟩
  refine codeAny_forLoop_any (fun n s' => ∃ i σ' H', Inv X pins σ' H' s' ∧ tn i s'.heap ∧ (∀ b ∈ fp, H' b = none) ∧ W i n σ' H') ?_ m0 ⟨0, σ, H2, I2, st2, fun b hb => (f2 b hb).1, w0⟩
  rintro n s3 ⟨i, σ3, H3, I3, st3, fr3, w3⟩
  rcases turn i n σ3 H3 w3 with ⟨stop, qn⟩ | ⟨go, N, hN, step⟩
  · refine wpAny_passesOwn hp (thn (T.done X rfl rfl rfl hc i pins s3 σ3 H3 X.xe I3 (stat fr3) st3 stop) fun r s4 ⟨hr, I4⟩ => ?_)
    subst hr
    exact wpAny_execs_nil ⟨σ3, H3, I4, qn⟩
  · refine wpAny_passesOwn hp (thn (T.item X rfl rfl rfl hc i pins s3 σ3 H3 X.xe I3 (stat fr3) st3 go) fun r s4 ⟨u, hr, h4⟩ => ?_)
    subst hr
    refine wpAny_passesOwn hp (thn h4 fun _ s5 ⟨x, H5, I5, r5, y5, st5, fr5⟩ => ?_)
    have I5' := I5.pinned (stat fr5) (T.obj _ _ st5)
    refine wpAny_passesOwn hp (thn (hg _ s5 σ3 H5 x u _ I5' r5 (step x H5 y5)) fun _ s6 ⟨σ6, H6, I6, q6⟩ => ?_)
    refine wpAny_passesOwn hp (thn (hb _ s6 σ6 H6 _ I6 q6) fun f s7 q7 => ?_)
    have again : ∀ {σ7 : St} {H7 : Hp}, Inv X (pins ++ pinsAt fp s5.heap) σ7 H7 s7 → N σ7 H7 → ∃ m, m < n ∧ ∃ i σ' H', Inv X pins σ' H' s7 ∧ tn i s7.heap ∧ (∀ b ∈ fp, H' b = none) ∧ W i m σ' H' := fun {σ7 H7} I7 n7 => by
      obtain ⟨m', hm, w7⟩ := hN σ7 H7 n7
      refine ⟨m', hm, i + 1, σ7, H7, I7.unpinned, T.keep _ _ _ st5 fun b hb o e => (I7.pin (b, o) (List.mem_append_right _ (List.mem_append_right _ (mem_pinsAt hb e)))).1, fun b hb => ?_, w7⟩
      obtain ⟨o, e, d⟩ := T.obj _ _ st5 b hb
      exact (I7.pin (b, o) (List.mem_append_right _ (List.mem_append_right _ (mem_pinsAt hb e)))).2.1
    cases f with
    | next => obtain ⟨σ7, H7, I7, n7⟩ := q7; exact again I7 n7
    | cont => obtain ⟨σ7, H7, I7, n7⟩ := q7; exact again I7 n7
    | brk => obtain ⟨σ7, H7, I7, q7⟩ := q7; exact ⟨σ7, H7, I7.unpinned, q7⟩
    | ret v => obtain ⟨x7, σ7, H7, I7, r7, q7⟩ := q7; exact ⟨x7, σ7, H7, I7.unpinned, r7, q7⟩
end

/-! ### the forms one uses -/
/-- over a list that the body leaves as it is -/
theorem for_list {K : PySem.W.Frag} {a : Addr} {xs : List V} {g : TG} {tb : TS} {D : Ends} {σ : St} {H : Hp} (Pv : Nat → St → Hp → Prop) (h0 : Pv 0 σ H) (hl : ∀ i σ H, i ≤ xs.length → Pv i σ H → SqL K H a xs)
    (hs : ∀ i x σ H, xs[i]? = some x → Pv i σ H → g x σ H fun σ2 H2 => tb { D with nx := Pv (i + 1), ct := Pv (i + 1), bk := D.nx } σ2 H2) (hd : ∀ σ H, Pv xs.length σ H → D.nx σ H) :
    ∃ W : Nat → Nat → St → Hp → Prop, (∃ m, W 0 m σ H) ∧ ∀ i m σ H, W i m σ H →
      ((Itl K a).stop i H ∧ D.nx σ H) ∨ ((Itl K a).go i H ∧ ∃ N : St → Hp → Prop, (∀ σ' H', N σ' H' → ∃ m', m' < m ∧ W (i + 1) m' σ' H') ∧ ∀ x H', (Itl K a).yld i H x H' → g x σ H' fun σ2 H2 => tb { D with nx := N, ct := N, bk := D.nx } σ2 H2) := by
  refine ⟨fun i m σ H => m = xs.length - i ∧ i ≤ xs.length ∧ Pv i σ H, ⟨xs.length, by simp, Nat.zero_le _, h0⟩, ?_⟩
  rintro i m σ H ⟨rfl, hi, p⟩
  have q := hl i σ H hi p
  by_cases hlt : i < xs.length
  · refine .inr ⟨⟨xs, xs[i], q, by simp [hlt]⟩, Pv (i + 1), fun σ' H' p' => ⟨xs.length - (i + 1), by omega, rfl, hlt, p'⟩, fun x H' y => ?_⟩
    obtain ⟨e, y⟩ := y
    subst e
    exact hs i x σ _ (y xs q) p
  · have e : i = xs.length := by omega
    subst e
    exact .inl ⟨⟨xs, q, Nat.le_refl _⟩, hd σ H p⟩
theorem for_range {lo : Int} {n : Nat} {g : TG} {tb : TS} {D : Ends} {σ : St} {H : Hp} (Pv : Nat → St → Hp → Prop) (h0 : Pv 0 σ H)
    (hs : ∀ i σ H, i < n → Pv i σ H → g (.int (lo + i)) σ H fun σ2 H2 => tb { D with nx := Pv (i + 1), ct := Pv (i + 1), bk := D.nx } σ2 H2) (hd : ∀ σ H, Pv n σ H → D.nx σ H) :
    ∃ W : Nat → Nat → St → Hp → Prop, (∃ m, W 0 m σ H) ∧ ∀ i m σ H, W i m σ H →
      ((Itr lo n).stop i H ∧ D.nx σ H) ∨ ((Itr lo n).go i H ∧ ∃ N : St → Hp → Prop, (∀ σ' H', N σ' H' → ∃ m', m' < m ∧ W (i + 1) m' σ' H') ∧ ∀ x H', (Itr lo n).yld i H x H' → g x σ H' fun σ2 H2 => tb { D with nx := N, ct := N, bk := D.nx } σ2 H2) := by
  refine ⟨fun i m σ H => m = n - i ∧ i ≤ n ∧ Pv i σ H, ⟨n, by simp, Nat.zero_le _, h0⟩, ?_⟩
  rintro i m σ H ⟨rfl, hi, p⟩
  by_cases hlt : i < n
  · refine .inr ⟨hlt, Pv (i + 1), fun σ' H' p' => ⟨n - (i + 1), by omega, rfl, hlt, p'⟩, fun x H' y => ?_⟩
    obtain ⟨e, y⟩ := y
    subst e y
    exact hs i σ _ hlt p
  · have e : i = n := by omega
    subst e
    exact .inl ⟨Nat.le_refl _, hd σ H p⟩
end L2

namespace L2
open PySem PySem.Spec PyProof.Rows

abbrev R2 := V → V → Hp → VK → Prop
/-- a two-place operation on values: f is binaryOp op, inplaceOp op or compareOp op -/
def OpR (X : Cx) (f : Value → Value → Sem Value) (r : R2) : Prop :=
  ∀ (pins : List (Addr × Obj)) (s : Shared) (σ : St) (H : Hp) (x y : V) (v u : Value) (Q : VK), Inv X pins σ H s → RelV x v → RelV y u → r x y H Q →
    wpAny (model X.prog X.w) X.A (f v u) (EP X pins σ Q) X.xe s
/-- a one-place operation -/
def UnR (X : Cx) (f : Value → Sem Value) (r : V → Hp → VK → Prop) : Prop :=
  ∀ (pins : List (Addr × Obj)) (s : Shared) (σ : St) (H : Hp) (x : V) (v : Value) (Q : VK), Inv X pins σ H s → RelV x v → r x H Q →
    wpAny (model X.prog X.w) X.A (f v) (EP X pins σ Q) X.xe s
/-- a call of a value that is known (a builtin, a type) with values -/
def CallR (X : Cx) (f : Value) (r : List V → Hp → VK → Prop) : Prop :=
  ∀ (pins : List (Addr × Obj)) (s : Shared) (σ : St) (H : Hp) (xs : List V) (us : List Value) (Q : VK), Inv X pins σ H s → Vals xs us → r xs H Q →
    wpAny (model X.prog X.w) X.A (call f us) (EP X pins σ Q) X.xe s
def tOp (r : R2) (ta tb : TE) : TE := fun σ H Q => ta σ H fun x H1 => tb σ H1 fun y H2 => r x y H2 Q
def tUn (r : V → Hp → VK → Prop) (ta : TE) : TE := fun σ H Q => ta σ H fun x H1 => r x H1 Q
/-- ints in, under C, and a value out -/
def rI (C : Int → Int → Prop) (g : Int → Int → V) : R2 := fun x y H Q => ∃ i j, x = .int i ∧ y = .int j ∧ C i j ∧ Q (g i j) H
def rI0 (g : Int → Int → V) : R2 := fun x y H Q => ∃ i j, x = .int i ∧ y = .int j ∧ Q (g i j) H
def rU (g : Int → V) : V → Hp → VK → Prop := fun x H Q => ∃ i, x = .int i ∧ Q (g i) H

section
variable {X : Cx} {a b c : Expr} {ta tb tc : TE} {pos : Pos}

theorem binT (ha : PE X a ta) (hb : PE X b tb) {pins : List (Addr × Obj)} {s : Shared} {σ : St} {H : Hp} {R : V → V → Hp → Prop} (I : Inv X pins σ H s)
    (h : ta σ H fun x H1 => tb σ H1 fun y H2 => R x y H2) {Q : Value → Shared → Prop} {f : Value → Value → Sem Value}
    (hf : ∀ v u s2 x y H2, Inv X pins σ H2 s2 → RelV x v → RelV y u → R x y H2 → wpAny (model X.prog X.w) X.A (f v u) Q X.xe s2) :
    wpAny (model X.prog X.w) X.A (eval a X.env) (fun v s₁ => wpAny (model X.prog X.w) X.A (eval b X.env) (fun u s₂ => wpAny (model X.prog X.w) X.A (f v u) Q X.xe s₂) X.xe s₁) X.xe s := by
  refine thn (ha pins s σ H _ I h) fun v s1 ⟨x, H1, I1, r1, q1⟩ => ?_
  refine thn (hb pins s1 σ H1 _ I1 q1) fun u s2 ⟨y, H2, I2, r2, q2⟩ => ?_
  exact hf v u s2 x y H2 I2 r1 r2 q2

theorem pe_op {op : Operator} {r : R2} (ho : OpR X (binaryOp op) r) (ha : PE X a ta) (hb : PE X b tb) : PE X (.BinOp a op b pos) (tOp r ta tb) := by
  intro pins s σ H Q I h
  exact wpAny_BinOp (binT ha hb I h fun v u s2 x y H2 I2 rx ry q => ho pins s2 σ H2 x y v u Q I2 rx ry q)
theorem pe_un {op : UnaryOp} {r : V → Hp → VK → Prop} (ho : UnR X (unaryOp op) r) (ha : PE X a ta) : PE X (.UnaryOp op a pos) (tUn r ta) := by
  intro pins s σ H Q I h
  exact UnaryOp_ (thn (ha pins s σ H _ I h) fun v s1 ⟨x, H1, I1, r1, q1⟩ => ho pins s1 σ H1 x v Q I1 r1 q1)
/-! ### ints -/
theorem opI {f : Value → Value → Sem Value} {C : Int → Int → Prop} {g : Int → Int → Int}
    (rule : ∀ (i j : Int) (t u : Tok) (s : Shared) (Q : Value → Shared → Prop) (E : Value → Shared → Prop), C i j → Q (.int (g i j) s.toks) { s with toks := s.toks + 1 } → wpAny (model X.prog X.w) X.A (f (.int i t) (.int j u)) Q E s) :
    OpR X f (rI C fun i j => .int (g i j)) := by
  intro pins s σ H x y v u Q I rx ry h
  obtain ⟨i, j, rfl, rfl, hc, q⟩ := h
  obtain ⟨t, rfl⟩ := rx
  obtain ⟨t', rfl⟩ := ry
  exact rule i j t t' s _ _ hc ⟨.int (g i j), H, I.tok _, ⟨_, rfl⟩, q⟩
theorem opI0 {f : Value → Value → Sem Value} {g : Int → Int → Int}
    (rule : ∀ (i j : Int) (t u : Tok) (s : Shared) (Q : Value → Shared → Prop) (E : Value → Shared → Prop), Q (.int (g i j) s.toks) { s with toks := s.toks + 1 } → wpAny (model X.prog X.w) X.A (f (.int i t) (.int j u)) Q E s) :
    OpR X f (rI0 fun i j => .int (g i j)) := by
  intro pins s σ H x y v u Q I rx ry h
  obtain ⟨i, j, rfl, rfl, q⟩ := h
  obtain ⟨t, rfl⟩ := rx
  obtain ⟨t', rfl⟩ := ry
  exact rule i j t t' s _ _ ⟨.int (g i j), H, I.tok _, ⟨_, rfl⟩, q⟩
theorem opB0 {f : Value → Value → Sem Value} {g : Int → Int → Bool}
    (rule : ∀ (i j : Int) (t u : Tok) (s : Shared) (Q : Value → Shared → Prop) (E : Value → Shared → Prop), Q (.bool (g i j)) s → wpAny (model X.prog X.w) X.A (f (.int i t) (.int j u)) Q E s) :
    OpR X f (rI0 fun i j => .bl (g i j)) := by
  intro pins s σ H x y v u Q I rx ry h
  obtain ⟨i, j, rfl, rfl, q⟩ := h
  obtain ⟨t, rfl⟩ := rx
  obtain ⟨t', rfl⟩ := ry
  exact rule i j t t' s _ _ ⟨.bl (g i j), H, I, rfl, q⟩

def CDiv (i j : Int) : Prop := 0 < j ∧ j < 1073741824
def CPow (i j : Int) : Prop := 0 ≤ j ∧ j ≤ 1000000 ∧ i.natAbs < 2 ^ 64
def CMul (i j : Int) : Prop := (-(2 ^ 64) < i ∧ i < 2 ^ 64) ∨ (-(2 ^ 64) < j ∧ j < 2 ^ 64)
theorem CMul.ok {i j : Int} (h : CMul i j) : IntMulOk i j := by
  rcases h with ⟨h1, h2⟩ | ⟨h1, h2⟩
  · exact .of_left (intBits_le_64 h1 h2)
  · exact .of_right (intBits_le_64 h1 h2)
theorem op_add : OpR X (binaryOp .Add) (rI0 fun i j => .int (i + j)) := opI0 fun _ _ _ _ _ _ _ q => add_int q
theorem op_sub : OpR X (binaryOp .Sub) (rI0 fun i j => .int (i - j)) := opI0 fun _ _ _ _ _ _ _ q => sub_int q
/-- // by a positive divisor -/
theorem op_fdiv : OpR X (binaryOp .FloorDiv) (rI CDiv fun i j => .int (i / j)) := opI fun i j _ _ _ _ _ hc q => by
  have h1 : (0 : Int) < j := hc.1
  have h2 : j < 1073741824 := hc.2
  exact floordiv_int (by omega) (by rw [Int.fdiv_eq_ediv_of_nonneg i (by omega)]; exact q) (.inl (PyProof.noPylong_small (by omega)))
/-- % by a positive divisor of any size -/
theorem op_mod : OpR X (binaryOp .Mod) (rI (fun _ j => 0 < j) fun i j => .int (i % j)) := opI fun i j _ _ _ _ _ hc q => by
  have h1 : (0 : Int) < j := hc
  exact mod_int' (by omega) (by rw [Int.fmod_eq_emod_of_nonneg i (by omega)]; exact q)
theorem op_pow : OpR X (binaryOp .Pow) (rI CPow fun i j => .int (i ^ j.toNat)) := opI fun _ _ _ _ _ _ _ hc q => pow_int_small hc.1 hc.2.1 hc.2.2 q
theorem unI {f : Value → Sem Value} {g : Int → Int}
    (rule : ∀ (i : Int) (t : Tok) (s : Shared) (Q : Value → Shared → Prop) (E : Value → Shared → Prop), Q (.int (g i) s.toks) { s with toks := s.toks + 1 } → wpAny (model X.prog X.w) X.A (f (.int i t)) Q E s) :
    UnR X f (rU fun i => .int (g i)) := by
  intro pins s σ H x v Q I rx h
  obtain ⟨i, rfl, q⟩ := h
  obtain ⟨t, rfl⟩ := rx
  exact rule i t s _ _ ⟨.int (g i), H, I.tok _, ⟨_, rfl⟩, q⟩
theorem un_neg : UnR X (unaryOp .USub) (rU fun i => .int (-i)) := unI fun _ _ _ _ _ q => neg_int q
/-! ### bools among ints: n += (a < b) -/
end

/-! ### comparisons -/
/-- the scalars that == tells apart as data does -/
def scal : V → V → Bool
  | .non, .non => true | .non, .int _ => true | .int _, .non => true | .non, .bl _ => true | .bl _, .non => true | .non, .str _ => true | .str _, .non => true
  | .int _, .int _ => true | .bl _, .bl _ => true | .str _, .str _ => true | .byt _, .byt _ => true
  | .int _, .str _ => true | .str _, .int _ => true | .bl _, .str _ => true | .str _, .bl _ => true
  | _, _ => false
def rEq : R2 := fun x y H Q => scal x y = true ∧ Q (.bl (decide (x = y))) H
def rNe : R2 := fun x y H Q => scal x y = true ∧ Q (.bl (!decide (x = y))) H

theorem dec_int {i j : Int} : decide (V.int i = V.int j) = (i == j) := by
  rw [Bool.eq_iff_iff]
  simp
theorem dec_bl {i j : Bool} : decide (V.bl i = V.bl j) = (i == j) := by
  rw [Bool.eq_iff_iff]
  simp
theorem dec_str {i j : Str} : decide (V.str i = V.str j) = (i == j) := by
  rw [Bool.eq_iff_iff]
  simp
theorem dec_byt {i j : Array UInt8} : decide (V.byt i = V.byt j) = (i.toList == j.toList) := by
  rw [Bool.eq_iff_iff]
  cases i
  cases j
  simp

section
variable {X : Cx} {a b c : Expr} {ta tb tc : TE} {pos : Pos}
theorem fin_bl {pins : List (Addr × Obj)} {σ : St} {H : Hp} {s : Shared} {Q : VK} {k k' : Bool} (I : Inv X pins σ H s) (q : Q (.bl k) H) (e : k = k') : EP X pins σ Q (.bool k') s := by
  subst e
  exact ⟨.bl k, H, I, rfl, q⟩
theorem op_eq : OpR X (compareOp .Eq) rEq := by
  intro pins s σ H x y v u Q I rx ry h
  obtain ⟨hs, q⟩ := h
  cases x with
  | non =>
    cases rx
    cases y with
    | non => cases ry; exact PySem.EqNone.eq_none_none (fin_bl I q (by simp))
    | bl j => cases ry; exact PySem.EqNone.eq_none_bool (fin_bl I q (by simp))
    | int j => obtain ⟨t', rfl⟩ := ry; exact PySem.EqNone.eq_none_int (fin_bl I q (by simp))
    | str j => obtain ⟨t', rfl⟩ := ry; exact PySem.EqNone.eq_none_str (fin_bl I q (by simp))
    | _ => exact absurd (show false = true from hs) Bool.false_ne_true
  | bl i =>
    cases rx
    cases y with
    | non => cases ry; exact PySem.EqNone.eq_bool_none (fin_bl I q (by simp))
    | bl j => cases ry; exact eq_bool (fin_bl I q dec_bl)
    | str j => obtain ⟨t', rfl⟩ := ry; exact PySem.EqMixed.eq_bool_str (fin_bl I q (by simp))
    | _ => exact absurd (show false = true from hs) Bool.false_ne_true
  | int i =>
    obtain ⟨t, rfl⟩ := rx
    cases y with
    | non => cases ry; exact PySem.EqNone.eq_int_none (fin_bl I q (by simp))
    | int j => obtain ⟨t', rfl⟩ := ry; exact eq_int (fin_bl I q dec_int)
    | str j => obtain ⟨t', rfl⟩ := ry; exact PySem.EqMixed.eq_int_str (fin_bl I q (by simp))
    | _ => exact absurd (show false = true from hs) Bool.false_ne_true
  | str i =>
    obtain ⟨t, rfl⟩ := rx
    cases y with
    | non => cases ry; exact PySem.EqNone.eq_str_none (fin_bl I q (by simp))
    | bl j => cases ry; exact PySem.EqMixed.eq_str_bool (fin_bl I q (by simp))
    | int j => obtain ⟨t', rfl⟩ := ry; exact PySem.EqMixed.eq_str_int (fin_bl I q (by simp))
    | str j => obtain ⟨t', rfl⟩ := ry; exact eq_str (fin_bl I q dec_str)
    | _ => exact absurd (show false = true from hs) Bool.false_ne_true
  | byt i =>
    obtain ⟨t, rfl⟩ := rx
    cases y with
    | byt j => obtain ⟨t', rfl⟩ := ry; exact PySem.W.eq_bytes (fin_bl I q dec_byt)
    | _ => exact absurd (show false = true from hs) Bool.false_ne_true
  | _ => cases y <;> exact absurd (show false = true from hs) Bool.false_ne_true
theorem op_ne : OpR X (compareOp .NotEq) rNe := by
  intro pins s σ H x y v u Q I rx ry h
  obtain ⟨hs, q⟩ := h
  cases x with
  | non =>
    cases rx
    cases y with
    | non => cases ry; exact PySem.EqNone.ne_none_none (fin_bl I q (by simp))
    | bl j => cases ry; exact PySem.EqNone.ne_none_bool (fin_bl I q (by simp))
    | int j => obtain ⟨t', rfl⟩ := ry; exact PySem.EqNone.ne_none_int (fin_bl I q (by simp))
    | str j => obtain ⟨t', rfl⟩ := ry; exact PySem.EqNone.ne_none_str (fin_bl I q (by simp))
    | _ => exact absurd (show false = true from hs) Bool.false_ne_true
  | bl i =>
    cases rx
    cases y with
    | non => cases ry; exact PySem.EqNone.ne_bool_none (fin_bl I q (by simp))
    | bl j => cases ry; exact ne_bool (fin_bl I q (congrArg not dec_bl))
    | str j => obtain ⟨t', rfl⟩ := ry; exact PySem.EqMixed.ne_bool_str (fin_bl I q (by simp))
    | _ => exact absurd (show false = true from hs) Bool.false_ne_true
  | int i =>
    obtain ⟨t, rfl⟩ := rx
    cases y with
    | non => cases ry; exact PySem.EqNone.ne_int_none (fin_bl I q (by simp))
    | int j => obtain ⟨t', rfl⟩ := ry; exact ne_int (fin_bl I q (congrArg not dec_int))
    | str j => obtain ⟨t', rfl⟩ := ry; exact PySem.EqMixed.ne_int_str (fin_bl I q (by simp))
    | _ => exact absurd (show false = true from hs) Bool.false_ne_true
  | str i =>
    obtain ⟨t, rfl⟩ := rx
    cases y with
    | non => cases ry; exact PySem.EqNone.ne_str_none (fin_bl I q (by simp))
    | bl j => cases ry; exact PySem.EqMixed.ne_str_bool (fin_bl I q (by simp))
    | int j => obtain ⟨t', rfl⟩ := ry; exact PySem.EqMixed.ne_str_int (fin_bl I q (by simp))
    | str j => obtain ⟨t', rfl⟩ := ry; exact ne_str (fin_bl I q (congrArg not dec_str))
    | _ => exact absurd (show false = true from hs) Bool.false_ne_true
  | byt i =>
    obtain ⟨t, rfl⟩ := rx
    cases y with
    | byt j => obtain ⟨t', rfl⟩ := ry; exact PySem.W.ne_bytes (fin_bl I q (congrArg not dec_byt))
    | _ => exact absurd (show false = true from hs) Bool.false_ne_true
  | _ => cases y <;> exact absurd (show false = true from hs) Bool.false_ne_true

theorem op_lt : OpR X (compareOp .Lt) (rI0 fun i j => .bl (decide (i < j))) := opB0 fun _ _ _ _ _ _ _ q => lt_int q
theorem op_gt : OpR X (compareOp .Gt) (rI0 fun i j => .bl (decide (j < i))) := opB0 fun _ _ _ _ _ _ _ q => gt_int q
theorem op_ge : OpR X (compareOp .GtE) (rI0 fun i j => .bl (decide (j ≤ i))) := opB0 fun _ _ _ _ _ _ _ q => ge_int q
/-- two rules for one operation: by cases -/
theorem OpR.or {f : Value → Value → Sem Value} {r r' : R2} (h : OpR X f r) (h' : OpR X f r') : OpR X f (fun x y H Q => r x y H Q ∨ r' x y H Q) := by
  intro pins s σ H x y v u Q I rx ry q
  rcases q with q | q
  · exact h pins s σ H x y v u Q I rx ry q
  · exact h' pins s σ H x y v u Q I rx ry q

theorem nomark (b : Expr) {op : CmpOp} (h : op ≠ .In := by decide) (h2 : op ≠ .NotIn := by decide) : behindInMarks op b = false := by
  have e1 : (op == CmpOp.In) = false := by cases op <;> first | rfl | exact absurd rfl h
  have e2 : (op == CmpOp.NotIn) = false := by cases op <;> first | rfl | exact absurd rfl h2
  cases b <;> simp [behindInMarks, e1, e2]
/-- a comparison as a value; hm: nomark b, or (for in, not in) by with_unfolding_all rfl -/
theorem pe_cmpR {op : CmpOp} {r : R2} (ho : OpR X (compareOp op) r) (ha : PE X a ta) (hb : PE X b tb) (hm : behindInMarks op b = false) : PE X (.Compare a [op] [b] pos) (tOp r ta tb) := by
  intro pins s σ H Q I h
  exact wpAny_Compare1 (binT ha hb I h fun v u s2 x y H2 I2 rx ry q => ho pins s2 σ H2 x y v u Q I2 rx ry q) hm
/-- a reading of a value as a test -/
def tTest (t : TE) : TT := fun σ H Q => t σ H fun x H' => ∃ k, x = .bl k ∧ Q k H'
/-! ### truth -/
theorem line63 : (sizeLine : Nat) < 2 ^ 63 := by rw [sizeLine_eq]; decide
/-! ### strs and bytes -/
/-! ### scalar builtins, by CallR -/
theorem vals1 {x : V} {us : List Value} (r : Vals [x] us) : ∃ u, us = [u] ∧ RelV x u := by
  cases r with
  | cons r1 r2 => cases r2; exact ⟨_, rfl, r1⟩
theorem vals2 {x y : V} {us : List Value} (r : Vals [x, y] us) : ∃ u w', us = [u, w'] ∧ RelV x u ∧ RelV y w' := by
  cases r with
  | cons r1 r2 =>
    cases r2 with
    | cons r3 r4 => cases r4; exact ⟨_, _, rfl, r1, r3⟩
theorem call_max2 (hc : X.calm = true) : CallR X (.builtin "max") (fun xs H Q => ∃ i j, xs = [.int i, .int j] ∧ Q (.int (if j > i then j else i)) H) := by
  intro pins s σ H xs us Q I r h
  obtain ⟨i, j, rfl, q⟩ := h
  obtain ⟨u, w', rfl, ⟨t, rfl⟩, ⟨t', rfl⟩⟩ := vals2 r
  refine max_two_ints (I.ok.hd hc) fun h' tk k => ⟨_, H, I.kept k, ?_, q⟩
  by_cases hj : j > i
  · rw [if_pos hj, if_pos hj]; exact ⟨_, rfl⟩
  · rw [if_neg hj, if_neg hj]; exact ⟨_, rfl⟩
theorem call_int1 : CallR X (.type "int") (fun xs H Q => (∃ i, xs = [.int i] ∧ Q (.int i) H) ∨ ∃ k, xs = [.bl k] ∧ Q (.int (if k then 1 else 0)) H) := by
  intro pins s σ H xs us Q I r h
  rcases h with ⟨i, rfl, q⟩ | ⟨k, rfl, q⟩
  · obtain ⟨u, rfl, t, rfl⟩ := vals1 r
    exact call_int_int ⟨.int i, H, I, ⟨_, rfl⟩, q⟩
  · obtain ⟨u, rfl, r1⟩ := vals1 r
    cases r1
    exact call_int_bool ⟨.int (if k then 1 else 0), H, I.tok _, ⟨_, rfl⟩, q⟩
end
end L2

namespace L2
open PySem PySem.Spec PyProof.Rows

/-! ### an instance, its attributes a map -/
structure ObjM (h : Heap) (x dx C : Addr) (mA : Str → Option Value) : Prop where
  obj : h.get? x = some (PySem.W.instObj C dx)
  ns : h.Ns1 dx mA
  ne : dx ≠ x

theorem lookIn_ns {h : Heap} {dx : Addr} {mA : Str → Option Value} (n : h.Ns1 dx mA) : ∃ od, h.get? dx = some od ∧ ∀ name, PySem.W.lookIn name od = some (mA name) := by
  obtain ⟨o, es, ep, ho, hd, hk, _, hm⟩ := n
  refine ⟨o, ho, fun name => ?_⟩
  have e := hm name
  unfold nsFind findBy at e
  rw [← Array.find?_toList] at e
  unfold PySem.W.lookIn
  rw [hd]
  dsimp only
  split
  · rename_i y q
    rw [q] at e
    exact congrArg some e
  · rename_i q
    rw [q] at e
    have a : es.toList.any (·.refKey) = false := by
      rw [List.any_eq_false]
      intro y hy
      obtain ⟨z, t, hkey⟩ := hk y (Array.mem_toList_iff.mp hy)
      simp [DictEntry.refKey, hkey]
    have a' : ¬ es.toList.any (·.refKey) = true := by rw [a]; exact Bool.false_ne_true
    rw [if_neg a']
    exact congrArg some e

theorem ObjM.look {h : Heap} {x dx C : Addr} {mA : Str → Option Value} (I : ObjM h x dx C mA) : ∃ od, PySem.W.InstAt h x (PySem.W.instObj C dx) C (some od) ∧ ∀ name, PySem.W.lookIn name od = some (mA name) :=
  let ⟨od, ho, hl⟩ := lookIn_ns I.ns
  ⟨od, ⟨I.obj, rfl, rfl, ho⟩, hl⟩

section
variable {prog : Program} {w : World} {A : Around} {E : Value → Shared → Prop} {s : Shared} {K : PySem.W.Frag} {x dx C f : Addr} {mA : Str → Option Value} {name : Str} {v : Value}

theorem get_map {expr : Bool} {Q : Value → Shared → Prop} (X : K.In s.heap) (I : ObjM s.heap x dx C mA) (hg : PySem.W.plainGet K C name = true) (hh : PySem.W.hasDictIn K C = true)
    (ha : PySem.W.findIn K (.ref C) name = some none) (hv : mA name = some v) (hv' : PySem.W.handedIn v = true) (h : Q v { s with toks := s.toks + 1 }) :
    wpAny (model prog w) A (getAttr (.ref x) name expr) Q E s := by
  obtain ⟨od, J, hl⟩ := I.look
  exact PySem.W.get_value X J (PySem.W.plainGet_of hg).1 (PySem.W.findObj_own hh ha rfl (by rw [hl, hv])) hv' h

theorem get_meth {pl : Sem Bool} {Q : Value × List Value → Shared → Prop} (X : K.In s.heap) (I : ObjM s.heap x dx C mA) (hg : PySem.W.plainGet K C name = true)
    (hf : PySem.W.findIn K (.ref C) name = some (some (.ref f))) (ht : PySem.W.isFn K (.ref f) = true) (hv : mA name = none) (h : Q (.ref f, [.ref x]) s) :
    wpAny (model prog w) A (getMethod (.ref x) name pl) Q E s := by
  obtain ⟨od, J, hl⟩ := I.look
  exact PySem.W.method_fn X J (PySem.W.plainGet_of hg).1 (PySem.W.plainGet_of hg).2 hf (beq_iff_eq.mp ht) (by show (PySem.W.lookIn name od).map (·.isSome) = some false; rw [hl, hv]; rfl) h

theorem set_map {ns : List Str} {Q : Unit → Shared → Prop} (X : K.In s.heap) (I : ObjM s.heap x dx C mA)
    (hs : PySem.W.findIn K (.ref C) "__setattr__" = some (some (.builtin "object.__setattr__"))) (hp : PySem.W.plainOver K C = true) (ht : PySem.W.takerIn K C name = some none) (hh : PySem.W.hasDictIn K C = true)
    (hw : PySem.Within mA ns) (hsz : ns.length ≤ sizeLine)
    (h : ∀ h', ObjM h' x dx C (fun y => if y = name then some v else mA y) → Heap.SameBut dx s.heap h' → Q () { s with heap := h', toks := s.toks + 2 }) :
    wpAny (model prog w) A (setAttr (.ref x) name v) Q E s := by
  obtain ⟨od, J, hl⟩ := I.look
  refine PySem.W.set_plain X J hs (PySem.W.osa_open (s := { s with toks := s.toks + 1 }) (r := none) X J hp ht fun b => ?_)
  obtain ⟨cd, hc, hd'⟩ := PySem.W.any_some hh
  have hx : s.heap.get? x = some ⟨.ref C, some dx, .plain, #[]⟩ := I.obj
  refine wpAny_bind (wpAny_pure (wpAny_bind (wpAny_bind (wpAny_loadPart hx (wpAny_bind (PySem.W.Looks.here (s := { s with toks := s.toks + 1 }) (PySem.W.looks_clsIn X hc) ?_))))))
  rw [hd']
  refine wpAny_pure (a := some dx) (wpAny_bind (wpAny_pure (wpAny_bind ?_)))
  refine wpAny_nsSet1 (s := { s with toks := s.toks + 1 }) I.ns fun h' hn2 hs2 => ?_
  obtain ⟨oD, esD, epD, hoD, hdD, hcD⟩ := hn2.count (PySem.Within.cons name v hw)
  refine wpAny_bind (wpAny_lookBehind hoD (by rw [hdD]; exact pastItsLine_dict (Nat.le_trans hcD (by rw [List.length_cons]; omega))) ?_)
  exact wpAny_pure (h _ ⟨(hs2.2 _ (Ne.symm I.ne)).trans I.obj, hn2, I.ne⟩ hs2)

/-- C(..): the dict at the heap's end, the instance behind it; then its __init__ -/
theorem make_map {R : Result → Shared → Prop} {vs : List Value} {kw : List (Str × Value)} (X : K.In s.heap) (hm : PySem.W.makesIn K C = true)
    (hi : PySem.W.findIn K (.ref C) "__init__" = some (some (.ref f))) (hf : PySem.W.typeIn K (.ref f) = some (.type "function"))
    (h : codeAny (model prog w) (A.under (.builtin "type.__call__" ⟨.ref C :: vs, kw⟩)) (.call (.ref f) ⟨.ref (s.heap.objs.size + 1) :: vs, kw⟩) (PySem.W.InitBack (s.heap.objs.size + 1) R)
      { s with heap := (s.heap.push PySem.W.emptyDict).push (PySem.W.instObj C s.heap.objs.size) }) :
    codeAny (model prog w) A (.call (.ref C) ⟨vs, kw⟩) R s := by
  obtain ⟨hh, g, d, t, os⟩ := s
  exact PySem.W.make_core (PySem.W.makes_of X hm) (PySem.W.looks_findIn X hi) (fun self => PySem.W.bind_fn X self hf) (.inl rfl) h
end

/-! ### the attributes as a list of pairs -/
def putF (f : Str) (v : V) : List (Str × V) → List (Str × V)
  | [] => [(f, v)]
  | (g, x) :: r => if g = f then (g, v) :: r else (g, x) :: putF f v r
theorem lookup_putF (f g : Str) (v : V) : ∀ fs : List (Str × V), (putF f v fs).lookup g = if g = f then some v else fs.lookup g
  | [] => by
    show List.lookup g [(f, v)] = _
    by_cases h : g = f
    · have hb : (g == f) = true := beq_iff_eq.mpr h
      simp only [List.lookup, hb, if_pos h]
    · have hb : (g == f) = false := beq_eq_false_iff_ne.mpr h
      simp only [List.lookup, hb, if_neg h]
  | (k, x) :: r => by
    have ih := lookup_putF f g v r
    rw [show putF f v ((k, x) :: r) = (if k = f then (k, v) :: r else (k, x) :: putF f v r) from rfl]
    by_cases hk : k = f
    · rw [if_pos hk]
      by_cases h : g = k
      · have hb : (g == k) = true := beq_iff_eq.mpr h
        simp only [List.lookup, hb, if_pos (h.trans hk)]
      · have hb : (g == k) = false := beq_eq_false_iff_ne.mpr h
        simp only [List.lookup, hb, if_neg (fun e : g = f => h (e.trans hk.symm))]
    · rw [if_neg hk]
      by_cases h : g = k
      · have hb : (g == k) = true := beq_iff_eq.mpr h
        simp only [List.lookup, hb, if_neg (fun e : g = f => hk (h.symm.trans e))]
      · have hb : (g == k) = false := beq_eq_false_iff_ne.mpr h
        simp only [List.lookup, hb]
        exact ih
theorem keys_putF (f : Str) (v : V) : ∀ fs : List (Str × V), f ∈ (putF f v fs).map (·.1) ∧ ∀ g, g ∈ fs.map (·.1) → g ∈ (putF f v fs).map (·.1)
  | [] => ⟨by simp [putF], fun g h => by simp at h⟩
  | (k, x) :: r => by
    obtain ⟨i1, i2⟩ := keys_putF f v r
    rw [show putF f v ((k, x) :: r) = (if k = f then (k, v) :: r else (k, x) :: putF f v r) from rfl]
    by_cases hk : k = f
    · rw [if_pos hk]
      subst hk
      exact ⟨by simp, fun g h => by simpa using h⟩
    · rw [if_neg hk]
      refine ⟨?_, fun g h => ?_⟩
      · rw [List.map_cons]
        exact List.mem_cons_of_mem _ i1
      · rw [List.map_cons] at h ⊢
        rcases List.mem_cons.mp h with e | e
        · exact List.mem_cons.mpr (.inl e)
        · exact List.mem_cons_of_mem _ (i2 g e)
theorem length_putF (f : Str) (v : V) : ∀ fs : List (Str × V), (putF f v fs).length ≤ fs.length + 1
  | [] => by simp [putF]
  | (k, x) :: r => by
    have ih := length_putF f v r
    rw [show putF f v ((k, x) :: r) = (if k = f then (k, v) :: r else (k, x) :: putF f v r) from rfl]
    by_cases hk : k = f
    · rw [if_pos hk, List.length_cons, List.length_cons]; omega
    · rw [if_neg hk, List.length_cons, List.length_cons]; omega

theorem RelO.some_of {v : V} {o : Option Value} (r : RelO (some v) o) : ∃ u, o = some u ∧ RelV v u := by
  cases o with
  | none => exact (show False from r).elim
  | some u => exact ⟨u, rfl, r⟩
theorem RelO.none_of {o : Option Value} (r : RelO none o) : o = none := by
  cases o with
  | none => rfl
  | some u => exact (show False from r).elim
theorem handed_of {v : V} {u : Value} (r : RelV v u) : PySem.W.handedIn u = true := by
  cases v with
  | non => cases (show u = Value.none from r); rfl
  | bl b => cases (show u = Value.bool b from r); rfl
  | int i => obtain ⟨t, e⟩ := (show ∃ t, u = Value.int i t from r); cases e; rfl
  | str x => obtain ⟨t, e⟩ := (show ∃ t, u = Value.str x t from r); cases e; rfl
  | byt b => obtain ⟨t, e⟩ := (show ∃ t, u = Value.bytes b t from r); cases e; rfl
  | flt b => obtain ⟨t, e⟩ := (show ∃ t, u = Value.float b t from r); cases e; rfl
  | ref a => cases (show u = Value.ref a from r); rfl
  | ty n => cases (show u = Value.type n from r); rfl

section
variable {P : Program} {w : World} {H H' : Hp} {h h' : Heap} {a C dx : Addr} {fs fs' : List (Str × V)}
theorem ins_get (hok : HOk P w H h) (e : H a = some (.ins C dx fs)) : ∃ mA, ObjM h a dx C mA ∧ (∀ f, RelO (fs.lookup f) (mA f)) ∧ PySem.Within mA (fs.map (·.1)) ∧ fs.length ≤ 1000 ∧ H dx = some (.own a) := by
  obtain ⟨d, z, ne, ob, mA, n, r, q⟩ := (show ObjOk P w H h a (.ins C dx fs) from hok a _ e)
  exact ⟨mA, ⟨ob, n, ne⟩, r, q, z, d⟩
end

/-! ### what of the text a class must have -/
structure Cls (K : PySem.W.Frag) (C : Addr) : Prop where
  pg : PySem.W.plainGet K C Str.empty = true
  hd : PySem.W.hasDictIn K C = true
  po : PySem.W.plainOver K C = true
  sa : PySem.W.findIn K (.ref C) "__setattr__" = some (some (.builtin "object.__setattr__"))
theorem Cls.get {K : PySem.W.Frag} {C : Addr} (c : Cls K C) (f : Str) : PySem.W.plainGet K C f = true := c.pg
/-- no class of it has the name -/
def NoAttr (K : PySem.W.Frag) (C : Addr) (f : Str) : Prop := PySem.W.findIn K (.ref C) f = some none
theorem NoAttr.taker {K : PySem.W.Frag} {C : Addr} {f : Str} (n : NoAttr K C f) : PySem.W.takerIn K C f = some none := by
  unfold PySem.W.takerIn
  rw [show PySem.W.findIn K (.ref C) f = some none from n]
  rfl
/-- a method: a plain def of the class or of one above it -/
structure Meth (K : PySem.W.Frag) (C : Addr) (m : Str) (f : Addr) : Prop where
  at_ : PySem.W.findIn K (.ref C) m = some (some (.ref f))
  fn : PySem.W.isFn K (.ref f) = true
  kp : PySem.W.keepIn K (.ref f) = true

section
variable {X : Cx} {pins : List (Addr × Obj)} {σ : St} {H : Hp} {s : Shared} {a C dx : Addr} {fs : List (Str × V)} {f : Str} {v : V} {A : Around} {E : Value → Shared → Prop}

theorem getattr_ok {b : Bool} {Q : Value → Shared → Prop} (I : Inv X pins σ H s) (e : H a = some (.ins C dx fs)) (c : Cls X.K C) (n : NoAttr X.K C f) (l : fs.lookup f = some v)
    (h : ∀ u s', Inv X pins σ H s' → RelV v u → Q u s') : wpAny (model X.prog X.w) A (getAttr (.ref a) f b) Q E s := by
  obtain ⟨mA, O, r, _, _, _⟩ := ins_get I.hok e
  obtain ⟨u, hu, ru⟩ := RelO.some_of (v := v) (o := mA f) (by rw [← l]; exact r f)
  exact get_map I.kIn O (c.get f) c.hd n hu (handed_of ru) (h u _ (I.tok _) ru)

theorem getmeth_ok {m : Str} {g : Addr} {pl : Sem Bool} {Q : Value × List Value → Shared → Prop} (I : Inv X pins σ H s) (e : H a = some (.ins C dx fs)) (c : Cls X.K C) (k : Meth X.K C m g) (l : fs.lookup m = none)
    (h : Q (.ref g, [.ref a]) s) : wpAny (model X.prog X.w) A (getMethod (.ref a) m pl) Q E s := by
  obtain ⟨mA, O, r, _, _, _⟩ := ins_get I.hok e
  have hn : mA m = none := RelO.none_of (by rw [← l]; exact r m)
  exact get_meth I.kIn O (c.get m) k.at_ k.fn hn h

theorem setattr_ok {y : V} {u : Value} {Q : Unit → Shared → Prop} (I : Inv X pins σ H s) (e : H a = some (.ins C dx fs)) (c : Cls X.K C) (n : NoAttr X.K C f) (hl : fs.length < 1000) (ry : RelV y u)
    (h : ∀ s', Inv X pins σ (upd H a (.ins C dx (putF f y fs))) s' → Q () s') : wpAny (model X.prog X.w) A (setAttr (.ref a) f u) Q E s := by
  obtain ⟨mA, O, r, wi, _, ho⟩ := ins_get I.hok e
  have hz : (fs.map (·.1)).length ≤ sizeLine := by rw [List.length_map, sizeLine_eq]; omega
  refine set_map I.kIn O c.sa c.po n.taker c.hd wi hz fun h' O' sb => h _ ?_
  have hd : ∃ o, h'.get? dx = some o := let ⟨o, _, _, e', _⟩ := O'.ns; ⟨o, e'⟩
  refine I.write (x := a) (e := dx) (by rw [e]; exact True.intro) (.inr ho) (fun b q hb z => (sb.2 b hb).trans z) hd ?_
  refine ⟨by rw [upd_ne O.ne]; exact ho, ?_, O.ne, O'.obj, _, O'.ns, fun g => ?_, fun g hg => ?_⟩
  · have := length_putF f y fs; omega
  · show RelO ((putF f y fs).lookup g) (if g = f then some u else mA g)
    rw [lookup_putF]
    by_cases q : g = f
    · rw [if_pos q, if_pos q]; exact ry
    · rw [if_neg q, if_neg q]; exact r g
  · by_cases q : g = f
    · rw [q]; exact (keys_putF f y fs).1
    · refine (keys_putF f y fs).2 g (wi g fun z => hg ?_)
      show (if g = f then some u else mA g) = none
      rw [if_neg q]; exact z

/-- a new instance, tracked, without attributes -/
theorem Inv.made (I : Inv X pins σ H s) : Inv X pins σ (upd (upd H s.heap.objs.size (.own (s.heap.objs.size + 1))) (s.heap.objs.size + 1) (.ins C s.heap.objs.size []))
    { s with heap := (s.heap.push PySem.W.emptyDict).push (PySem.W.instObj C s.heap.objs.size) } := by
  have e1 : (s.heap.push PySem.W.emptyDict).get? s.heap.objs.size = some PySem.W.emptyDict := Heap.get?_push_size s.heap rfl
  have e2 : ((s.heap.push PySem.W.emptyDict).push (PySem.W.instObj C s.heap.objs.size)).get? (s.heap.objs.size + 1) = some (PySem.W.instObj C s.heap.objs.size) := by
    have := Heap.get?_push_size (s.heap.push PySem.W.emptyDict) (o := PySem.W.instObj C s.heap.objs.size) rfl
    rwa [Heap.size_push] at this
  have e3 : (s.heap.push PySem.W.emptyDict).Ns s.heap.objs.size (fun _ => none) := ⟨PySem.W.emptyDict, #[], _, e1, rfl, (fun e he => absurd he (by simp)), fun _ => rfl⟩
  have I1 := I.laid (a := s.heap.objs.size) (o := .own (s.heap.objs.size + 1)) (h' := s.heap.push PySem.W.emptyDict) (t' := s.toks) (fun b u q => Heap.get?_push_of_some _ q) (Nat.le_refl _) ⟨_, e1⟩
  refine I1.laid (a := s.heap.objs.size + 1) (o := .ins C s.heap.objs.size []) (t' := s.toks) (fun b u q => Heap.get?_push_of_some _ q) (Nat.le_of_eq (Heap.size_push _ _)) ?_
  have ne : s.heap.objs.size ≠ s.heap.objs.size + 1 := Nat.ne_of_lt (Nat.lt_succ_self _)
  refine ⟨by rw [upd_ne ne, upd_same], Nat.zero_le _, ne, e2, fun _ => none, (Heap.Ns1.of_empty e3).at fun o q => Heap.get?_push_of_some _ q, fun _ => True.intro, fun y hy => absurd rfl hy⟩

/-- e.f where nothing but the object is asked: through attributeBase (super) and the last hold -/
theorem attr_of {prog : Program} {w : World} {env : Env} {e : Expr} {f : Str} {pos : Pos} {s : Shared} {Q : Value → Shared → Prop} (hb : attributeBase e f env (eval e env) = eval e env)
    (h : wpAny (model prog w) A (eval e env) (fun o s₁ => wpAny (model prog w) A (getAttr o f true) Q E s₁) E s) : wpAny (model prog w) A (eval (.Attribute e f pos) env) Q E s :=
  Attribute_any_ h (by rw [arm_eval_Attribute, hb])
end

/-! ### readings and rules -/
section
variable {X : Cx} {o e value : Expr} {f : Str} {pos pos' tpos : Pos} {ta tv : TE}
end

/-! ### isinstance -/
section
variable {X : Cx} {pins : List (Addr × Obj)} {σ : St} {H : Hp} {s : Shared} {A : Around} {E : Value → Shared → Prop} {Q : Value → Shared → Prop} {c : Value} {b : Bool}
/-- the type of a value, as the fragment's deciders take it; for an instance its class -/
inductive TyOf (K : PySem.W.Frag) (H : Hp) : V → Value → Prop where
  | non : TyOf K H .non (.type "NoneType")
  | bl (x : Bool) : TyOf K H (.bl x) (.type "bool")
  | int (i : Int) : TyOf K H (.int i) (.type "int")
  | str (x : Str) : TyOf K H (.str x) (.type "str")
  | flt (x : UInt64) : TyOf K H (.flt x) (.type "float")
  | lst {a : Addr} {xs : List V} (e : H a = some (.lst xs)) : TyOf K H (.ref a) (.type "list")
  | frz {a : Addr} {o : Obj} {xs : List V} (e : H a = some (.frz o (.lst xs))) : TyOf K H (.ref a) (.type "list")
  | tup {a : Addr} {xs : List V} (e : H a = some (.tup xs)) : TyOf K H (.ref a) (.type "tuple")
  | dK {a : Addr} {kvs : List (Key × V)} (e : H a = some (.dK kvs)) : TyOf K H (.ref a) (.type "dict")
  | dT {a : Addr} {kvs : List (List Key × V)} (e : H a = some (.dT kvs)) : TyOf K H (.ref a) (.type "dict")
  | ins {a C dx : Addr} {fs : List (Str × V)} (e : H a = some (.ins C dx fs)) (cl : Cls K C) (ha : PySem.W.findIn K (.ref C) "__class__" = some (some (.builtin "object.__class__")))
      (hn : PySem.W.specialIn K (.builtin "object.__class__") "__get__" = some (some (.builtin "getset_descriptor.__get__"))) (htk : PySem.W.takesIn K (.builtin "object.__class__") = some true)
      (hm : PySem.W.mroIn K C (.type "object") = some true) : TyOf K H (.ref a) (.ref C)
/-- isinstance(x, c) for one class c, a built-in or an own one: kitOne's answer -/
theorem isinst_ok {x : V} {u t : Value} (I : Inv X pins σ H s) (rx : RelV x u) (ty : TyOf X.K H x t) (e : PySem.W.kitOne X.K t c = some b) (h : ∀ tk, Q (.bool b) { s with toks := tk }) :
    wpAny (model X.prog X.w) A (call (.builtin "isinstance") [u, c]) Q E s := by
  cases ty with
  | non => cases (show u = Value.none from rx); exact PySem.W.kia_one PySem.W.kitx_none I.kIn True.intro e (fun z => nomatch z) h
  | bl y => cases (show u = Value.bool y from rx); exact PySem.W.kia_one PySem.W.kitx_bool I.kIn True.intro e (fun z => nomatch z) h
  | int i => obtain ⟨t, q⟩ := (show ∃ t, u = Value.int i t from rx); cases q; exact PySem.W.kia_one PySem.W.kitx_int I.kIn True.intro e (fun z => nomatch z) h
  | str y => obtain ⟨t, q⟩ := (show ∃ t, u = Value.str y t from rx); cases q; exact PySem.W.kia_one PySem.W.kitx_str I.kIn True.intro e (fun z => nomatch z) h
  | flt y => obtain ⟨t, q⟩ := (show ∃ t, u = Value.float y t from rx); cases q; exact PySem.W.kia_one PySem.W.kitx_float I.kIn True.intro e (fun z => nomatch z) h
  | @lst a xs ea =>
    cases (show u = Value.ref a from rx)
    obtain ⟨_, _, n, _, h1⟩ := (show ObjOk X.prog X.w H s.heap a (.lst xs) from I.hok a _ ea)
    exact PySem.W.kia_one PySem.W.kitx_list I.kIn ⟨_, h1, rfl⟩ e (fun z => nomatch z) h
  | @frz a ob xs ea =>
    cases (show u = Value.ref a from rx)
    obtain ⟨_, _, _, n, _, h1⟩ := (show ObjOk X.prog X.w H s.heap a (.frz ob (.lst xs)) from I.hok a _ ea)
    exact PySem.W.kia_one PySem.W.kitx_list I.kIn ⟨_, h1, rfl⟩ e (fun z => nomatch z) h
  | @tup a xs ea =>
    cases (show u = Value.ref a from rx)
    obtain ⟨_, _, _, p⟩ := (show ObjOk X.prog X.w H s.heap a (.tup xs) from I.hok a _ ea)
    obtain ⟨o, h1, h2, _⟩ := p
    exact PySem.W.kia_one PySem.W.kitx_tuple I.kIn ⟨o, h1, h2⟩ e (fun z => nomatch z) h
  | @dK a kvs ea =>
    cases (show u = Value.ref a from rx)
    obtain ⟨_, _, vs, _, p⟩ := (show ObjOk X.prog X.w H s.heap a (.dK kvs) from I.hok a _ ea)
    obtain ⟨o, es, ep, h1, h2, _⟩ := p
    exact PySem.W.kia_one PySem.W.kitx_dict I.kIn ⟨o, h1, h2.1⟩ e (fun z => nomatch z) h
  | @dT a kvs ea =>
    cases (show u = Value.ref a from rx)
    obtain ⟨_, _, xs, _, o, es, ep, h1, h2, _⟩ := (show ObjOk X.prog X.w H s.heap a (.dT kvs) from I.hok a _ ea)
    exact PySem.W.kia_one PySem.W.kitx_dict I.kIn ⟨o, h1, h2.1⟩ e (fun z => nomatch z) h
  | @ins a C dx fs ea cl ha hn htk hm =>
    cases (show u = Value.ref a from rx)
    obtain ⟨mA, O, _⟩ := ins_get I.hok ea
    obtain ⟨od, J, _⟩ := O.look
    exact PySem.W.kia_one (PySem.W.kitx_own (cl.get _) cl.hd ha hn htk hm) I.kIn J e (fun z => nomatch z) h
end
end L2

namespace L2
open PySem PySem.Spec PyProof.Rows

/-! ### room -/
structure Room (k : Nat) (A : Around) : Prop where
  hd : A.handled = none
  dp : A.depth + 3 * k + 5 < recursionLimit
  un : A.units + 16 * k + 200 < cLine
theorem Room.mono {j k : Nat} {A : Around} (r : Room k A) (h : j ≤ k) : Room j A := ⟨r.hd, by have := r.dp; omega, by have := r.un; omega⟩
theorem Room.deeper {k : Nat} {A : Around} (r : Room (k + 1) A) (env : Env) : Room k (A.deeper env) :=
  ⟨r.hd, by have := r.dp; show A.depth + 1 + 3 * k + 5 < _; omega, by have := r.un; show A.units + 3 + 16 * k + 200 < _; omega⟩
theorem make_depth {A : Around} {C : Addr} {us : List Value} {kw : List (Str × Value)} : (A.under (.builtin "type.__call__" ⟨.ref C :: us, kw⟩)).depth = A.depth + 1 := by
  first | rfl | simp [Around.under, Code.weight, Code.isCreation, Code.isGuard, Code.isCaller, Code.frames, Code.isFrame, guardIds]
theorem make_units {A : Around} {C : Addr} {us : List Value} {kw : List (Str × Value)} : (A.under (.builtin "type.__call__" ⟨.ref C :: us, kw⟩)).units = A.units + 1 := by
  first | rfl | simp [Around.under, Code.cUnits, Code.frames, Code.isFrame]
theorem Room.make {k : Nat} {A : Around} (r : Room (k + 1) A) (C : Addr) (us : List Value) (kw : List (Str × Value)) : Room k (A.under (.builtin "type.__call__" ⟨.ref C :: us, kw⟩)) :=
  ⟨r.hd, by have := r.dp; rw [make_depth]; omega, by have := r.un; rw [make_units]; omega⟩
theorem Room.depth {k : Nat} {A : Around} (r : Room k A) : A.depth < recursionLimit := by have := r.dp; omega
theorem Room.units {k : Nat} {A : Around} (r : Room k A) : A.units + 64 < cLine := by have := r.un; omega
/-! ### argument lists and displays -/
def tNil : TA := fun _ H Q => Q [] H
def tCons (ta : TE) (tr : TA) : TA := fun σ H Q => ta σ H fun x H1 => tr σ H1 fun xs H2 => Q (x :: xs) H2
section
variable {X : Cx} {e : Expr} {es : List Expr} {te : TE} {t : TA} {pos : Pos}
theorem pa_nil : PA X [] tNil := fun _ _ _ _ H Q I h => Calls.spliced_nil ⟨[], H, I, .nil, h⟩
theorem pa_cons (ha : PE X e te) (hr : PA X es t) (hs : starEach (e :: es) X.env = (false, eval e X.env) :: starEach es X.env := by rfl) : PA X (e :: es) (tCons te t) := by
  intro pos pins s σ H Q I h
  rw [hs]
  show wpAny _ _ (spliced ((false, eval e X.env) :: backTo pos (starEach es X.env))) _ _ s
  refine Calls.spliced_cons (thn (ha pins s σ H _ I h) fun u s1 ⟨x, H1, I1, r1, q1⟩ => ?_)
  exact thn (hr pos pins s1 σ H1 _ I1 q1) fun us s2 ⟨xs, H2, I2, r2, q2⟩ => ⟨x :: xs, H2, I2, .cons r1 r2, q2⟩

/-- a tuple, a list of written items -/
def tTup (t : TA) : TE := fun σ H Q => t σ H fun xs H1 => xs.length ≤ sizeLine ∧ ∀ p, H1 p = none → Q (.ref p) (upd H1 p (.tup xs))
def tLst (t : TA) : TE := fun σ H Q => t σ H fun xs H1 => xs.length ≤ sizeLine ∧ ∀ p, H1 p = none → Q (.ref p) (upd H1 p (.lst xs))
theorem pe_tup {x1} (h : PA X es t) : PE X (.Tuple es x1 pos) (tTup t) := by
  intro pins s σ H Q I hq
  refine wpAny_Tuple_spliced (thn (h pos pins s σ H _ I hq) fun us s1 ⟨xs, H1, I1, r, z, q⟩ => ⟨by rw [← r.length]; exact z, ?_⟩)
  have hf : H1 s1.heap.objs.size = none := I1.hok.fresh (Nat.le_refl _)
  refine ⟨.ref s1.heap.objs.size, upd H1 s1.heap.objs.size (.tup xs), I1.laid (t' := s1.toks) (fun b u e => Heap.get?_push_of_some _ e) (Nat.le_refl _) ?_, rfl, q _ hf⟩
  exact ⟨z, us, r, ⟨_, Heap.get?_push_size _ rfl, rfl, _, rfl⟩⟩
theorem pe_lst (h : PA X es t) : PE X (.List es pos) (tLst t) := by
  intro pins s σ H Q I hq
  refine wpAny_List_spliced (thn (h pos pins s σ H _ I hq) fun us s1 ⟨xs, H1, I1, r, z, q⟩ => ⟨by rw [← r.length]; exact z, ?_⟩)
  have hf : H1 s1.heap.objs.size = none := I1.hok.fresh (Nat.le_refl _)
  refine ⟨.ref s1.heap.objs.size, upd H1 s1.heap.objs.size (.lst xs), I1.laid (t' := s1.toks) (fun b u e => Heap.get?_push_of_some _ e) (Nat.le_refl _) ?_, rfl, q _ hf⟩
  exact ⟨z, us, 0, r, Heap.get?_push_size _ rfl⟩
end

/-! ### what a def promises -/
/-- a def's promise: the bound arguments in the parameters' order, the heap, the wanted end, the wanted exception -/
abbrev Sp := List V → Hp → VK → XK → Prop
/-- how an exception lies behind a call (file 08 gives it): the callers' frames, abstract heap and state ahead of the call, the wish, the exception, the state -/
abbrev CXT := List Env → Hp → Shared → XK → Value → Shared → Prop

/-- the state at a call -/
structure Env0 (P : Program) (w : World) (K : PySem.W.Frag) (mg : Str → Option Value) (base : Heap) (A : Around) (outer : List Env) (s : Shared) (H : Hp) : Prop where
  frames : A.frames = some outer
  mod : Mod K mg base
  bs : ∀ b o, base.get? b = some o → s.heap.get? b = some o ∧ H b = none
  bsz : base.objs.size ≤ s.heap.objs.size
  funs : s.heap.FunFrames base outer
  frf : ∀ b ∈ frs outer, H b = none
  hok : HOk P w H s.heap
  bare : AllBare s.gens
/-- a call's end -/
def CE (outer : List Env) (P : Program) (w : World) (H : Hp) (s : Shared) (Q : VK) (u : Value) (s' : Shared) : Prop :=
  ∃ v H', s'.os = s.os ∧ AllBare s'.gens ∧ Un (frs outer) [] H H' s.heap s'.heap ∧ HOk P w H' s'.heap ∧ RelV v u ∧ Q v H'
def CR (CX : CXT) (outer : List Env) (P : Program) (w : World) (H : Hp) (s : Shared) (Q : VK) (E : XK) (r : Result) (s' : Shared) : Prop :=
  match r with
  | .ok (.ret u) => CE outer P w H s Q u s'
  | .ok _ => False
  | .error e => CX outer H s E e s'
structure FnOk (P : Program) (w : World) (K : PySem.W.Frag) (mg : Str → Option Value) (base : Heap) (CX : CXT) (k : Nat) (f : Addr) (fd : FuncData) (ps : List Str) (sp : Sp) : Prop where
  len : ∀ vs H Q E, sp vs H Q E → vs.length = ps.length
  run : ∀ (A : Around) (outer : List Env) (s : Shared) (H : Hp) (args : Args) (us : List Value) (vs : List V) (Q : VK) (E : XK), Room k A → Env0 P w K mg base A outer s H → BindsTo s fd args (ps.zip us) → Vals vs us → sp vs H Q E →
    codeAny (model P w) A (.call (.ref f) args) (CR CX outer P w H s Q E) s
theorem FnOk.mono {P : Program} {w : World} {K : PySem.W.Frag} {mg : Str → Option Value} {base : Heap} {CX : CXT} {j k : Nat} {f : Addr} {fd : FuncData} {ps : List Str} {sp : Sp} (F : FnOk P w K mg base CX j f fd ps sp) (h : j ≤ k) :
    FnOk P w K mg base CX k f fd ps sp := ⟨F.len, fun A outer s H args us vs Q E hr => F.run A outer s H args us vs Q E (hr.mono h)⟩
/-- a weaker promise -/
theorem FnOk.imp {P : Program} {w : World} {K : PySem.W.Frag} {mg : Str → Option Value} {base : Heap} {CX : CXT} {k : Nat} {f : Addr} {fd : FuncData} {ps : List Str} {sp sp' : Sp} (F : FnOk P w K mg base CX k f fd ps sp)
    (h : ∀ vs H Q E, sp' vs H Q E → sp vs H Q E) : FnOk P w K mg base CX k f fd ps sp' :=
  ⟨fun vs H Q E q => F.len vs H Q E (h _ _ _ _ q), fun A outer s H args us vs Q E hr he hb hv hs => F.run A outer s H args us vs Q E hr he hb hv (h _ _ _ _ hs)⟩

theorem Env0.make {P : Program} {w : World} {K : PySem.W.Frag} {mg : Str → Option Value} {base : Heap} {A : Around} {outer : List Env} {s : Shared} {H : Hp} (e : Env0 P w K mg base A outer s H) (C : Addr) (us : List Value) (kw : List (Str × Value)) :
    Env0 P w K mg base (A.under (.builtin "type.__call__" ⟨.ref C :: us, kw⟩)) outer s H := ⟨by first | exact e.frames | (simpa [Around.under, Code.envs, Code.isFrame, pushEnvs] using e.frames), e.mod, e.bs, e.bsz, e.funs, e.frf, e.hok, e.bare⟩
section
variable {X : Cx} {pins : List (Addr × Obj)} {σ : St} {H : Hp} {s s' : Shared}
/-- from a body: what a callee wants -/
theorem Inv.env0 (I : Inv X pins σ H s) : Env0 X.prog X.w X.K X.mg X.base X.A X.stack s H :=
  ⟨I.ok.frames, I.ok.mod, I.bs, Nat.le_trans I.ok.bsz I.sz, I.stack, I.stkFree, I.hok, I.bare⟩
/-- behind a call -/
theorem Inv.after {Q : VK} {u : Value} (I : Inv X pins σ H s) (h : CE X.stack X.prog X.w H s Q u s') : EP X pins σ Q u s' := by
  obtain ⟨v, H', os, bare, un, hok, r, q⟩ := h
  obtain ⟨hh, g, d, t, os'⟩ := s'
  obtain rfl : os' = s.os := os
  exact ⟨v, H', I.call (h' := hh) (g' := g) (d' := d) (t' := t) (ch := []) un hok bare (fun b z => absurd z (by simp)), r, q⟩
end

/-! ### calls -/
/-- f(..): the written arguments, then the defaults dvs; E: what is wanted of an exception -/
def tCall (sp : Sp) (dvs : List V) (E : XK) (t : TA) : TE := fun σ H Q => t σ H fun vs H1 => sp (vs ++ dvs) H1 Q E
/-- how the parameters are bound: us the positional arguments, kw the keywords' values by name, ds the defaults that fill up -/
def Binds (K : PySem.W.Frag) (fd : FuncData) (ps : List Str) (ds : List Value) : Prop :=
  ∀ (s : Shared) (us : List Value), K.In s.heap → (us ++ ds).length = ps.length → BindsTo s fd ⟨us, []⟩ (ps.zip (us ++ ds))
/-- every parameter is given -/
theorem Binds.all {K : PySem.W.Frag} {fd : FuncData} {ps : List Str} (h : ∀ us : List Value, us.length = ps.length → bindArgs fd ⟨us, []⟩ = pure (ps.zip us)) : Binds K fd ps [] := fun s us _ hl => by
  rw [List.append_nil] at hl ⊢
  exact .of_eq (h us hl)

/-- an exception of a callee reaches what this body wants of exceptions -/
def Passes (CX : CXT) (X : Cx) (E : XK) : Prop := ∀ (pins : List (Addr × Obj)) (σ : St) (H : Hp) (s : Shared) (e : Value) (s' : Shared), Inv X pins σ H s → CX X.stack H s E e s' → X.xe e s'

section
variable {X : Cx} {CX : CXT} {k : Nat} {f C : Addr} {fd : FuncData} {ps : List Str} {sp : Sp} {dvs : List V} {ds : List Value} {E : XK} {x m : Str} {p pos apos : Pos} {e o : Expr} {es : List Expr} {ta : TE} {t : TA}

/-- the callee runs -/
theorem run_fn {pins : List (Addr × Obj)} {σ : St} {H : Hp} {s : Shared} {Q : VK} {us : List Value} {vs : List V} (F : FnOk X.prog X.w X.K X.mg X.base CX k f fd ps sp) (hr : Room k X.A) (hb : Binds X.K fd ps ds) (hd : Vals dvs ds) (hx : Passes CX X E)
    (I : Inv X pins σ H s) (r : Vals vs us) (h : sp (vs ++ dvs) H Q E) : wpAny (model X.prog X.w) X.A (call (.ref f) us) (EP X pins σ Q) X.xe s := by
  have r2 : Vals (vs ++ dvs) (us ++ ds) := r.append hd
  have hl : (us ++ ds).length = ps.length := by rw [← r2.length]; exact F.len _ _ _ _ h
  refine wpAny_call (codeAny_mono (F.run X.A X.stack s H ⟨us, []⟩ (us ++ ds) (vs ++ dvs) Q E hr I.env0 (hb s us I.kIn hl) r2 h) fun r s' hq => ?_)
  cases r with
  | error e => exact hx pins σ H s e s' I hq
  | ok fl =>
    cases fl with
    | ret u => exact I.after hq
    | next => exact False.elim hq
    | brk => exact False.elim hq
    | cont => exact False.elim hq

theorem pe_call (F : FnOk X.prog X.w X.K X.mg X.base CX k f fd ps sp) (hr : Room k X.A) (hg : Gl X x) (hm : X.mg x = some (.ref f)) (hk : PySem.W.keepIn X.K (.ref f) = true) (hb : Binds X.K fd ps ds) (hd : Vals dvs ds) (hx : Passes CX X E)
    (ha : PA X (e :: es) t) (hdb : (x == ("__debug__" : Str)) = false := by decide) (he : starEach (e :: es) X.env = (false, eval e X.env) :: starEach es X.env := by rfl) (hpl : (backTo pos (starEach es X.env)).any (·.1) = false := by rfl) :
    PE X (.Call (.Name x p) (e :: es) [] pos) (tCall sp dvs E t) := by
  intro pins s σ H Q I h
  refine wpAny_Call_Name_kw (ld_glob I hg hm ?_ hdb)
  refine PySem.W.callWith_K (h₀ := X.base) I.ok.mod.kin hk (thn (ha pos pins s σ H _ I h) fun us s1 ⟨vs, H1, I1, r, q⟩ => ⟨I1.kIn, ?_⟩) he hpl
  exact run_fn F hr hb hd hx I1 r q
/-- what a class must have to be made -/
structure Mk (K : PySem.W.Frag) (C f : Addr) : Prop where
  makes : PySem.W.makesIn K C = true
  init : PySem.W.findIn K (.ref C) "__init__" = some (some (.ref f))
  fn : PySem.W.isFn K (.ref f) = true
  kp : PySem.W.keepIn K (.ref C) = true

theorem run_make {pins : List (Addr × Obj)} {σ : St} {H : Hp} {s : Shared} {Q : VK} {us : List Value} {vs : List V} (M : Mk X.K C f) (F : FnOk X.prog X.w X.K X.mg X.base CX k f fd ps sp) (hr : Room (k + 1) X.A) (hb : Binds X.K fd ps ds) (hd : Vals dvs ds)
    (hx : Passes CX X E) (I : Inv X pins σ H s) (r : Vals vs us)
    (h : ∀ x dx, H x = none → H dx = none → dx ≠ x → sp (.ref x :: (vs ++ dvs)) (upd (upd H dx (.own x)) x (.ins C dx [])) (fun v H2 => v = .non ∧ Q (.ref x) H2) E) :
    wpAny (model X.prog X.w) X.A (call (.ref C) us) (EP X pins σ Q) X.xe s := by
  have hq := h (s.heap.objs.size + 1) s.heap.objs.size (I.hok.fresh (Nat.le_succ _)) (I.hok.fresh (Nat.le_refl _)) (Nat.ne_of_lt (Nat.lt_succ_self _))
  have I2 := Inv.made (C := C) I
  have r2 : Vals (V.ref (s.heap.objs.size + 1) :: (vs ++ dvs)) (Value.ref (s.heap.objs.size + 1) :: (us ++ ds)) := .cons rfl (r.append hd)
  have hl : (Value.ref (s.heap.objs.size + 1) :: us ++ ds).length = ps.length := by
    have e := r2.length
    rw [F.len _ _ _ _ hq] at e
    exact e.symm
  refine wpAny_call (make_map (f := f) I.kIn M.makes M.init (beq_iff_eq.mp M.fn) (codeAny_mono (F.run _ X.stack _ _ ⟨Value.ref (s.heap.objs.size + 1) :: us, []⟩ (Value.ref (s.heap.objs.size + 1) :: (us ++ ds)) _ _ E (hr.make C us [])
    (I2.env0.make C us []) (hb _ (Value.ref (s.heap.objs.size + 1) :: us) I2.kIn hl) r2 hq) fun r s' hq' => ?_))
  cases r with
  | error e => exact hx pins σ _ _ e s' I2 hq'
  | ok fl =>
    cases fl with
    | ret u =>
      obtain ⟨v, H', I3, rv, ev, q3⟩ := I2.after hq'
      subst ev
      exact ⟨rv, ⟨V.ref (s.heap.objs.size + 1), H', I3, rfl, q3⟩⟩
    | next => exact False.elim hq'
    | brk => exact False.elim hq'
    | cont => exact False.elim hq'
end

/-! ### keywords -/
section
variable {X : Cx} {CX : CXT} {k : Nat} {f C : Addr} {fd : FuncData} {ps ks : List Str} {sp : Sp} {E : XK} {x m : Str} {p pos apos kpos : Pos} {e o : Expr} {es : List Expr} {kws : List Keyword} {te ta : TE} {t tk : TA} {nm : Option Str}
variable {g : List Value → List Value → List Value} {gV : List V → List V → List V}
end

/-! ### a def's body keeps its promise -/
/-- names: the parameters first -/
structure FnScope (N P : List Str) (sc : Scope) : Prop where
  kind : sc.kind = .function
  co : sc.isCoroutine = false
  gen : sc.isGenerator = false
  nd : N.Nodup
  pre : N.take P.length = P
  par : ∀ x ∈ P, sc.names.lookup x = some .local ∨ sc.names.lookup x = some .cell
  nofree : ∀ y ∈ sc.names, y.2 ≠ .free

theorem bindL_out {kindOf : Str → Option NameKind} {x : Str} : ∀ {binds : List (Str × Value)} {m : Str → Option Value}, (∀ v, (x, v) ∉ binds) → bindL kindOf binds m x = m x
  | [], _, _ => rfl
  | (n, v) :: r, m, h => by
    unfold bindL
    rw [bindL_out fun w hw => h w (List.mem_cons_of_mem _ hw)]
    split
    · have : x ≠ n := by rintro rfl; exact h v List.mem_cons_self
      simp [this]
    · rfl
theorem bindC_out {kindOf : Str → Option NameKind} {x : Str} : ∀ {binds : List (Str × Value)} {m : Str → Option Value}, (∀ v, (x, v) ∉ binds) → bindC kindOf binds m x = m x
  | [], _, _ => rfl
  | (n, v) :: r, m, h => by
    unfold bindC
    rw [bindC_out fun w hw => h w (List.mem_cons_of_mem _ hw)]
    split
    · rfl
    · have : x ≠ n := by rintro rfl; exact h v List.mem_cons_self
      simp [this]
theorem bindL_get {kindOf : Str → Option NameKind} {x : Str} {v : Value} : ∀ {P : List Str} {vs : List Value} {i : Nat} {m : Str → Option Value}, P.Nodup → P[i]? = some x → vs[i]? = some v → kindOf x = some .local →
    bindL kindOf (P.zip vs) m x = some v
  | [], _, _, _, _, h, _, _ => by simp at h
  | _ :: _, [], _, _, _, _, h, _ => by simp at h
  | p :: P, w :: vs, 0, m, nd, h1, h2, hk => by
    simp at h1 h2; subst h1; subst h2
    show bindL kindOf ((p, w) :: P.zip vs) m p = _
    unfold bindL
    rw [bindL_out fun v hv => (List.nodup_cons.mp nd).1 (List.of_mem_zip hv).1, if_pos hk]
    simp
  | p :: P, w :: vs, i + 1, m, nd, h1, h2, hk => by
    show bindL kindOf ((p, w) :: P.zip vs) m x = _
    unfold bindL
    exact bindL_get (i := i) (List.nodup_cons.mp nd).2 (by simpa using h1) (by simpa using h2) hk
theorem bindC_get {kindOf : Str → Option NameKind} {x : Str} {v : Value} : ∀ {P : List Str} {vs : List Value} {i : Nat} {m : Str → Option Value}, P.Nodup → P[i]? = some x → vs[i]? = some v → kindOf x ≠ some .local →
    bindC kindOf (P.zip vs) m x = some v
  | [], _, _, _, _, h, _, _ => by simp at h
  | _ :: _, [], _, _, _, _, h, _ => by simp at h
  | p :: P, w :: vs, 0, m, nd, h1, h2, hk => by
    simp at h1 h2; subst h1; subst h2
    show bindC kindOf ((p, w) :: P.zip vs) m p = _
    unfold bindC
    rw [bindC_out fun v hv => (List.nodup_cons.mp nd).1 (List.of_mem_zip hv).1, if_neg hk]
    simp
  | p :: P, w :: vs, i + 1, m, nd, h1, h2, hk => by
    show bindC kindOf ((p, w) :: P.zip vs) m x = _
    unfold bindC
    exact bindC_get (i := i) (List.nodup_cons.mp nd).2 (by simpa using h1) (by simpa using h2) hk

/-- the names' values at the entry -/
def start (N : List Str) (vs : List V) : St := vs.map some ++ List.replicate (N.length - vs.length) none

/-- the context of a def's body, at its entry; an exception leaves the frame, then lies as CX says -/
def cxOf (CX : CXT) (P : Program) (w : World) (K : PySem.W.Frag) (mg : Str → Option Value) (base : Heap) (N : List Str) (qual : Str) (scope : Scope) (f : Addr) (cd : Value) (A : Around) (outer : List Env) (s : Shared) (H : Hp) (E : XK) : Cx where
  prog := P
  w := w
  K := K
  mg := mg
  base := base
  A := A.deeper (envOfC qual scope s.heap.objs.size f cd)
  N := N
  s₀ := s
  H₀ := H
  env := envOfC qual scope s.heap.objs.size f cd
  outer := outer
  stack := envOfC qual scope s.heap.objs.size f cd :: outer
  ex := []
  calm := true
  fn := fun _ => true
  pn := []
  xe := fun e s' => wpAny (model P w) (A.deeper (envOfC qual scope s.heap.objs.size f cd)) (leaving (envOfC qual scope s.heap.objs.size f cd) e) (fun _ s'' => CX outer H s E e s'') (fun e' s'' => CX outer H s E e' s'') s'

theorem cell_has {sc : Scope} {n : Nat} {x : Str} (h : sc.names.lookup x = some .cell) : ∃ c, (cellsFrom n sc.names []).lookup x = some c := by
  have q := PySem.W.cellsFrom_some sc.names n [] (.inl h)
  exact Option.isSome_iff_exists.mp q

theorem inv_start {CX : CXT} {P : Program} {w : World} {K : PySem.W.Frag} {mg : Str → Option Value} {base : Heap} {N ps : List Str} {qual : Str} {scope : Scope} {f : Addr} {cd : Value} {A : Around} {outer : List Env} {s s1 : Shared} {H : Hp} {E : XK} {us : List Value} {vs : List V}
    (S : FnScope N ps scope) (hd : A.handled = none) (e0 : Env0 P w K mg base A outer s H) (hl : vs.length = ps.length) (r : Vals vs us)
    (x : InCallC s s.heap.objs.size (bindL (envOfC qual scope s.heap.objs.size f cd).kindOf (ps.zip us) fun _ => none) (cellsFrom (s.heap.objs.size + 1) scope.names []) (bindC (envOfC qual scope s.heap.objs.size f cd).kindOf (ps.zip us) fun _ => none) s1) :
    Inv (cxOf CX P w K mg base N qual scope f cd A outer s H E) [] (start N vs) H s1 := by
  have hpl : ps.length ≤ N.length := by have := congrArg List.length S.pre; rw [List.length_take] at this; omega
  obtain ⟨h1, tk, rfl, hk⟩ := x.done
  have noA : ∀ b : Addr, b ∉ (cxOf CX P w K mg base N qual scope f cd A outer s H E).ex := fun b z => absurd (show b ∈ ([] : List Addr) from z) (by simp)
  refine ⟨⟨e0.mod, S.kind, rfl, rfl, Nat.le_refl _, fun y z c h1 h2 => ?_, fun y hy => ?_, fun y c _ h => ?_, fun _ => hd, Around.frames_deeper e0.frames, .inr ⟨rfl, rfl⟩, fun b z => absurd z (noA b), e0.bs, e0.bsz, fun b _ _ => noA b, fun b z => absurd z (noA b), e0.funs, e0.frf⟩,
    rfl, e0.bare, Un.kept hk, ⟨_, x.toInCall.ns, fun i y v h1 h2 h3 => ?_⟩, fun y c h => ⟨_, x.cell y c h⟩, e0.hok.fresh (Nat.le_refl _), fun y c h => ?_, fun p hp => absurd (show p ∈ ([] : List (Addr × Obj)) from hp) (by simp), e0.hok.kept hk, ?_⟩
  · exact name_of_addr x.apart (PySem.mem_of_lookup h1) (PySem.mem_of_lookup h2)
  · have hy : scope.names.lookup y = some .cell ∨ scope.names.lookup y = some .free := hy
    rcases hy with hy | hy
    · exact cell_has hy
    · exact absurd rfl (S.nofree _ (PySem.mem_of_lookup hy))
  · exact Nat.le_of_lt (x.above y c (PySem.mem_of_lookup h))
  · have hi : i < vs.length := by
      unfold start at h2
      by_cases hi : i < vs.length
      · exact hi
      · rw [List.getElem?_append_right (by simpa using hi)] at h2
        rw [List.getElem?_replicate] at h2
        split at h2 <;> cases h2
    have ha : vs[i]? = some v := by
      unfold start at h2
      rw [List.getElem?_append_left (by simpa using hi), List.getElem?_map] at h2
      cases e : vs[i]? with
      | none => rw [e] at h2; cases h2
      | some a => rw [e] at h2; cases h2; rfl
    obtain ⟨u, hu, rv⟩ := r.get ha
    have hp : ps[i]? = some y := by
      rw [← S.pre, List.getElem?_take_of_lt (by omega)]; exact h1
    have ndP : ps.Nodup := by rw [← S.pre]; exact S.nd.sublist (List.take_sublist _ _)
    refine ⟨u, rv, ?_⟩
    rcases S.par y (List.mem_of_getElem? hp) with k | k
    · exact .inl ⟨k, bindL_get ndP hp hu k⟩
    · obtain ⟨c, e⟩ := cell_has (n := s.heap.objs.size + 1) k
      refine .inr ⟨.inl k, c, e, ?_⟩
      have q := x.cell y c e
      rw [bindC_get ndP hp hu (by show scope.names.lookup y ≠ _; rw [k]; decide)] at q
      exact q
  · exact e0.hok.fresh (Nat.le_of_lt (x.above y c (PySem.mem_of_lookup h)))
  · unfold start
    show _ = N.length
    rw [List.length_append, List.length_map, List.length_replicate]
    omega

/-- THE RULE: a def (or a method) of the text, by its body. The body's reading t is chosen for each entry; it is run at the parameters' values -/
theorem fn_of {CX : CXT} {P : Program} {w : World} {K : PySem.W.Frag} {mg : Str → Option Value} {base : Heap} {k : Nat} {f : Addr} {name qual : Str} {params : Arguments} {body : List Stmt} {scope : Scope} {dV kV doc pm cdv ct oc : Value} {an od : Option Addr}
    {osl : Array (Option Value)} {N ps : List Str} {sp : Sp} (lk : K.lookup f = some ⟨oc, od, .func (PySem.W.fnOf name qual params body scope dV kV doc pm an cdv ct), osl⟩) (hcd : PySem.W.codeIn K cdv qual = true) (S : FnScope N ps scope)
    (len : ∀ vs H Q E, sp vs H Q E → vs.length = ps.length)
    (hbody : ∀ (A : Around) (outer : List Env) (s : Shared) (H : Hp) (vs : List V) (Q : VK) (E : XK), Room k (A.deeper (envOfC qual scope s.heap.objs.size f cdv)) → sp vs H Q E →
      ∃ t, PSs (cxOf CX P w K mg base N qual scope f cdv A outer s H E) body t ∧ t { nx := fun _ H' => Q .non H', rt := Q } (start N vs) H) :
    FnOk P w K mg base CX (k + 1) f (PySem.W.fnOf name qual params body scope dV kV doc pm an cdv ct) ps sp := by
  refine ⟨len, fun A outer s H args us vs Q E hr e0 hb r hsp => ?_⟩
  have hl := len _ _ _ _ hsp
  have KX : K.In s.heap := e0.mod.kin.keeps fun b o e => (e0.bs b o e).1
  have lim : s.heap.NoLimit := e0.mod.nolimit.keeps fun b o e => (e0.bs b o e).1
  have hkind : ∀ y ∈ ps.zip us, scope.names.lookup y.1 = some .local ∨ (scope.names.lookup y.1 = some .cell ∧ ((cellsFrom (s.heap.objs.size + 1) scope.names []).lookup y.1).isSome = true) := fun ⟨n, v⟩ hy => by
    rcases S.par n (List.of_mem_zip hy).1 with q | q
    · exact .inl q
    · exact .inr ⟨q, PySem.W.cellsFrom_some _ _ _ (.inl q)⟩
  refine codeAny_call_function hr.depth (KX _ _ lk) rfl S.co S.gen rfl (PySem.W.codeRec_of KX hcd) (hb _ _ _ _ ?_)
  refine wpAny_newFunctionEnv_cells S.kind hkind fun env he s1 x => ?_
  subst he
  refine ⟨lim.keeps x.toInCall.keep, codeAny_func ?_⟩
  obtain ⟨t, ht, hq⟩ := hbody A outer s H vs Q E (hr.deeper _) hsp
  have I : Inv (cxOf CX P w K mg base N qual scope f cdv A outer s H E) [] (start N vs) H s1 := inv_start S hr.hd e0 hl r x
  refine wpAny_mono (ht [] s1 (start N vs) H _ I hq) (fun fl s' hs => ?_) fun e s' hs => hs
  have fin : ∀ {σ' : St} {H' : Hp} {v : V} {u : Value}, Inv (cxOf CX P w K mg base N qual scope f cdv A outer s H E) [] σ' H' s' → RelV v u → Q v H' → CE outer P w H s Q u s' :=
    fun {σ' H' v u} J rv q => ⟨v, H', J.os, J.bare, J.base, J.hok, rv, q⟩
  cases fl with
  | ret u =>
    obtain ⟨v, σ', H', J, rv, q⟩ := hs
    exact fin J rv q
  | next =>
    obtain ⟨σ', H', J, q⟩ := hs
    exact fin (v := V.non) (u := Value.none) J rfl q
  | brk =>
    obtain ⟨_, _, _, q⟩ := hs
    exact False.elim q
  | cont =>
    obtain ⟨_, _, _, q⟩ := hs
    exact False.elim q
end L2

namespace L2
open PySem PySem.Spec PyProof.Rows
section
variable {X : Cx} {x : Str} {p pos : Pos} {e : Expr} {es : List Expr} {t : TA} {id T : String} {r : List V → Hp → VK → Prop}

def tCB (r : List V → Hp → VK → Prop) (t : TA) : TE := fun σ H Q => t σ H fun vs H1 => r vs H1 Q
/-- f(e, ..), f a built-in function -/
theorem pe_callB (hc : CallR X (.builtin id) r) (hg : Gl X x) (hm : X.mg x = none) (hv : bootBuiltins x = some (.builtin id)) (ha : PA X (e :: es) t) (hn : x ≠ "__name__" := by decide) (hdb : (x == ("__debug__" : Str)) = false := by decide)
    (he : starEach (e :: es) X.env = (false, eval e X.env) :: starEach es X.env := by rfl) (hpl : (backTo pos (starEach es X.env)).any (·.1) = false := by rfl) : PE X (.Call (.Name x p) (e :: es) [] pos) (tCB r t) := by
  intro pins s σ H Q I h
  refine wpAny_Call_Name_kw (ld_blt I hg hm hv ?_ hn hdb)
  exact PyProof.Rows.callWith_builtin1 (thn (ha pos pins s σ H _ I h) fun us s1 ⟨vs, H1, I1, r1, q1⟩ => hc pins s1 σ H1 vs us Q I1 r1 q1) he hpl
/-- T(e, ..), T a built-in type -/
theorem pe_callTy (hc : CallR X (.type T) r) (hg : Gl X x) (hm : X.mg x = none) (hv : bootBuiltins x = some (.type T)) (ha : PA X (e :: es) t) (hn : x ≠ "__name__" := by decide) (hdb : (x == ("__debug__" : Str)) = false := by decide)
    (he : starEach (e :: es) X.env = (false, eval e X.env) :: starEach es X.env := by rfl) (hpl : (backTo pos (starEach es X.env)).any (·.1) = false := by rfl) : PE X (.Call (.Name x p) (e :: es) [] pos) (tCB r t) := by
  intro pins s σ H Q I h
  refine wpAny_Call_Name_kw (ld_blt I hg hm hv ?_ hn hdb)
  exact PyProof.Rows.callWith_type1 (thn (ha pos pins s σ H _ I h) fun us s1 ⟨vs, H1, I1, r1, q1⟩ => hc pins s1 σ H1 vs us Q I1 r1 q1) he hpl
end
end L2

namespace HT
open PySem PyProof.Rows

section
open PySem.SeqAt
open PySem.AutoSeq1 (wpAny_loadPart')
open PySem.MeetsSeq PySem.MeetsSeq2 PySem.MeetsSeq3

end

section
variable {prog : Program} {w : World} {A : Around} {E : Value → Shared → Prop} {s : Shared}

/-! ### t[a:b], not the whole -/
/-- a slice's bound as a place among n (d where it is left out) -/
def sIx (n d : Nat) : Option Int → Nat
  | none => d
  | some v => if v < 0 then (v + (n : Int)).toNat else min v.toNat n
end
end HT

namespace L2
open PySem PySem.Spec PyProof.Rows

/-! ### the parts of a slice -/
abbrev TO := St → Hp → (Option Int → Hp → Prop) → Prop
/-- a slice's part (left out, or an int) -/
def PO (X : Cx) (e : Option Expr) (t : TO) : Prop :=
  ∀ (pins : List (Addr × Obj)) (s : Shared) (σ : St) (H : Hp) (Q : Option Int → Hp → Prop), Inv X pins σ H s → t σ H Q →
    wpAny (model X.prog X.w) X.A (evalPart e X.env) (fun u s' => ∃ o H', Inv X pins σ H' s' ∧ IsPart u o ∧ Q o H') X.xe s
def tNoPart : TO := fun _ H Q => Q none H
def tPart (t : TE) : TO := fun σ H Q => t σ H fun x H1 => ∃ i, x = .int i ∧ Q (some i) H1

section
variable {X : Cx} {e : Expr} {te : TE} {lo hi : Option Expr} {tl th : TO} {pos p2 : Pos}

theorem po_none : PO X none tNoPart := by
  intro pins s σ H Q I h
  rw [evalPart_none]
  exact wpAny_pure ⟨none, H, I, .none, h⟩
theorem po_some (h : PE X e te) : PO X (some e) (tPart te) := by
  intro pins s σ H Q I hw
  rw [evalPart_some]
  refine thn (h pins s σ H _ I hw) fun u s1 ⟨x, H1, I1, r1, q1⟩ => ?_
  obtain ⟨i, rfl, q⟩ := q1
  obtain ⟨t, rfl⟩ := r1
  exact ⟨some i, H1, I1, .int i t, q⟩

/-- what a slice of a value is, by values: the slice object stands at sl -/
def SlR (X : Cx) (r : V → Option Int → Option Int → Hp → VK → Prop) : Prop :=
  ∀ (pins : List (Addr × Obj)) (s : Shared) (σ : St) (H : Hp) (x : V) (v vl vu : Value) (lo hi : Option Int) (sl : Addr) (Q : VK), Inv X pins σ H s → RelV x v → s.heap.IsSliceOf sl vl vu .none → IsPart vl lo → IsPart vu hi → r x lo hi H Q →
    ∃ T id, typeLookup (.type T) "__getitem__" = pure (some (.builtin id)) ∧ s.TypeIs v T ∧ wpAny (model X.prog X.w) X.A (getItem v (.ref sl)) (EP X pins σ Q) X.xe s
theorem SlR.or {r r' : V → Option Int → Option Int → Hp → VK → Prop} (h : SlR X r) (h' : SlR X r') : SlR X (fun x lo hi H Q => r x lo hi H Q ∨ r' x lo hi H Q) := by
  intro pins s σ H x v vl vu lo hi sl Q I rx hs pl pu q
  rcases q with q | q
  · exact h pins s σ H x v vl vu lo hi sl Q I rx hs pl pu q
  · exact h' pins s σ H x v vl vu lo hi sl Q I rx hs pl pu q
def tSl (r : V → Option Int → Option Int → Hp → VK → Prop) (te : TE) (tl th : TO) : TE := fun σ H Q => te σ H fun x H1 => tl σ H1 fun l H2 => th σ H2 fun u H3 => r x l u H3 Q
/-- a[lo:hi], any a -/
theorem pe_slice {r : V → Option Int → Option Int → Hp → VK → Prop} (hr : SlR X r) (he : PE X e te) (hl : PO X lo tl) (hu : PO X hi th) : PE X (.Subscript e (.Slice lo hi none p2) pos) (tSl r te tl th) := by
  intro pins s σ H Q I h
  refine Subscript_ (thn (he pins s σ H _ I h) fun v s1 ⟨x, H1, I1, r1, q1⟩ => ?_)
  refine wpAny_Slice (thn (hl pins s1 σ H1 _ I1 q1) fun vl s2 ⟨l, H2, I2, pl, q2⟩ => thn (hu pins s2 σ H2 _ I2 q2) fun vu s3 ⟨u, H3, I3, pu, q3⟩ => ?_)
  rw [evalPart_none]
  refine wpAny_pure ?_
  have I4 : Inv X pins σ H3 { s3 with heap := s3.heap.push { cls := .type "slice", data := .fields #[vl, vu, .none] } } := I3.kept (t' := s3.toks) fun b ob q => Heap.get?_push_of_some _ q
  obtain ⟨T, id, hT, ht, hg⟩ := hr pins { s3 with heap := s3.heap.push { cls := .type "slice", data := .fields #[vl, vu, .none] } } σ H3 x v vl vu l u s3.heap.objs.size Q I4 r1 (Heap.IsSliceOf.new ..) pl pu q3
  show wpAny (model X.prog X.w) X.A (subscriptTail e (.Slice lo hi none p2) v (.ref s3.heap.objs.size)) (EP X pins σ Q) X.xe { s3 with heap := s3.heap.push { cls := .type "slice", data := .fields #[vl, vu, .none] } }
  exact tail_any (ops := [.ref s3.heap.objs.size, v]) ht hT hg (by with_unfolding_all rfl)

/-- the items of xs[lo:hi] -/
def cutV (xs : List V) (lo hi : Option Int) : List V := (xs.drop (HT.sIx xs.length 0 lo)).take (HT.sIx xs.length xs.length hi - HT.sIx xs.length 0 lo)
theorem cutV_length (xs : List V) (lo hi : Option Int) : (cutV xs lo hi).length ≤ xs.length := by
  unfold cutV
  rw [List.length_take, List.length_drop]
  omega
/-! ### t < u, t + u -/
end
end L2

namespace L2
open PySem PySem.Spec PyProof.Rows

/-! ### places -/
/-- the place that an index of any sign means -/
def ixN (n : Nat) (i : Int) : Option Nat := if 0 ≤ i then (if i < n then some i.toNat else none) else if -(n : Int) ≤ i then some (i + n).toNat else none
def atI {α : Type} (xs : List α) (i : Int) : Option α := (ixN xs.length i).bind fun j => xs[j]?
theorem ixN_seq {n : Nat} {i : Int} {j : Nat} (h : ixN n i = some j) : seqIndex? i n = some j ∧ j < n ∧ -(n : Int) ≤ i ∧ i < n := by
  unfold ixN at h
  by_cases h0 : 0 ≤ i
  · rw [if_pos h0] at h
    by_cases h1 : i < n
    · rw [if_pos h1] at h
      have e : i.toNat = j := Option.some.inj h
      exact ⟨by rw [seqIndex_of h0 h1, e], by omega, by omega, h1⟩
    · rw [if_neg h1] at h; cases h
  · rw [if_neg h0] at h
    by_cases h1 : -(n : Int) ≤ i
    · rw [if_pos h1] at h
      have e : (i + n).toNat = j := Option.some.inj h
      exact ⟨by rw [seqIndex_neg (by omega) h1, e], by omega, h1, by omega⟩
    · rw [if_neg h1] at h; cases h
theorem atI_get {α : Type} {xs : List α} {i : Int} {v : α} (h : atI xs i = some v) : ∃ j, seqIndex? i xs.length = some j ∧ xs[j]? = some v ∧ j < xs.length ∧ -(xs.length : Int) ≤ i ∧ i < xs.length := by
  unfold atI at h
  cases e : ixN xs.length i with
  | none => rw [e] at h; cases h
  | some j =>
    rw [e] at h
    obtain ⟨h1, h2, h3, h4⟩ := ixN_seq e
    exact ⟨j, h1, h, h2, h3, h4⟩
theorem atI_nat {α : Type} {xs : List α} {j : Nat} {v : α} (h : xs[j]? = some v) : atI xs (j : Int) = some v := by
  have hj : j < xs.length := (List.getElem?_eq_some_iff.mp h).1
  have e : ixN xs.length (j : Int) = some j := by
    unfold ixN
    rw [if_pos (by omega), if_pos (by omega)]; simp
  unfold atI; rw [e]; exact h
/-! ### what may be subscripted -/
/-- what stands as an index of a plain subscript -/
def PlainIx (b : Expr) : Prop := ∀ o i, subscripted b false o i = operate [o, i] (getItem o i)
/-- a subscript by values -/
def IxR (X : Cx) (r : R2) : Prop :=
  ∀ (value slice : Expr) (pins : List (Addr × Obj)) (s : Shared) (σ : St) (H : Hp) (x y : V) (v u : Value) (Q : VK), Inv X pins σ H s → RelV x v → RelV y u → r x y H Q →
    subscripted slice false v u = operate [v, u] (getItem v u) → wpAny (model X.prog X.w) X.A (subscriptTail value slice v u) (EP X pins σ Q) X.xe s
/-- a call of a builtin's method by values: the receiver, the arguments -/
def MtR (X : Cx) (id : String) (r : V → List V → Hp → VK → Prop) : Prop :=
  ∀ (pins : List (Addr × Obj)) (s : Shared) (σ : St) (H : Hp) (x : V) (xs : List V) (v : Value) (us : List Value) (Q : VK), Inv X pins σ H s → RelV x v → Vals xs us → r x xs H Q →
    wpAny (model X.prog X.w) X.A (call (.builtin id) (v :: us)) (EP X pins σ Q) X.xe s
section
variable {X : Cx} {a b : Expr} {ta tb : TE} {pos : Pos}
theorem IxR.or {r r' : R2} (h : IxR X r) (h' : IxR X r') : IxR X (fun x y H Q => r x y H Q ∨ r' x y H Q) := by
  intro value slice pins s σ H x y v u Q I rx ry q hs
  rcases q with q | q
  · exact h value slice pins s σ H x y v u Q I rx ry q hs
  · exact h' value slice pins s σ H x y v u Q I rx ry q hs
theorem MtR.or {id : String} {r r' : V → List V → Hp → VK → Prop} (h : MtR X id r) (h' : MtR X id r') : MtR X id (fun x xs H Q => r x xs H Q ∨ r' x xs H Q) := by
  intro pins s σ H x xs v us Q I rx rs q
  rcases q with q | q
  · exact h pins s σ H x xs v us Q I rx rs q
  · exact h' pins s σ H x xs v us Q I rx rs q
/-- a[b] -/
theorem pe_ix {r : R2} (hr : IxR X r) (ha : PE X a ta) (hb : PE X b tb) (hs : PlainIx b) : PE X (.Subscript a b pos) (tOp r ta tb) := by
  intro pins s σ H Q I h
  exact Subscript_ (binT ha hb I h fun v u s2 x y H2 I2 rx ry q => hr a b pins s2 σ H2 x y v u Q I2 rx ry q (hs _ _))

def rIxL (K : PySem.W.Frag) : R2 := fun x y H Q => ∃ p xs i v, x = .ref p ∧ y = .int i ∧ SqL K H p xs ∧ atI xs i = some v ∧ Q v H
def rIxT (K : PySem.W.Frag) : R2 := fun x y H Q => ∃ p xs i v, x = .ref p ∧ y = .int i ∧ SqT K H p xs ∧ atI xs i = some v ∧ Q v H
def rIxS : R2 := fun x y H Q => ∃ z i c, x = .str z ∧ y = .int i ∧ z.length ≤ sizeLine ∧ atI z.cps.toList i = some c ∧ Q (.str ⟨#[c]⟩) H
theorem ix_list : IxR X (rIxL X.K) := by
  intro value slice pins s σ H x y v u Q I rx ry h hs
  obtain ⟨p, xs, i, z, rfl, rfl, hq, he, q⟩ := h
  cases rx
  obtain ⟨t, rfl⟩ := ry
  obtain ⟨its, r, pl, hz⟩ := I.list hq
  obtain ⟨j, h1, h2, h3, h4, h5⟩ := atI_get he
  obtain ⟨w, ew, rw'⟩ := r.get h2
  have hl := r.length
  have hn := line63
  have fin : EP X pins σ Q w s := ⟨z, H, I, rw', q⟩
  by_cases h0 : 0 ≤ i
  · have hj : i.toNat = j := by
      rw [seqIndex_of h0 h5] at h1
      exact Option.some.inj h1
    exact item_listR pl.isList h0 (by omega) (by rw [hj]; simpa using ew) fin hs
  · have hj : (i + (its.toArray.size : Int)).toNat = j := by
      rw [seqIndex_neg (by omega) h4] at h1
      rw [List.size_toArray, ← hl]
      exact Option.some.inj h1
    exact subscriptTail_builtinR (x := w) pl.isList.typeIs slot_list_getitem.lookup
      (wpAny_getItem_list_neg (Q := fun r s' => r = w ∧ EP X pins σ Q r s') pl.isList (by omega) (by rw [List.size_toArray] <;> omega) (by omega) (by rw [hj]; simpa using ew) ⟨rfl, fin⟩) hs
theorem ix_tup : IxR X (rIxT X.K) := by
  intro value slice pins s σ H x y v u Q I rx ry h hs
  obtain ⟨p, xs, i, z, rfl, rfl, hq, he, q⟩ := h
  cases rx
  obtain ⟨t, rfl⟩ := ry
  obtain ⟨its, r, pl, hz⟩ := I.tuple hq
  obtain ⟨j, h1, h2, h3, h4, h5⟩ := atI_get he
  obtain ⟨w, ew, rw'⟩ := r.get h2
  have hl := r.length
  have hn := line63
  have fin : EP X pins σ Q w s := ⟨z, H, I, rw', q⟩
  exact subscriptTail_builtinR (x := w) pl.typeIs slot_tuple_getitem.lookup
    (getItem_tuple (j := j) (Q := fun r s' => r = w ∧ EP X pins σ Q r s') pl (by omega) (by omega) (by rw [List.size_toArray, ← hl]; exact h1) (by simpa using ew) ⟨rfl, fin⟩) hs
theorem ix_str : IxR X rIxS := by
  intro value slice pins s σ H x y v u Q I rx ry h hs
  obtain ⟨z, i, c, rfl, rfl, hz, he, q⟩ := h
  obtain ⟨t, rfl⟩ := rx
  obtain ⟨t', rfl⟩ := ry
  obtain ⟨j, h1, h2, h3, h4, h5⟩ := atI_get he
  have hl : z.cps.toList.length = z.length := by simp [Str.length]
  rw [hl] at h1 h4 h5
  have hn := line63
  exact tail_any (typeIs_str s z t) slot_str_getitem.lookup (getItem_str (c := c) (by
    have e1 : decide (i < -(2 ^ 63 : Int)) = false := decide_eq_false (by omega)
    have e2 : decide (i ≥ 2 ^ 63) = false := decide_eq_false (by omega)
    rw [e1, e2, Bool.or_false]) (by rw [h1]; simpa using h2) ⟨.str ⟨#[c]⟩, H, I.tok _, ⟨_, rfl⟩, q⟩) hs
/-- list, tuple or str -/
def rIx (K : PySem.W.Frag) : R2 := fun x y H Q => rIxL K x y H Q ∨ rIxT K x y H Q ∨ rIxS x y H Q
theorem ix_seq : IxR X (rIx X.K) := ix_list.or (ix_tup.or ix_str)

/-! ### xs[i] = v, any sign -/
/-- the list's object behind a store -/
theorem mapSeq_set (its : List Value) (n j : Nat) (u : Value) : Obj.mapSeq (·.setIfInBounds j u) { cls := .type "list", data := .seq its.toArray n } = { cls := .type "list", data := .seq (its.set j u).toArray n } := by
  simp [Obj.mapSeq]
theorem Inv.lst {pins : List (Addr × Obj)} {σ : St} {H : Hp} {s : Shared} {p : Addr} {xs : List V} (I : Inv X pins σ H s) (h : H p = some (.lst xs)) :
    ∃ (its : List Value) (n : Nat), Vals xs its ∧ s.heap.get? p = some { cls := .type "list", data := .seq its.toArray n } ∧ xs.length ≤ sizeLine := by
  obtain ⟨z, its, n, r, e⟩ := I.hok p _ h
  exact ⟨its, n, r, e, z⟩
/-- the list at p is written by an update of its object -/
theorem Inv.lstUpd {pins : List (Addr × Obj)} {σ : St} {H : Hp} {s : Shared} {p : Addr} {xs ys : List V} {its its' : List Value} {n n' : Nat} {f : Obj → Obj} (I : Inv X pins σ H s) (h : H p = some (.lst xs))
    (ho : s.heap.get? p = some { cls := .type "list", data := .seq its.toArray n }) (hf : f { cls := .type "list", data := .seq its.toArray n } = { cls := .type "list", data := .seq its'.toArray n' }) (r : Vals ys its') (hz : ys.length ≤ sizeLine) (t : Nat) :
    Inv X pins σ (upd H p (.lst ys)) { s with heap := s.heap.update p f, toks := t } := by
  have e : (s.heap.update p f).get? p = some { cls := .type "list", data := .seq its'.toArray n' } := by
    rw [Heap.get?_update_self f ho (by rw [hf] <;> rfl), hf]
  refine I.write (x := p) (e := p) (by rw [h]; trivial) (.inl rfl) (fun b u hb q => (Heap.get?_update_other _ _ (Ne.symm hb)).trans q) ⟨_, e⟩ ?_
  exact ⟨hz, its', n', r, e⟩
def rSetL : V → V → V → Hp → (Hp → Prop) → Prop := fun o i v H Q => ∃ p xs k j, o = .ref p ∧ i = .int k ∧ H p = some (.lst xs) ∧ ixN xs.length k = some j ∧ Q (upd H p (.lst (xs.set j v)))
theorem set_list : PSet X rSetL := by
  intro pins s σ H o i v ov iv u Q I ro ri rv h
  obtain ⟨p, xs, k, j, rfl, rfl, hp, hj, q⟩ := h
  cases ro
  obtain ⟨t, rfl⟩ := ri
  obtain ⟨its, n, r, ho, hz⟩ := I.lst hp
  obtain ⟨h1, h2, h3, h4⟩ := ixN_seq hj
  have hl := r.length
  have hn := line63
  have I' : Inv X pins σ (upd H p (.lst (xs.set j v))) { s with heap := s.heap.update p (Obj.mapSeq (·.setIfInBounds j u)) } :=
    I.lstUpd hp ho (mapSeq_set its n j u) (r.set rv j) (by rw [List.length_set]; exact hz) s.toks
  by_cases h0 : 0 ≤ k
  · have hk : k.toNat = j := by
      rw [seqIndex_of h0 h4] at h1
      exact Option.some.inj h1
    exact PySem.W.ki_setAt ho h0 (by omega) (by rw [List.size_toArray, ← hl]; exact h4) (by rw [hk]; exact ⟨_, I', q⟩)
  · have hk : (k + (its.toArray.size : Int)).toNat = j := by
      rw [seqIndex_neg (by omega) h3] at h1
      rw [List.size_toArray, ← hl]
      exact Option.some.inj h1
    exact PySem.W.ki_setBack ho (by omega) (by rw [List.size_toArray, ← hl]; exact h3) (by omega) (by rw [hk]; exact ⟨_, I', q⟩)

/-! ### slices -/
theorem slice_bounds (lo hi : Option Int) (n : Nat) : (sliceBounds lo hi none n).1 = ((HT.sIx n 0 lo : Nat) : Int) ∧ (sliceBounds lo hi none n).2.1 = ((HT.sIx n n hi : Nat) : Int) ∧ (sliceBounds lo hi none n).2.2 = 1 := by
  refine ⟨?_, ?_, rfl⟩
  · cases lo with
    | none => simp [sliceBounds, HT.sIx]
    | some i =>
      simp only [sliceBounds, HT.sIx, Option.getD_none, show (1 : Int) > 0 by decide, if_true]
      by_cases h : i < 0
      · simp only [h, if_true] <;> omega
      · simp only [h, if_false] <;> omega
  · cases hi with
    | none => simp [sliceBounds, HT.sIx]
    | some i =>
      simp only [sliceBounds, HT.sIx, Option.getD_none, show (1 : Int) > 0 by decide, if_true]
      by_cases h : i < 0
      · simp only [h, if_true] <;> omega
      · simp only [h, if_false] <;> omega
theorem slicePick_cut (its : List Value) (lo hi : Option Int) : slicePick its.toArray lo hi none = ((its.drop (HT.sIx its.length 0 lo)).take (HT.sIx its.length its.length hi - HT.sIx its.length 0 lo)).toArray := by
  obtain ⟨h1, h2, h3⟩ := slice_bounds lo hi its.toArray.size
  unfold slicePick
  rw [h1, h2, h3]
  simp only [sliceRange_one, pick_run, List.size_toArray] <;> rfl
/-- xs[lo:hi] of a list: a new list -/
def rSlL (K : PySem.W.Frag) : V → Option Int → Option Int → Hp → VK → Prop := fun x lo hi H Q => ∃ a xs, x = .ref a ∧ SqL K H a xs ∧ ∀ p, H p = none → Q (.ref p) (upd H p (.lst (cutV xs lo hi)))
theorem sl_list : SlR X (rSlL X.K) := by
  intro pins s σ H x v vl vu lo hi sl Q I rx hs pl pu h
  obtain ⟨a, xs, rfl, hx, q⟩ := h
  cases rx
  obtain ⟨its, r, ht, hz⟩ := I.list hx
  have hlen := r.length
  refine ⟨"list", _, slot_list_getitem.lookup, ht.isList.typeIs, ?_⟩
  refine wpAny_getItem_list_slice ht.isList hs pl pu .none (by simp) ?_ (by rw [List.size_toArray] <;> omega)
  rw [slicePick_cut, ← hlen]
  refine ⟨.ref s.heap.objs.size, _, I.laid (t' := s.toks) (o := .lst (cutV xs lo hi)) (fun b ob q => Heap.get?_push_of_some _ q) (Nat.le_refl _) ?_, rfl, q _ (I.hok.fresh (Nat.le_refl _))⟩
  exact ⟨Nat.le_trans (cutV_length xs lo hi) hz, _, 0, (r.drop (HT.sIx xs.length 0 lo)).take (HT.sIx xs.length xs.length hi - HT.sIx xs.length 0 lo), Heap.get?_push_size _ rfl⟩

/-! ### in, not in: flat items -/
def flatV : V → Bool
  | .non => true
  | .bl _ => true
  | .int _ => true
  | .str _ => true
  | _ => false
/-! ### len, list(x), tuple(x) of any list or tuple that is read -/
theorem call_len_seq : CallR X (.builtin "len") (fun xs H Q => ∃ p ys, xs = [.ref p] ∧ (SqL X.K H p ys ∨ SqT X.K H p ys) ∧ Q (.int ys.length) H) := by
  intro pins s σ H xs us Q I r h
  obtain ⟨p, ys, rfl, hq, q⟩ := h
  obtain ⟨u, rfl, rx⟩ := vals1 r
  cases rx
  have hn := line63
  rcases hq with hq | hq
  · obtain ⟨its, r', pl, hz⟩ := I.list hq
    have hlen := r'.length
    exact Calls.call_len_list pl.isList (by simp only [List.size_toArray] <;> omega) ⟨.int ys.length, H, I.tok _, ⟨s.toks + 1, by rw [List.size_toArray, hlen]⟩, q⟩
  · obtain ⟨its, r', pl, hz⟩ := I.tuple hq
    have hlen := r'.length
    exact len_tuple pl (by simp only [List.size_toArray] <;> omega) ⟨.int ys.length, H, I.tok _, ⟨s.toks + 1, by rw [List.size_toArray, hlen]⟩, q⟩
theorem CallR.or {f : Value} {r r' : List V → Hp → VK → Prop} (h : CallR X f r) (h' : CallR X f r') : CallR X f (fun xs H Q => r xs H Q ∨ r' xs H Q) := by
  intro pins s σ H xs us Q I rs q
  rcases q with q | q
  · exact h pins s σ H xs us Q I rs q
  · exact h' pins s σ H xs us Q I rs q
theorem call_list_of : CallR X (.type "list") (fun xs H Q => ∃ p ys, xs = [.ref p] ∧ (SqL X.K H p ys ∨ SqT X.K H p ys) ∧ ∀ l, H l = none → Q (.ref l) (upd H l (.lst ys))) := by
  intro pins s σ H xs us Q I r h
  obtain ⟨p, ys, rfl, hq, q⟩ := h
  obtain ⟨u, rfl, rx⟩ := vals1 r
  cases rx
  have fin : ∀ (its : List Value), Vals ys its → ys.length ≤ sizeLine → ∀ (h' : Heap) (c' : Nat), (∀ b o', s.heap.get? b = some o' → h'.get? b = some o') →
      h'.get? s.heap.objs.size = some { cls := .type "list", dict := none, data := .seq its.toArray c', slots := #[] } → EP X pins σ Q (.ref s.heap.objs.size) { s with heap := h' } := fun its r' hz h' c' kp e =>
    ⟨.ref s.heap.objs.size, _, I.laid (t' := s.toks) kp (Nat.le_refl _) (show ObjOk X.prog X.w _ h' _ (.lst ys) from ⟨hz, its, c', r', e⟩), rfl, q _ (I.hok.fresh (Nat.le_refl _))⟩
  rcases hq with hq | hq
  · obtain ⟨its, r', pl, hz⟩ := I.list hq
    have hlen := r'.length
    obtain ⟨o, ho, hc, n, hd⟩ := pl.isList
    exact call_list_seq p (.inl rfl) ho hc hd (fun h' c' kp e => fin its r' hz h' c' kp e) (by simp only [List.size_toArray] <;> omega)
  · obtain ⟨its, r', pl, hz⟩ := I.tuple hq
    have hlen := r'.length
    obtain ⟨o, ho, hc, n, hd⟩ := pl
    exact call_list_seq p (.inr rfl) ho hc hd (fun h' c' kp e => fin its r' hz h' c' kp e) (by simp only [List.size_toArray] <;> omega)
/-! ### the call of a builtin's method: o.m(..) -/
/-- the value is of that builtin type -/
def tyV (K : PySem.W.Frag) (T : String) (x : V) (H : Hp) : Prop := match x with
  | .str _ => T = "str"
  | .int _ => T = "int"
  | .ref p => (T = "list" ∧ ∃ xs, SqL K H p xs) ∨ (T = "tuple" ∧ ∃ o, K.lookup p = some o ∧ o.cls = .type "tuple" ∧ o.dict = none) ∨
      (T = "dict" ∧ ((∃ kvs, H p = some (.dK kvs)) ∨ ∃ kvs, H p = some (.dT kvs))) ∨ (T = "set" ∧ ∃ S n, H p = some (.set S n))
  | _ => False
theorem tyV_is {pins : List (Addr × Obj)} {σ : St} {H : Hp} {s : Shared} {T : String} {x : V} {v : Value} (I : Inv X pins σ H s) (r : RelV x v) (ty : tyV X.K T x H) :
    s.TypeIs v T ∧ ∀ a, v = .ref a → ∃ ob, s.heap.get? a = some ob ∧ ob.dict = none := by
  cases x with
  | str z =>
    obtain ⟨t, rfl⟩ := r
    cases (show T = "str" from ty)
    exact ⟨typeIs_str s z t, fun _ e => nomatch e⟩
  | int i =>
    obtain ⟨t, rfl⟩ := r
    cases (show T = "int" from ty)
    exact ⟨typeIs_int s i t, fun _ e => nomatch e⟩
  | ref p =>
    cases r
    rcases ty with ⟨rfl, xs, hq⟩ | ⟨rfl, o, hk, hc, hd⟩ | ⟨rfl, hk⟩ | ⟨rfl, S, n, hk⟩
    · obtain ⟨its, _, pl, _⟩ := I.list hq
      refine ⟨pl.isList.typeIs, fun a e => ?_⟩
      cases e
      obtain ⟨o, n, e, c, hd, _⟩ := pl
      exact ⟨o, e, hd⟩
    · refine ⟨⟨o, I.kIn p o hk, hc⟩, fun a e => ?_⟩
      cases e
      exact ⟨o, I.kIn _ o hk, hd⟩
    · have z : ∃ o, s.heap.get? p = some o ∧ o.ExactDict := by
        rcases hk with ⟨kvs, hk⟩ | ⟨kvs, hk⟩
        · obtain ⟨_, _, _, _, o, _, _, e, ex, _⟩ := I.hok p _ hk
          exact ⟨o, e, ex⟩
        · obtain ⟨_, _, _, _, o, _, _, e, ex, _⟩ := I.hok p _ hk
          exact ⟨o, e, ex⟩
      obtain ⟨o, e, ex⟩ := z
      refine ⟨⟨o, e, ex.1⟩, fun a e2 => ?_⟩
      cases e2
      exact ⟨o, e, ex.2.1⟩
    · obtain ⟨o, _, _, _, e, ex, _⟩ := I.hok p _ hk
      refine ⟨⟨o, e, ex.1⟩, fun a e2 => ?_⟩
      cases e2
      exact ⟨o, e, ex.2.1⟩
  | _ => exact False.elim ty
def tBM0 (K : PySem.W.Frag) (T : String) (r : V → List V → Hp → VK → Prop) (to : TE) : TE := fun σ H Q => to σ H fun x H1 => tyV K T x H1 ∧ r x [] H1 Q
def tBM (K : PySem.W.Frag) (T : String) (r : V → List V → Hp → VK → Prop) (to : TE) (t : TA) : TE := fun σ H Q => to σ H fun x H1 => tyV K T x H1 ∧ t σ H1 fun xs H2 => r x xs H2 Q
variable {o e : Expr} {es : List Expr} {to : TE} {t : TA} {name : Str} {apos cpos : Pos} {T id : String} {r : V → List V → Hp → VK → Prop}
theorem pe_bm (pa : PlainAttrs T) (slot : Slot T name id) (hty : typeOf (.builtin id) = pure (.type "method_descriptor")) (hm : MtR X id r) (ho : PE X o to) (ha : PA X (e :: es) t)
    (hbase : attributeBase o name X.env (eval o X.env) = eval o X.env := by rfl)
    (hfew : ((backTo cpos (starEach (e :: es) X.env)).all (fun x => !x.1) && (backToKw cpos (keywordEach [] X.env)).all (fun x => x.1.isSome)
      && decide ((e :: es).length + ([] : List Keyword).length + (if ([] : List Keyword).isEmpty then 0 else 1) < 30)) = true := by rfl)
    (hline : (apos.endLine == cpos.line) = true := by rfl) (hs : starEach (e :: es) X.env = (false, eval e X.env) :: starEach es X.env := by rfl) (hplain : (backTo cpos (starEach es X.env)).any (·.1) = false := by rfl) :
    PE X (.Call (.Attribute o name apos) (e :: es) [] cpos) (tBM X.K T r to t) := by
  intro pins s σ H Q I h
  refine wpAny_Call_method_late hbase hfew hline rfl (thn (ho pins s σ H _ I h) fun v s1 ⟨x, H1, I1, r1, ty, q1⟩ => ?_)
  obtain ⟨h1, h2⟩ := tyV_is I1 r1 ty
  refine ⟨T, id, pa, slot, hty, h1, h2, ?_⟩
  have hA := ha cpos pins s1 σ H1 _ I1 q1
  rw [hs] at hA ⊢
  refine Calls.callWith_builtin (by show (false || (backTo cpos (starEach es X.env)).any (·.1)) = false; rw [hplain] <;> rfl) (Calls.evalArgs_plain ?_)
  exact thn hA fun us s2 ⟨vs, H2, I2, r2, q2⟩ => hm pins s2 σ H2 x vs v us Q I2 r1 r2 q2
/- xs.append(e), list.index on a module's tuple .. are MtR facts of 06m -/
end
end L2

namespace L2
open PySem PySem.Spec PyProof.Rows

def MtM (X : Cx) (id : String) (r : V → List V → Hp → VK → Prop) : Prop :=
  ∀ (pins : List (Addr × Obj)) (s : Shared) (σ : St) (H : Hp) (x : V) (xs : List V) (v : Value) (us : List Value) (Q : VK), Inv X pins σ H s → RelV x v → Vals xs us → r x xs H Q →
    wpAny (model X.prog X.w) X.A (call (.builtin id) (v :: us)) (EP X pins σ Q) X.xe s

/-! ### lists of values -/
theorem Vals.one : ∀ {x : V} {us : List Value}, Vals [x] us → ∃ u, us = [u] ∧ RelV x u
  | _, _, .cons r .nil => ⟨_, rfl, r⟩
theorem Vals.two : ∀ {x y : V} {us : List Value}, Vals [x, y] us → ∃ u v, us = [u, v] ∧ RelV x u ∧ RelV y v
  | _, _, _, .cons r (.cons q .nil) => ⟨_, _, rfl, r, q⟩
theorem Vals.zero : ∀ {us : List Value}, Vals [] us → us = []
  | _, .nil => rfl
theorem Vals.dropLast {xs : List V} {us : List Value} (h : Vals xs us) : Vals xs.dropLast us.dropLast := by
  induction h with
  | nil => exact .nil
  | cons r t ih =>
    cases t with
    | nil => exact .nil
    | cons q t' => exact .cons r ih
theorem Vals.rep {xs : List V} {us : List Value} (h : Vals xs us) : ∀ k : Nat, Vals (List.replicate k xs).flatten (List.replicate k us).flatten
  | 0 => .nil
  | k + 1 => by
    rw [List.replicate_succ, List.replicate_succ, List.flatten_cons, List.flatten_cons]
    exact Vals.append h (Vals.rep h k)
theorem foldl_rep (its : List Value) : ∀ (k : Nat) (acc : List Value),
    List.foldl (fun x1 x2 => x1 ++ x2) acc.toArray (List.replicate k its.toArray) = (acc ++ (List.replicate k its).flatten).toArray
  | 0, acc => by simp
  | k + 1, acc => by
    have e : acc.toArray ++ its.toArray = (acc ++ its).toArray := by simp
    have e2 : (acc ++ its) ++ (List.replicate k its).flatten = acc ++ (List.replicate (k + 1) its).flatten := by
      rw [List.replicate_succ, List.flatten_cons, List.append_assoc]
    rw [← e2, ← foldl_rep its k (acc ++ its), ← e, List.replicate_succ, List.foldl_cons]

section
variable {X : Cx} {pins : List (Addr × Obj)} {σ : St} {H : Hp} {s : Shared} {l b : Addr} {xs ys zs : List V}

/-! ### the two steps: a tracked list is rewritten, a new list is laid -/
theorem Inv.lset {its its' : List Value} {n : Nat} {f : Array Value → Array Value} {t' : Nat} (I : Inv X pins σ H s) (hH : H l = some (.lst xs))
    (e : s.heap.get? l = some { cls := .type "list", data := .seq its.toArray n }) (hf : f its.toArray = its'.toArray) (hv : Vals ys its') (hz : ys.length ≤ sizeLine) :
    Inv X pins σ (upd H l (.lst ys)) { s with heap := s.heap.update l (Obj.mapSeq f), toks := t' } := by
  have q := PySem.IsL.update e f
  rw [hf] at q
  refine I.write (x := l) (e := l) (by rw [hH]; exact trivial) (.inl rfl) (fun b' u hb hu => (Heap.get?_update_other s.heap (Obj.mapSeq f) (Ne.symm hb)).trans hu) ⟨_, q⟩ ?_
  exact ⟨hz, its', _, hv, q⟩
theorem Inv.lnew {its : List Value} {t' : Nat} (I : Inv X pins σ H s) (hv : Vals ys its) (hz : ys.length ≤ sizeLine) :
    Inv X pins σ (upd H s.heap.objs.size (.lst ys)) { s with heap := s.heap.push { cls := .type "list", data := .seq its.toArray }, toks := t' } :=
  I.laid (fun _ _ q => Heap.get?_push_of_some _ q) (Nat.le_refl _) ⟨hz, its, 0, hv, Heap.get?_push_size _ rfl⟩
theorem Inv.fresh (I : Inv X pins σ H s) : H s.heap.objs.size = none := I.hok.fresh (Nat.le_refl _)
theorem Inv.lstM (I : Inv X pins σ H s) (hH : H l = some (.lst xs)) : xs.length ≤ sizeLine ∧ ∃ (its : List Value) (n : Nat), Vals xs its ∧ xs.length = its.length ∧ s.heap.get? l = some { cls := .type "list", data := .seq its.toArray n } := by
  obtain ⟨z, its, n, r, e⟩ := I.hok l _ hH
  exact ⟨z, its, n, r, r.length, e⟩

theorem notLongL {n : Nat} (h : n ≤ sizeLine) : Builtin.List.listTooLong n = false := by
  unfold Builtin.List.listTooLong
  exact decide_eq_false (by omega)
end

section
variable {X : Cx}

/-! ### methods -/
def rAppend : V → List V → Hp → VK → Prop := fun x vs H Q => ∃ l xs y, x = .ref l ∧ vs = [y] ∧ H l = some (.lst xs) ∧ xs.length < sizeLine ∧ Q .non (upd H l (.lst (xs ++ [y])))
theorem mt_append : MtM X "list.append" rAppend := by
  intro pins s σ H x vs v us Q I rx rv h
  obtain ⟨l, xs, y, rfl, rfl, hH, hz, q⟩ := h
  cases rx
  obtain ⟨u, rfl, ru⟩ := rv.one
  obtain ⟨z, its, n, r, hl, e⟩ := I.lstM hH
  refine call_meets F.slot_list_append ⟨_, e, rfl⟩ F.entry_list_append (F.args_list_append_2 _ _) (PySem.list_append l its.toArray n u (by rw [List.size_toArray]; omega)) ⟨e, ?_⟩
  refine ⟨.non, _, I.lset (its' := its ++ [u]) hH e (by simp) (r.append (.cons ru .nil)) ?_, rfl, q⟩
  rw [List.length_append, List.length_singleton]
  omega

def rPop : V → List V → Hp → VK → Prop := fun x vs H Q => ∃ l xs y, x = .ref l ∧ vs = [] ∧ H l = some (.lst xs) ∧ xs[xs.length - 1]? = some y ∧ Q y (upd H l (.lst xs.dropLast))
/-! ### list + list, list += list, list * int -/
def rCat : R2 := fun x y H Q => ∃ l b xs zs, x = .ref l ∧ y = .ref b ∧ H l = some (.lst xs) ∧ H b = some (.lst zs) ∧ xs.length + zs.length ≤ sizeLine ∧ ∀ p, H p = none → Q (.ref p) (upd H p (.lst (xs ++ zs)))
theorem op_cat : OpR X (binaryOp .Add) rCat := by
  intro pins s σ H x y v u Q I rx ry h
  obtain ⟨l, b, xs, zs, rfl, rfl, hH, hB, hz, q⟩ := h
  cases rx
  cases ry
  obtain ⟨z, its, n, r, hl, e⟩ := I.lstM hH
  obtain ⟨z2, its2, n2, r2, hl2, e2⟩ := I.lstM hB
  refine PySem.P.add_list e e2 ?_ (by rw [List.size_toArray, List.size_toArray]; omega)
  have ea : its.toArray ++ its2.toArray = (its ++ its2).toArray := by simp
  rw [ea]
  exact ⟨.ref _, _, I.lnew (t' := s.toks) (r.append r2) (by rw [List.length_append]; omega), rfl, q _ I.fresh⟩
/-- a list times an int (a negative one is nothing) -/
def rRep : R2 := fun x y H Q => ∃ l k xs, x = .ref l ∧ y = .int k ∧ H l = some (.lst xs) ∧ -(2 ^ 63) ≤ k ∧ k < 2 ^ 63 ∧ xs.length * k.toNat ≤ sizeLine ∧
  ∀ p, H p = none → Q (.ref p) (upd H p (.lst (List.replicate k.toNat xs).flatten))
theorem len_rep {α : Type} (xs : List α) (k : Nat) : (List.replicate k xs).flatten.length = k * xs.length := by
  induction k with
  | zero => simp
  | succ k ih => rw [List.replicate_succ, List.flatten_cons, List.length_append, ih, Nat.succ_mul, Nat.add_comm]
theorem op_rep : OpR X (binaryOp .Mult) rRep := by
  intro pins s σ H x y v u Q I rx ry h
  obtain ⟨l, k, xs, rfl, rfl, hH, h1, h2, hz, q⟩ := h
  cases rx
  obtain ⟨t, rfl⟩ := ry
  obtain ⟨z, its, n, r, hl, e⟩ := I.lstM hH
  have hlen : its.toArray.size * k.toNat ≤ sizeLine := by rw [List.size_toArray, ← hl]; exact hz
  have hcap : ¬ its.toArray.size * k.toNat > (2 ^ 63 - 1) / 8 := by
    have : (sizeLine : Nat) ≤ (2 ^ 63 - 1) / 8 := by decide
    omega
  have hfit : ¬ (!Builtin.List.listFitsIndex k) = true := by
    rw [fitsIndex_both h1 h2]
    exact Bool.false_ne_true
  have hlong : ¬ Builtin.List.listTooLong (its.toArray.size * k.toNat) = true := by
    rw [notLongL hlen]
    exact Bool.false_ne_true
  have hnew : List.foldl (fun x1 x2 => x1 ++ x2) #[] (List.replicate (if its.toArray.isEmpty = true then 0 else k.toNat) its.toArray) = (List.replicate k.toNat its).flatten.toArray := by
    have f0 : ∀ m : Nat, List.foldl (fun x1 x2 => x1 ++ x2) #[] (List.replicate m its.toArray) = (List.replicate m its).flatten.toArray := fun m => by
      have := foldl_rep its m []
      rw [List.nil_append] at this
      exact this
    rw [f0]
    cases its with
    | nil => simp
    | cons a r' => rw [if_neg (by simp)]
  refine wpAny_binaryOp_repeat_ref (T := "list") (U := "int") (by decide) ⟨_, e, rfl⟩ (fun s' => typeIs_int s' k t) noFill_list_mul F.fills_int_mul F.slot_int_rmul repeat_list F.slot_int_index.lookup
    (call_meets F.slot_int_rmul (typeIs_int s k t) F.entry_int_rmul (F.args_int_rmul_2 _ _) (int___rmul___int_list k t l its.toArray n)
      ⟨e, rfl, ⟨_, e, rfl⟩, call_meets F.slot_list_mul ⟨_, e, rfl⟩ F.entry_list_mul (F.args_list_mul_2 _ _) (AutoListH.list___mul___list_int_3 l its.toArray n k t hfit hcap hlong) ⟨e, ?_⟩⟩)
  rw [hnew]
  exact ⟨.ref _, _, I.lnew (t' := s.toks) (r.rep k.toNat) (by rw [len_rep, Nat.mul_comm]; exact hz), rfl, q _ I.fresh⟩

/-! ### del xs[i] -/
end

/-! ### xs[a:b] = ys -/
section
variable {prog : Program} {w : World} {A : Around} {E : Value → Shared → Prop} {s : Shared}
end

section
variable {X : Cx}
end
end L2

namespace L2
open PySem PySem.Spec PyProof.Rows

/-! ### lists of pairs as tables -/
section
variable {κ : Type} [DecidableEq κ]
def valV (kvs : List (κ × V)) (k : κ) : Option V := (kvs.find? fun kv => decide (kv.1 = k)).map (·.2)
/-- in its place, or at the end -/
def putK (kvs : List (κ × V)) (k : κ) (v : V) : List (κ × V) :=
  if (kvs.any fun kv => decide (kv.1 = k)) = true then kvs.map (fun kv => if kv.1 = k then (kv.1, v) else kv) else kvs ++ [(k, v)]
def dropK (kvs : List (κ × V)) (k : κ) : List (κ × V) := kvs.filter fun kv => decide (kv.1 ≠ k)

theorem valV_nil {k : κ} : valV ([] : List (κ × V)) k = none := rfl
theorem valV_pos {p : κ × V} {r : List (κ × V)} {k : κ} (e : p.1 = k) : valV (p :: r) k = some p.2 := by simp [valV, List.find?_cons, e]
theorem valV_neg {p : κ × V} {r : List (κ × V)} {k : κ} (e : ¬ p.1 = k) : valV (p :: r) k = valV r k := by simp [valV, List.find?_cons, e]
theorem valV_any (k : κ) : ∀ kvs : List (κ × V), (kvs.any fun kv => decide (kv.1 = k)) = (valV kvs k).isSome
  | [] => rfl
  | p :: r => by
    rw [List.any_cons]
    by_cases e : p.1 = k
    · simp only [valV_pos e, decide_eq_true e, Bool.true_or, Option.isSome_some]
    · rw [valV_neg e, decide_eq_false e, Bool.false_or]; exact valV_any k r
theorem valV_map (k j : κ) (y : V) : ∀ kvs : List (κ × V), valV (kvs.map fun kv => if kv.1 = k then (kv.1, y) else kv) j = (valV kvs j).map fun x => if j = k then y else x
  | [] => rfl
  | p :: r => by
    have ih := valV_map k j y r
    rw [List.map_cons]
    by_cases h : p.1 = k
    · rw [if_pos h]
      by_cases e : p.1 = j
      · rw [valV_pos (p := (p.1, y)) e, valV_pos e, Option.map_some, if_pos (e.symm.trans h)]
      · rw [valV_neg (p := (p.1, y)) e, valV_neg e, ih]
    · rw [if_neg h]
      by_cases e : p.1 = j
      · rw [valV_pos (p := p) e, valV_pos e, Option.map_some, if_neg (fun z => h (e.trans z))]
      · rw [valV_neg (p := p) e, valV_neg e, ih]
theorem valV_snoc (k j : κ) (y : V) : ∀ kvs : List (κ × V), valV kvs k = none → valV (kvs ++ [(k, y)]) j = if j = k then some y else valV kvs j
  | [], _ => by
    by_cases e : k = j
    · rw [if_pos e.symm]; exact valV_pos (p := (k, y)) e
    · rw [if_neg (fun z => e z.symm)]; exact valV_neg (p := (k, y)) e
  | p :: r, hn => by
    rw [List.cons_append]
    have hk : ¬ p.1 = k := fun z => by rw [valV_pos z] at hn; cases hn
    rw [valV_neg hk] at hn
    have ih := valV_snoc k j y r hn
    by_cases e : p.1 = j
    · rw [valV_pos e, valV_pos e, if_neg (fun z => hk (e.trans z))]
    · rw [valV_neg e, valV_neg e, ih]
theorem valV_put (kvs : List (κ × V)) (k j : κ) (y : V) : valV (putK kvs k y) j = if j = k then some y else valV kvs j := by
  unfold putK
  by_cases a : (kvs.any fun kv => decide (kv.1 = k)) = true
  · rw [if_pos a, valV_map]
    rw [valV_any] at a
    by_cases e : j = k
    · obtain ⟨x, hx⟩ := Option.isSome_iff_exists.mp a
      rw [if_pos e, e, hx, Option.map_some, if_pos rfl]
    · rw [if_neg e]
      cases valV kvs j with
      | none => rfl
      | some x => rw [Option.map_some, if_neg e]
  · rw [if_neg a]
    refine valV_snoc k j y kvs ?_
    rw [valV_any] at a
    cases q : valV kvs k with
    | none => rfl
    | some x => rw [q] at a; exact (a rfl).elim
theorem length_putK (kvs : List (κ × V)) (k : κ) (v : V) : (putK kvs k v).length ≤ kvs.length + 1 := by
  unfold putK
  split
  · rw [List.length_map]; omega
  · rw [List.length_append, List.length_cons, List.length_nil]; omega
theorem putK_new {kvs : List (κ × V)} {k : κ} (v : V) (h : valV kvs k = none) : putK kvs k v = kvs ++ [(k, v)] := by
  unfold putK
  rw [valV_any, h]
  exact if_neg (by decide)

theorem RelO.isSome_eq {o : Option V} {u : Option Value} (r : RelO o u) : o.isSome = u.isSome := by
  cases o with
  | none => cases u with
    | none => rfl
    | some _ => exact (show False from r).elim
  | some _ => cases u with
    | none => exact (show False from r).elim
    | some _ => rfl
theorem RelO.getD {o : Option V} {u : Option Value} {d : V} {d' : Value} (r : RelO o u) (rd : RelV d d') : RelV (o.getD d) (u.getD d') := by
  cases o with
  | none => cases u with
    | none => exact rd
    | some _ => exact (show False from r).elim
  | some _ => cases u with
    | none => exact (show False from r).elim
    | some _ => exact r

/-- raw tables of the same keys -/
theorem KV.val {kvs : List (κ × V)} {vs : List (κ × Value)} (r : KV kvs vs) (k : κ) : RelO (valV kvs k) (valueAt vs k) := by
  unfold KV at r
  induction r with
  | nil => exact True.intro
  | @cons p q ps qs h t ih =>
    obtain ⟨h1, h2⟩ := h
    by_cases e : p.1 = k
    · have e' : q.1 = k := h1.symm.trans e
      have b : valueAt (q :: qs) k = some q.2 := by simp [valueAt, List.find?_cons, e']
      rw [valV_pos e, b]; exact h2
    · have e' : ¬ q.1 = k := fun z => e (h1.trans z)
      have b : valueAt (q :: qs) k = valueAt qs k := by simp [valueAt, List.find?_cons, e']
      rw [valV_neg e, b]; exact ih
theorem KV.any {kvs : List (κ × V)} {vs : List (κ × Value)} (r : KV kvs vs) (k : κ) : (kvs.any fun kv => decide (kv.1 = k)) = vs.any fun kv => decide (kv.1 = k) := by
  unfold KV at r
  induction r with
  | nil => rfl
  | cons h t ih => rw [List.any_cons, List.any_cons, ih, h.1]
theorem KV.repl {kvs : List (κ × V)} {vs : List (κ × Value)} (r : KV kvs vs) (k : κ) {y : V} {u : Value} (ry : RelV y u) :
    KV (kvs.map fun kv => if kv.1 = k then (kv.1, y) else kv) (vs.map fun kv => if kv.1 = k then (kv.1, u) else kv) := by
  unfold KV at r ⊢
  induction r with
  | nil => exact .nil
  | @cons p q ps qs h t ih =>
    rw [List.map_cons, List.map_cons]
    refine .cons ?_ ih
    obtain ⟨h1, h2⟩ := h
    by_cases e : p.1 = k
    · rw [if_pos e, if_pos (h1.symm.trans e)]; exact ⟨h1, ry⟩
    · rw [if_neg e, if_neg (fun z => e (h1.trans z))]; exact ⟨h1, h2⟩
theorem KV.put {kvs : List (κ × V)} {vs : List (κ × Value)} (r : KV kvs vs) (k : κ) {y : V} {u : Value} (ry : RelV y u) : KV (putK kvs k y) (stored vs k u) := by
  unfold putK stored
  rw [r.any k]
  by_cases e : (vs.any fun kv => decide (kv.1 = k)) = true
  · rw [if_pos e, if_pos e]; exact r.repl k ry
  · rw [if_neg e, if_neg e]; exact Paired.snoc r ⟨rfl, ry⟩
theorem KV.drop {kvs : List (κ × V)} {vs : List (κ × Value)} (r : KV kvs vs) (k : κ) : KV (dropK kvs k) (without vs k) := by
  unfold KV at r ⊢
  unfold dropK without
  induction r with
  | nil => exact .nil
  | @cons p q ps qs h t ih =>
    obtain ⟨h1, h2⟩ := h
    rw [List.filter_cons, List.filter_cons]
    by_cases e : p.1 = k
    · have a : ¬ decide (p.1 ≠ k) = true := by simp [e]
      have b : ¬ decide (q.1 ≠ k) = true := by simp [h1.symm.trans e]
      rw [if_neg a, if_neg b]; exact ih
    · have e' : ¬ q.1 = k := fun z => e (h1.trans z)
      have a : decide (p.1 ≠ k) = true := by simp [e]
      have b : decide (q.1 ≠ k) = true := by simp [e']
      rw [if_pos a, if_pos b]; exact .cons ⟨h1, h2⟩ ih
theorem KV.keys {kvs : List (κ × V)} {vs : List (κ × Value)} (r : KV kvs vs) : kvs.map (·.1) = vs.map (·.1) := by
  unfold KV at r
  induction r with
  | nil => rfl
  | cons h t ih => rw [List.map_cons, List.map_cons, ih, h.1]
theorem KV.length {kvs : List (κ × V)} {vs : List (κ × Value)} (r : KV kvs vs) : kvs.length = vs.length := Paired.length r
end


/-! ### a tracked dict, its keys ints and texts or tuples of these -/
theorem kV_is {P : Program} {w : World} {k : Key} {u : Value} (r : RelV (kV k) u) : (mixKind P w).is k u = true := by
  cases k with
  | inl i => obtain ⟨t, e⟩ := (show ∃ t, u = Value.int i t from r); subst e; exact mixKind_int P w i t
  | inr x => obtain ⟨t, e⟩ := (show ∃ t, u = Value.str x t from r); subst e; exact mixKind_str P w x t
theorem items_are {P : Program} {w : World} : ∀ {ks : List Key} {us : List Value}, Vals (ks.map kV) us → ItemsAre (mixKind P w) ks us
  | [], _, r => by rw [List.map_nil] at r; cases r; exact .nil
  | k :: ks, _, r => by
    rw [List.map_cons] at r
    cases r with
    | cons h t => exact .cons (kV_is h) (items_are t)

/-- raw entries of a dict with tuple keys -/
abbrev KT (H : Hp) : List (List Key × V) → List (List Key × Addr × Value) → Prop := Paired fun p q => p.1 = q.1 ∧ H q.2.1 = some (.tup (p.1.map kV)) ∧ RelV p.2 q.2.2
theorem KT.val {H : Hp} {kvs : List (List Key × V)} {xs : List (List Key × Addr × Value)} (r : KT H kvs xs) (k : List Key) : RelO (valV kvs k) ((atKey xs k).map (·.2)) := by
  induction r with
  | nil => exact True.intro
  | @cons p q ps qs h t ih =>
    obtain ⟨h1, _, h2⟩ := h
    by_cases e : p.1 = k
    · have e' : q.1 = k := h1.symm.trans e
      have b : atKey (q :: qs) k = some q.2 := by simp [atKey, List.find?_cons, e']
      rw [valV_pos e, b]; exact h2
    · have e' : ¬ q.1 = k := fun z => e (h1.trans z)
      have b : atKey (q :: qs) k = atKey qs k := by simp [atKey, List.find?_cons, e']
      rw [valV_neg e, b]; exact ih
theorem KT.repl {H : Hp} {kvs : List (List Key × V)} {xs : List (List Key × Addr × Value)} (r : KT H kvs xs) (k : List Key) {y : V} {u : Value} (ry : RelV y u) :
    KT H (kvs.map fun kv => if kv.1 = k then (kv.1, y) else kv) (xs.map (putAt k u)) := by
  induction r with
  | nil => exact .nil
  | @cons p q ps qs h t ih =>
    rw [List.map_cons, List.map_cons]
    refine .cons ?_ ih
    obtain ⟨h1, h2, h3⟩ := h
    unfold putAt
    by_cases e : p.1 = k
    · rw [if_pos e, if_pos (h1.symm.trans e)]; exact ⟨h1, h2, ry⟩
    · rw [if_neg e, if_neg (fun z => e (h1.trans z))]; exact ⟨h1, h2, h3⟩
theorem KT.put {H : Hp} {kvs : List (List Key × V)} {xs : List (List Key × Addr × Value)} (r : KT H kvs xs) (k : List Key) {b : Addr} {y : V} {u : Value} (hb : H b = some (.tup (k.map kV))) (ry : RelV y u) :
    KT H (putK kvs k y) (storedH xs k b u) := by
  have e : (kvs.any fun kv => decide (kv.1 = k)) = (atKey xs k).isSome := by
    rw [valV_any, (r.val k).isSome_eq, Option.isSome_map]
  unfold putK storedH
  rw [e]
  by_cases q : (atKey xs k).isSome = true
  · rw [if_pos q, if_pos q]; exact r.repl k ry
  · rw [if_neg q, if_neg q]; exact Paired.snoc r ⟨rfl, hb, ry⟩
theorem KT.keeps {H H' : Hp} {kvs : List (List Key × V)} {xs : List (List Key × Addr × Value)} (r : KT H kvs xs) (ht : ∀ b ys, H b = some (.tup ys) → H' b = some (.tup ys)) : KT H' kvs xs :=
  Paired.mapP r fun _ _ z => ⟨z.1, ht _ _ z.2.1, z.2.2⟩

section
variable {P : Program} {w : World} {H : Hp} {h : Heap} {a : Addr}
theorem rd_of {u : HO} (ok : HOk P w H h) (e : Rd H a u) : ObjOk P w H h a u := e.ok ok
theorem dk_rd {kvs : List (Key × V)} (ok : HOk P w H h) (e : Rd H a (.dK kvs)) : kvs.length ≤ sizeLine ∧ (a == sysModules) = false ∧ ∃ vs, KV kvs vs ∧ h.DictOf (mixKind P w) a vs :=
  show ObjOk P w H h a (.dK kvs) from rd_of ok e
theorem dk_of {kvs : List (Key × V)} (ok : HOk P w H h) (e : H a = some (.dK kvs)) : kvs.length ≤ sizeLine ∧ (a == sysModules) = false ∧ ∃ vs, KV kvs vs ∧ h.DictOf (mixKind P w) a vs := dk_rd ok (.inl e)
/-- a tracked tuple of ints and texts is a key -/
theorem key_of {ks : List Key} (ok : HOk P w H h) (e : H a = some (.tup (ks.map kV))) : (tupleKind (mixKind P w)).is h ks a := by
  obtain ⟨_, its, r, o, h1, h2, n, h3⟩ := (show ObjOk P w H h a (.tup (ks.map kV)) from ok a _ e)
  exact ⟨o, its.toArray, n, h1, h2, h3, by simpa using items_are r⟩
theorem dt_rd {kvs : List (List Key × V)} (ok : HOk P w H h) (e : Rd H a (.dT kvs)) : kvs.length ≤ sizeLine ∧ (a == sysModules) = false ∧
    ∃ xs, KT H kvs xs ∧ h.DictOfH (tupleKind (mixKind P w)) a xs := by
  obtain ⟨z, y, xs, r, o, es, ep, h1, h2, h3, h4, h5⟩ := (show ObjOk P w H h a (.dT kvs) from rd_of ok e)
  refine ⟨z, y, xs, r, o, es, ep, h1, h2, h3, h4, fun x hx => ?_, h5⟩
  have all : ∀ {l : List (List Key × V)} {m : List (List Key × Addr × Value)}, KT H l m → ∀ x ∈ m, (tupleKind (mixKind P w)).is h x.1 x.2.1 := by
    intro l m q
    induction q with
    | nil => intro x hx; exact nomatch hx
    | @cons p q ps qs hq t ih =>
      intro x hx
      rcases List.mem_cons.mp hx with e | hx
      · subst e
        exact key_of ok (by rw [← hq.1]; exact hq.2.1)
      · exact ih x hx
  exact all r x hx
theorem dt_of {kvs : List (List Key × V)} (ok : HOk P w H h) (e : H a = some (.dT kvs)) : kvs.length ≤ sizeLine ∧ (a == sysModules) = false ∧
    ∃ xs, KT H kvs xs ∧ h.DictOfH (tupleKind (mixKind P w)) a xs := dt_rd ok (.inl e)
end

/-- what the dict at a holds at the key y -/
def DGet (H : Hp) (a : Addr) (y : V) (r : Option V) : Prop :=
  (∃ kvs k, Rd H a (.dK kvs) ∧ y = kV k ∧ r = valV kvs k) ∨ ∃ kvs k b, Rd H a (.dT kvs) ∧ y = .ref b ∧ H b = some (.tup (k.map kV)) ∧ r = valV kvs k
/-- the heap behind a[y] = v -/
def DPut (H : Hp) (a : Addr) (y v : V) (H' : Hp) : Prop :=
  (∃ kvs k, H a = some (.dK kvs) ∧ y = kV k ∧ kvs.length < sizeLine ∧ H' = upd H a (.dK (putK kvs k v))) ∨
  ∃ kvs k b, H a = some (.dT kvs) ∧ y = .ref b ∧ H b = some (.tup (k.map kV)) ∧ kvs.length < sizeLine ∧ H' = upd H a (.dT (putK kvs k v))
theorem DGet.k {H : Hp} {a : Addr} {kvs : List (Key × V)} {k : Key} (e : H a = some (.dK kvs)) : DGet H a (kV k) (valV kvs k) := .inl ⟨kvs, k, .inl e, rfl, rfl⟩
theorem DGet.t {H : Hp} {a b : Addr} {kvs : List (List Key × V)} {k : List Key} (e : H a = some (.dT kvs)) (eb : H b = some (.tup (k.map kV))) : DGet H a (.ref b) (valV kvs k) := .inr ⟨kvs, k, b, .inl e, rfl, eb, rfl⟩
theorem DPut.k {H : Hp} {a : Addr} {kvs : List (Key × V)} {k : Key} {v : V} (e : H a = some (.dK kvs)) (hl : kvs.length < sizeLine) : DPut H a (kV k) v (upd H a (.dK (putK kvs k v))) := .inl ⟨kvs, k, e, rfl, hl, rfl⟩
theorem DPut.t {H : Hp} {a b : Addr} {kvs : List (List Key × V)} {k : List Key} {v : V} (e : H a = some (.dT kvs)) (eb : H b = some (.tup (k.map kV))) (hl : kvs.length < sizeLine) :
    DPut H a (.ref b) v (upd H a (.dT (putK kvs k v))) := .inr ⟨kvs, k, b, e, rfl, eb, hl, rfl⟩


section
variable {X : Cx} {pins : List (Addr × Obj)} {σ : St} {H : Hp} {s : Shared} {a : Addr} {y v : V} {u r : Value} {o : Option V} {A : Around} {E : Value → Shared → Prop}

theorem Inv.big (I : Inv X pins σ H s) : sysModules < s.heap.objs.size := by
  have h : mainGlobals < s.heap.objs.size := (I.mod.glob.keeps I.bk).lt
  exact Nat.lt_trans (by decide) h

/-- d[y], there -/
theorem d_getItem {Q : Value → Shared → Prop} (hu : A.units + 1 < cLine) (I : Inv X pins σ H s) (g : DGet H a y (some v)) (ry : RelV y u) (h : ∀ w' s', Inv X pins σ H s' → RelV v w' → Q w' s') :
    wpAny (model X.prog X.w) A (getItem (.ref a) u) Q E s := by
  rcases g with ⟨kvs, k, e, ey, l⟩ | ⟨kvs, k, b, e, ey, eb, l⟩
  · subst ey
    obtain ⟨z, hd, vs, rel, dd⟩ := dk_rd I.hok e
    obtain ⟨w', hw, rw'⟩ := RelO.some_of (v := v) (o := valueAt vs k) (by rw [l]; exact rel.val k)
    exact wpAny_getItem_of (kV_is ry) dd.mapOf hw (h w' _ (I.tok _) rw')
  · subst ey
    cases (show u = Value.ref b from ry)
    obtain ⟨z, hd, xs, rel, dd⟩ := dt_rd I.hok e
    obtain ⟨w', hw, rw'⟩ := RelO.some_of (v := v) (o := (atKey xs k).map (·.2)) (by rw [l]; exact rel.val k)
    obtain ⟨p, hp, hp2⟩ := Option.map_eq_some_iff.mp hw
    refine wpAny_getItem_heap (tupleKind_room_in1 hu) (key_of I.hok eb) dd hp ?_
    rw [hp2]
    exact h w' _ (I.tok _) rw'
/-- a dict's object is replaced -/
theorem d_write {h' : Heap} {t' : Nat} {ob : HO} (I : Inv X pins σ H s) (mu : Mut (H a)) (hs : Heap.SameBut a s.heap h') (he : ∃ q, h'.get? a = some q) (new : ObjOk X.prog X.w (upd H a ob) h' a ob) :
    Inv X pins σ (upd H a ob) { s with heap := h', toks := t' } :=
  I.write (x := a) (e := a) mu (.inl rfl) (fun b q hb z => (hs.2 b hb).trans z) he new
theorem dk_new {P : Program} {w : World} {H' : Hp} {h' : Heap} {kvs : List (Key × V)} {vs : List (Key × Value)} (z : kvs.length ≤ sizeLine) (hd : (a == sysModules) = false) (rel : KV kvs vs) (dd : h'.DictOf (mixKind P w) a vs) :
    ObjOk P w H' h' a (.dK kvs) := ⟨z, hd, vs, rel, dd⟩
/-- d[y] = v -/
theorem d_setItem {H' : Hp} {Q : Unit → Shared → Prop} (hu : A.units + 1 < cLine) (I : Inv X pins σ H s) (g : DPut H a y v H') (ry : RelV y u) (rv : RelV v r) (h : ∀ s', Inv X pins σ H' s' → Q () s') :
    wpAny (model X.prog X.w) A (setItem (.ref a) u r) Q E s := by
  rcases g with ⟨kvs, k, e, ey, l, eH⟩ | ⟨kvs, k, b, e, ey, eb, l, eH⟩
  · subst ey eH
    obtain ⟨z, hd, vs, rel, dd⟩ := dk_of I.hok e
    have hz : vs.length ≤ sizeLine := by rw [← rel.length]; exact z
    have hl : (putK kvs k v).length ≤ sizeLine := by have := length_putK kvs k v; omega
    refine wpAny_setItem_pairs (hsz := hz) (kV_is ry) dd fun h' dd' hs => h _ ?_
    have he : ∃ q, h'.get? a = some q := let ⟨q, _, _, hq, _⟩ := dd'; ⟨q, hq⟩
    exact d_write I (by rw [e]; exact True.intro) hs he (dk_new hl hd (rel.put k rv) dd')
  · subst ey eH
    cases (show u = Value.ref b from ry)
    obtain ⟨z, hd, xs, rel, dd⟩ := dt_of I.hok e
    have hz : xs.length ≤ sizeLine := by rw [← Paired.length rel]; exact z
    have hl : (putK kvs k v).length ≤ sizeLine := by have := length_putK kvs k v; omega
    refine wpAny_setItem_heap (hsz := hz) (tupleKind_room_in1 hu) (key_of I.hok eb) dd fun h' dd' hs => h _ ?_
    obtain ⟨q, es, ep, hq, h2, h3, h4, _, h5⟩ := dd'
    refine d_write I (by rw [e]; exact True.intro) hs ⟨q, hq⟩ ⟨hl, hd, _, (rel.put k eb rv).keeps fun c ys ec => ?_, q, es, ep, hq, h2, h3, h4, h5⟩
    rw [upd_ne (ne_of ec e (fun z => nomatch z))]
    exact ec
end

section
variable {X : Cx} {pins : List (Addr × Obj)} {σ : St} {H : Hp} {s : Shared} {a : Addr} {kvs : List (Key × V)} {k : Key} {u : Value} {A : Around} {E : Value → Shared → Prop}
end


/-! ### readings and rules -/
/-- the element of a subscription, not a slice -/
def NoSl (i : Expr) : Prop := ∀ ov iv, subscripted i false ov iv = operate [ov, iv] (getItem ov iv)
theorem subD_of {prog : Program} {w : World} {A : Around} {E : Value → Shared → Prop} {s : Shared} {env : Env} {value slice : Expr} {pos : Pos} {T id : String} {Q : Value → Shared → Prop}
    (hl : typeLookup (.type T) "__getitem__" = pure (some (.builtin id))) (hs : NoSl slice)
    (h : wpAny (model prog w) A (eval value env) (fun o s₁ => wpAny (model prog w) A (eval slice env) (fun i s₂ => s₂.TypeIs o T ∧ wpAny (model prog w) A (getItem o i) Q E s₂) E s₁) E s) :
    wpAny (model prog w) A (eval (.Subscript value slice pos) env) Q E s := by
  refine Subscript_ (wpAny_mono h (fun o s₁ h₁ => wpAny_mono h₁ (fun i s₂ h₂ => ?_) fun _ _ x => x) fun _ _ x => x)
  obtain ⟨hT, h₂⟩ := h₂
  unfold subscriptTail
  refine wpAny_bind ?_
  rw [getitemInPython_of_ne hT.not_modules]
  refine wpAny_bind (wpAny_specialOf hT hl ?_)
  have fin : wpAny (model prog w) A (subscripted slice false o i) (fun r s₃ => wpAny (model prog w) A (letTemporaryGo value o r >>= fun _ => pure r) Q E s₃) E s₂ := by
    rw [hs o i]
    exact wpAny_operating (wpAny_mono h₂ (fun r s₃ h₃ => wpAny_bind (wpAny_letTemporaryGo (wpAny_pure h₃))) fun _ _ x => x)
  first
    | exact wpAny_pure (wpAny_bind fin)
    | exact wpAny_bind (wpAny_pure (wpAny_bind fin))
    | exact wpAny_bind fin

theorem dict_typeIs {X : Cx} {pins : List (Addr × Obj)} {σ : St} {H : Hp} {s : Shared} {a : Addr} {y : V} {o : Option V} (I : Inv X pins σ H s) (g : DGet H a y o) : s.TypeIs (.ref a) "dict" := by
  rcases g with ⟨kvs, k, e, _, _⟩ | ⟨kvs, k, b, e, _, _, _⟩
  · obtain ⟨_, _, vs, _, dd⟩ := dk_rd I.hok e
    exact dd.typeIs
  · obtain ⟨_, _, xs, _, dd⟩ := dt_rd I.hok e
    exact dd.typeIs
section
variable {X : Cx} {o i e value : Expr} {pos pos' tpos : Pos} {td ty tv : TE}
end


/-! ### displays -/
theorem dk_empty {P : Program} {w : World} {H : Hp} (h : Heap) (hb : sysModules < h.objs.size) : ObjOk P w H (h.push { cls := .type "dict", data := .dict #[] }) h.objs.size (.dK []) :=
  ⟨Nat.zero_le _, beq_eq_false_iff_ne.mpr (Ne.symm (Nat.ne_of_lt hb)), [], .nil, Heap.DictOf.new h⟩
/-- {}, to be a dict of the kind that is wanted -/
def tDNewK : TE := fun _ H Q => ∀ p, H p = none → Q (.ref p) (upd H p (.dK []))
section
variable {X : Cx} {pos : Pos}
theorem pe_dnewK : PE X (.Dict [] [] pos) tDNewK := fun pins s σ H Q I h =>
  wpAny_Dict_empty ⟨.ref s.heap.objs.size, _, I.laid (a := s.heap.objs.size) (o := .dK []) (t' := s.toks) (fun _ _ q => Heap.get?_push_of_some _ q) (Nat.le_refl _) (dk_empty s.heap I.big), rfl, h _ (I.hok.fresh (Nat.le_refl _))⟩
end

/-- the pairs of a display, from the left -/
def tPairs : List (TE × TE) → St → Hp → (List (V × V) → Hp → Prop) → Prop
  | [], _, H, Q => Q [] H
  | (tk, tv) :: r, σ, H, Q => tk σ H fun x H1 => tv σ H1 fun y H2 => tPairs r σ H2 fun ps H3 => Q ((x, y) :: ps) H3
abbrev VV : List (V × V) → List (Value × Value) → Prop := Paired fun p q => RelV p.1 q.1 ∧ RelV p.2 q.2
def PPs (X : Cx) (pos : Pos) (keys : List (Option Expr)) (values : List Expr) (trs : List (TE × TE)) : Prop :=
  ∀ (pins : List (Addr × Obj)) (s : Shared) (σ : St) (H : Hp) (Q : List (V × V) → Hp → Prop), Inv X pins σ H s → tPairs trs σ H Q →
    wpAny (model X.prog X.w) X.A (evalPairs (pairTrees keys values X.env pos)) (fun vs s' => ∃ ps H', Inv X pins σ H' s' ∧ VV ps vs ∧ Q ps H') X.xe s
theorem pps_nil {X : Cx} {pos : Pos} : PPs X pos [] [] [] := fun pins s σ H Q I h => pairTrees_nil_walk ⟨[], H, I, .nil, h⟩
theorem pps_cons {X : Cx} {pos : Pos} {k v : Expr} {ks : List (Option Expr)} {vs : List Expr} {tk tv : TE} {trs : List (TE × TE)} (hk : PE X k tk) (hv : PE X v tv) (hr : PPs X pos ks vs trs) :
    PPs X pos (some k :: ks) (v :: vs) ((tk, tv) :: trs) := fun pins s σ H Q I h =>
  pairTrees_cons_walk (thn (hk pins s σ H _ I h) fun u s1 ⟨x, H1, I1, rx, q1⟩ => thn (hv pins s1 σ H1 _ I1 q1) fun w2 s2 ⟨y, H2, I2, ry, q2⟩ =>
    thn (hr pins s2 σ H2 _ I2 q2) fun ws s3 ⟨ps, H3, I3, rel, q3⟩ => ⟨(x, y) :: ps, H3, I3, .cons ⟨rx, ry⟩ rel, q3⟩)

def mergeK (kvs more : List (Key × V)) : List (Key × V) := more.foldl (fun acc kv => putK acc kv.1 kv.2) kvs
theorem KV.merge : ∀ {more : List (Key × V)} {rs : List (Key × Value)} {kvs : List (Key × V)} {vs : List (Key × Value)}, KV more rs → KV kvs vs → KV (mergeK kvs more) (merged vs rs) := by
  intro more rs kvs vs r
  unfold KV at r
  induction r generalizing kvs vs with
  | nil => intro q; exact q
  | @cons p q ps qs h t ih =>
    intro r0
    have e : KV (putK kvs p.1 p.2) (stored vs q.1 q.2) := by
      have := r0.put p.1 h.2
      rw [← h.1]; exact this
    exact ih e
theorem length_mergeK : ∀ (more kvs : List (Key × V)), (mergeK kvs more).length ≤ kvs.length + more.length
  | [], kvs => by show kvs.length ≤ kvs.length + 0; omega
  | p :: r, kvs => by
    have h1 := length_mergeK r (putK kvs p.1 p.2)
    have h2 := length_putK kvs p.1 p.2
    show (mergeK (putK kvs p.1 p.2) r).length ≤ _
    rw [List.length_cons]; omega
theorem carries_of {P : Program} {w : World} : ∀ {kvs : List (Key × V)} {ws : List (Value × Value)}, VV (kvs.map fun kv => (kV kv.1, kv.2)) ws → ∃ rs, Carries (mixKind P w) ws rs ∧ KV kvs rs
  | [], _, r => by rw [List.map_nil] at r; cases r; exact ⟨[], True.intro, .nil⟩
  | p :: kvs, _, r => by
    rw [List.map_cons] at r
    cases r with
    | @cons a b as bs h t =>
      obtain ⟨rs, c, q⟩ := carries_of (P := P) (w := w) t
      obtain ⟨b1, b2⟩ := b
      exact ⟨(p.1, b2) :: rs, ⟨kV_is h.1, rfl, c⟩, .cons ⟨rfl, h.2⟩ q⟩
/-- {k: v, ..} with keys ints and texts; the new dict stands empty while the pairs are made -/
def tDisp (trs : List (TE × TE)) : TE := fun σ H Q => ∀ p, H p = none → tPairs trs σ (upd H p (.dK [])) fun ps H2 => H2 p = some (.dK []) ∧ ∃ kvs : List (Key × V), ps = kvs.map (fun kv => (kV kv.1, kv.2)) ∧ kvs.length ≤ 15 ∧ Q (.ref p) (upd H2 p (.dK (mergeK [] kvs)))
theorem pe_disp {X : Cx} {pos : Pos} {keys : List (Option Expr)} {values : List Expr} {trs : List (TE × TE)} (h : PPs X pos keys values trs) (hall : keys.all (·.isSome) = true) (hl : keys.length = values.length) (h0 : keys ≠ [])
    (h15 : keys.length ≤ 15) : PE X (.Dict keys values pos) (tDisp trs) := by
  intro pins s σ H Q I q
  have hn := I.hok.fresh (Nat.le_refl s.heap.objs.size)
  have I1 := I.laid (a := s.heap.objs.size) (o := .dK []) (h' := s.heap.push { cls := .type "dict", data := .dict #[] }) (t' := s.toks) (fun _ _ q => Heap.get?_push_of_some _ q) (Nat.le_refl _) (dk_empty s.heap I.big)
  refine wpAny_Dict_walk (knd := mixKind X.prog X.w) hall hl h0 h15 (thn (h pins _ σ _ _ I1 (q _ hn)) fun ws s2 ⟨ps, H2, I2, rel, e, kvs, ep, lk, q2⟩ => ?_)
  subst ep
  obtain ⟨rs, c, rk⟩ := carries_of (P := X.prog) (w := X.w) rel
  obtain ⟨z, hd, vs0, r0, dd⟩ := dk_of I2.hok e
  cases r0
  refine ⟨rs, c, dd, fun h' dd' hs => ⟨.ref s.heap.objs.size, _, ?_, rfl, q2⟩⟩
  have hz : (mergeK [] kvs).length ≤ sizeLine := by
    have h1 := length_mergeK kvs []
    rw [List.length_nil] at h1
    rw [sizeLine_eq]; omega
  have he : ∃ q, h'.get? s.heap.objs.size = some q := let ⟨q, _, _, hq, _⟩ := dd'; ⟨q, hq⟩
  exact d_write I2 (by rw [e]; exact True.intro) hs he (dk_new hz hd (rk.merge .nil) dd')


/-! ### methods -/
section
variable {X : Cx} {pins : List (Addr × Obj)} {σ : St} {H : Hp} {s : Shared} {a : Addr} {y d : V} {u r : Value} {o : Option V} {A : Around} {E : Value → Shared → Prop}
end

section
variable {X : Cx} {o e f : Expr} {apos cpos : Pos} {td ty tx : TE}
end

/-! ### dict(d): a copy -/
section
variable {X : Cx} {pins : List (Addr × Obj)} {σ : St} {H : Hp} {s : Shared} {a : Addr} {kvs : List (Key × V)} {A : Around} {E : Value → Shared → Prop}
end


section
variable {X : Cx} {pins : List (Addr × Obj)} {σ : St} {H : Hp} {s : Shared} {a : Addr} {y : V} {u : Value} {A : Around} {E : Value → Shared → Prop}
end
end L2

namespace Att
open PySem PySem.W PySem.Calls PyProof.Rows

/-! ### the script -/
theorem ints_of_wellAll {P : Params} {h : Heap} : ∀ (ns : List Int) (vs : List Value), WellAll P h vs (ns.map WData.int) → IntsAre vs ns := by
  intro ns
  induction ns with
  | nil =>
    intro vs w
    rw [List.map_nil] at w
    cases w
    exact .nil
  | cons n ns ih =>
    intro vs w
    rw [List.map_cons] at w
    cases w with
    | cons a b =>
      cases a
      exact .cons _ _ (ih _ b)

theorem script_of {l : OpenLaw} {n : Nat} (hn : l.most = some n) {P : Params} {h : Heap} {args : List WData} {vals : List Value}
    (hpre : l.row.toRowW.claim.pre args = true) (hwl : WellAll P h vals args) :
    ∃ a vs ns, vals = [Value.ref a] ∧ args = [WData.list (ns.map WData.int)] ∧ h.get? a = some { cls := .type "list", data := .seq vs.toArray } ∧ IntsAre vs ns ∧ ns.length ≤ n := by
  have hsh : WShape.hasAll [] args [.list .int] = true := (pre_splitW hpre).1
  have hc : l.pre.holds [] { args := args } = true := (pre_splitW hpre).2
  obtain ⟨d, r, rfl, h1, h2⟩ := hasAllW_cons hsh
  obtain rfl := hasAllW_nil h2
  obtain ⟨xs, rfl, h3⟩ := hasW_list h1
  obtain ⟨ns, rfl⟩ := items_int h3
  have hlen : ns.length ≤ n := by
    unfold OpenLaw.pre at hc
    have h4 : (WTm.not (.lt (.lit (.int (n : Int))) (.len (.arg 0)))).holds [] { args := [.list (ns.map .int)] } = true := by
      have h4 := (holds_andW hc).1
      rw [hn] at h4
      exact h4
    have h5 := condW_of h4 (w_not (w_lt w_lit (w_len_list (w_arg rfl))))
    rw [List.length_map] at h5
    refine Nat.le_of_not_lt fun q => ?_
    have q' : (n : Int) < ((ns.length : Nat) : Int) := by omega
    first
      | (rw [decide_eq_true q'] at h5; exact absurd h5 (by decide))
      | (simp at h5; omega)
  cases hwl with
  | cons w1 w2 =>
    cases w2
    cases w1 with
    | list ho hall => exact ⟨_, _, ns, rfl, rfl, ho, ints_of_wellAll ns _ hall, hlen⟩

theorem post_true (l : OpenLaw) (args : List WData) : l.row.toRowW.claim.post args (.bool true) args = true :=
  postW_of (r := l.row.toRowW) (X := (true == true))
    (show WShape.has [] (.bool true) .bool = true by first | rfl | decide | simp [WShape.has, WShape.arms, WShape.armsAll])
    (show (WTm.eq .res (.lit (.bool true))).value [] { args := args, res := some (.bool true), after := args } = some (.bool (true == true)) from w_eq_bool (w_res rfl) w_lit) rfl

/-! ### the attachment: holds_open's last premise (the goal 'hc' behind k_head) from a wpAny of the law's body -/
/-- the same from a codeAny of the CALL (for a layer whose function contracts speak of calls) -/
theorem attach_call {l : OpenLaw} {n : Nat} {q : Program} {loose : List Str} {XP : (Str → Option Value) → Heap → Prop} {YP : World → Heap → Prop} {d : DefRec}
    (hn : l.most = some n) (hdf : d.params.defaults = [])
    (call : ∀ (w : World) (s₀ s₁ : Shared) (mg mb : Str → Option Value) (fa : Addr) (o : Obj) (pm cd doc : Value) (a : Addr) (vs : List Value) (ns : List Int),
      Ground q loose [] XP w s₀ mg mb s₁.heap → YP w s₁.heap →
      s₁.heap.get? fa = some o → o.data = .func (docDef d.name d.params d.body d.scope pm cd doc) → s₁.heap.CodeRec cd d.name → mg d.name = some (.ref fa) →
      s₁.heap.get? a = some { cls := .type "list", data := .seq vs.toArray } → IntsAre vs ns → ns.length ≤ n → s₁.gens = #[] →
      codeAny (model l.prog w) callerA (.call (.ref fa) ⟨[.ref a], []⟩) (fun r s' => r = .ok (.ret (.bool true)) ∧ OldK s₁.heap s'.heap ∧ s'.os = s₁.os ∧ AllBare s'.gens) s₁) :
    WalkO q loose XP YP l.row.toRowW d [] (fun f vs => PySem.call f vs) := by
  intro w s₀ s₁ mg mb G Y fa o pm cd doc dV kV ho hd hcd hD hmg hg args vals as hpre hlay hrd hwl hlo
  obtain rfl : dV = .none := Dflts.none hD hdf
  obtain rfl : kV = .none := Dflts.noKw hD
  obtain ⟨a, vs, ns, rfl, rfl, hobj, hints, hlen⟩ := script_of hn hpre hwl
  refine enter_call (codeAny_mono (call w s₀ s₁ mg mb fa o pm cd doc a vs ns G Y ho (fd_plain hd) hcd hmg hobj hints hlen hg) fun r s' hq => ?_)
  obtain ⟨rfl, h2, h3, h4⟩ := hq
  exact ⟨.inl ⟨.bool true, .bool true, [], rfl, fun _ => rfl, .bool true, post_true l _, fun _ => ⟨List.Pairwise.nil, fun _ hm => (nomatch hm)⟩⟩, h2, h3, h4⟩

/-! ### rules over ANY heap (no ledger) from facts about the written part K: the library's own take a ledger (News) for what they write -/
section
variable {prog : Program} {w : World} {A : Around} {E : Value → Shared → Prop} {s : Shared} {K : Frag}

/-! the whole heap as the ledger: makes every rule that writes through a ledger a rule over any heap -/
def ledger (h : Heap) (L d : Addr) : List (Addr × Obj) := (List.range h.objs.size).filterMap fun a => if a = L ∨ a = d then none else (h.get? a).map fun o => (a, o)
end
end Att

namespace L2
open PySem PySem.Spec PyProof.Rows

theorem vals_ints : ∀ {vs : List Value} {ns : List Int}, IntsAre vs ns → Vals (ns.map V.int) vs
  | _, _, .nil => .nil
  | _, _, .cons n t h => .cons ⟨t, rfl⟩ (vals_ints h)

/-- nothing is tracked but the script, known to the object (or it is an object of the module) -/
def Only (H : Hp) : Prop := ∀ b, H b = none ∨ ∃ o xs, H b = some (.frz o (.lst xs))

/-- THE HEAD: the law's promise, at the heap behind the top. F, the promise of the law's def, may use that base is part of the heap (so K.In base, base.Ns mainGlobals mg stand in Mod) -/
theorem law_call {P : Program} {w : World} {K : PySem.W.Frag} {mg mb : Str → Option Value} {CX : CXT} {k : Nat} {fa a : Addr} {fd : FuncData} {x : Str} {sp : Sp} {s₁ : Shared} {vs : List Value} {ns : List Int}
    (KX : K.In s₁.heap) (hns : s₁.heap.Ns mainGlobals mg) (hb : s₁.heap.Ns builtinsNs mb) (hbb : ∀ x : Str, x ≠ "__name__" → mb x = bootBuiltins x) (hlim : s₁.heap.NoLimit) (hg : s₁.gens = #[])
    (ha : s₁.heap.get? a = some { cls := .type "list", data := .seq vs.toArray }) (hi : IntsAre vs ns) (hl : ns.length ≤ sizeLine) (hr : Room k callerA)
    (F : ∀ base : Heap, K.In base → base.Ns mainGlobals mg → FnOk P w K mg base CX k fa fd [x] sp) (hbind : ∀ (s : Shared) (u : Value), BindsTo s fd ⟨[u], []⟩ [(x, u)])
    (hsp : ∀ H : Hp, Only H → SqL K H a (ns.map V.int) → sp [.ref a] H (fun v _ => v = .bl true) fun _ _ _ => False)
    (hCX : ∀ H e s', CX [] H s₁ (fun _ _ _ => False) e s' → False) :
    codeAny (model P w) callerA (.call (.ref fa) ⟨[.ref a], []⟩) (fun r s' => r = .ok (.ret (.bool true)) ∧ OldK s₁.heap s'.heap ∧ s'.os = s₁.os ∧ AllBare s'.gens) s₁ := by
  have rv := vals_ints hi
  have lenV := hi.length
  -- from an abstract heap in which nothing but the script may be tracked
  have core : ∀ H : Hp, Only H → SqL K H a (ns.map V.int) → HOk P w H s₁.heap → (∀ b, H b ≠ none → b = a) → (H a ≠ none → K.lookup a = none) →
      codeAny (model P w) callerA (.call (.ref fa) ⟨[.ref a], []⟩) (fun r s' => r = .ok (.ret (.bool true)) ∧ OldK s₁.heap s'.heap ∧ s'.os = s₁.os ∧ AllBare s'.gens) s₁ := by
    intro H hO hS hok hA hK
    have base_of : ∀ {b : Addr} {o : Obj}, s₁.heap.get? b = some o → H b = none → (hidT s₁.heap H).get? b = some o := fun e n => hidT_get e n
    have noA : ∀ {b : Addr} {o : Obj} {es : Array DictEntry} {ep : Nat}, s₁.heap.get? b = some o → o.data = .dict es ep → H b = none := fun {b o es ep} e d => by
      cases q : H b with
      | none => rfl
      | some u =>
        have e' : b = a := hA b (by rw [q]; simp)
        subst e'
        rw [ha] at e; cases e
        have d' : Data.seq vs.toArray _ = Data.dict es ep := d
        cases d'
    have nsK : ∀ {b : Addr} {m : Str → Option Value}, s₁.heap.Ns b m → (hidT s₁.heap H).Ns b m := fun {b m} ⟨o, es, ep, e, d, r⟩ => ⟨o, es, ep, base_of e (noA e d), d, r⟩
    have hKb : K.In (hidT s₁.heap H) := fun b o e => base_of (KX b o e) (by
      cases q : H b with
      | none => rfl
      | some u =>
        have e' : b = a := hA b (by rw [q]; simp)
        subst e'
        rw [hK (by rw [q]; simp)] at e; cases e)
    have hM : Mod K mg (hidT s₁.heap H) := ⟨hKb, nsK hns, ⟨mb, nsK hb, hbb⟩, let ⟨mc, h1, h2⟩ := hlim; ⟨mc, nsK h1, h2⟩⟩
    have e0 : Env0 P w K mg (hidT s₁.heap H) callerA [] s₁ H := ⟨rfl, hM, fun b o e => of_hidT e, Nat.le_of_eq (hidT_size _ _), trivial, fun b hb => absurd (show b ∈ ([] : List Addr) from hb) (by simp), hok, .of_eq hg⟩
    refine codeAny_mono ((F _ hKb (nsK hns)).run callerA [] s₁ H ⟨[.ref a], []⟩ [.ref a] [.ref a] _ _ hr e0 (hbind s₁ (.ref a)) (.cons rfl .nil) (hsp H hO hS)) fun r s' h => ?_
    cases r with
    | error e => exact (hCX H e s' h).elim
    | ok fl =>
      cases fl with
      | next => exact False.elim h
      | brk => exact False.elim h
      | cont => exact False.elim h
      | ret u =>
        obtain ⟨v, H', os, bare, un, hok', r', q⟩ := h
        have q' : v = .bl true := q
        subst q'
        obtain rfl : u = Value.bool true := r'
        refine ⟨rfl, OldK.of_keep fun b o e => ?_, os, bare⟩
        cases q : H b with
        | none => exact un.keep b o e q (by intro z; exact absurd (show b ∈ ([] : List Addr) from z) (by simp)) (by simp)
        | some u =>
          rcases hO b with z | ⟨ob, xs, z⟩
          · rw [q] at z; cases z
          · have z2 := un.frzs b ob _ z
            obtain ⟨e1, _⟩ := hok b _ z
            obtain ⟨e2, _⟩ := hok' b _ z2
            rw [e] at e1; cases e1
            exact e2
  cases hk : K.lookup a with
  | some o =>
    -- the script is one of the module's own objects
    have e := KX a o hk
    rw [ha] at e
    cases e
    refine core (fun _ => none) (fun _ => .inl rfl) (.inr ⟨_, vs.toArray, _, hk, rfl, rfl, rfl, by rw [List.size_toArray, lenV]; exact hl, by simpa using rv⟩) (fun b u z => by have z' : (none : Option HO) = some u := z; cases z') (fun b z => absurd rfl z) fun z => absurd rfl z
  | none =>
    refine core (fun b => if b = a then some (.frz { cls := .type "list", data := .seq vs.toArray } (.lst (ns.map V.int))) else none) (fun b => ?_) (.inl (.inr ⟨{ cls := .type "list", data := .seq vs.toArray }, if_pos rfl⟩)) (fun b u z => ?_) (fun b z => ?_) fun _ => hk
    · by_cases hb : b = a
      · exact .inr ⟨_, _, if_pos hb⟩
      · exact .inl (if_neg hb)
    · by_cases hb : b = a
      · have z' := (if_pos hb).symm.trans z
        cases z'
        subst hb
        exact ⟨ha, by rw [List.length_map]; exact hl, vs, _, rv, ha⟩
      · have z' := (if_neg hb).symm.trans z
        cases z'
    · by_cases hb : b = a
      · exact hb
      · exact absurd (if_neg hb) z
end L2

namespace L2
open PySem PySem.Spec PyProof.Rows

/-- the goal that k_head leaves (case hc), from the law's promise. F gives the function object fd (K's own) once, then the promise over every base -/
theorem walk_of {l : PySem.W.OpenLaw} {n k : Nat} {q : Program} {loose : List Str} {XP : (Str → Option Value) → Heap → Prop} {YP : World → Heap → Prop} {d : DefRec} {K : Params → PySem.W.Frag} {CX : World → CXT} {sp : World → Sp} {x : Str}
    (hn : l.most = some n) (hn2 : n ≤ sizeLine) (hdf : d.params.defaults = []) (hr : Room k callerA)
    (hY : ∀ (w : World) (h : Heap), YP w h → (K w.params).In h)
    (F : ∀ (w : World) (mg : Str → Option Value) (fa : Addr) (h : Heap), (K w.params).In h → h.Ns mainGlobals mg → mg d.name = some (.ref fa) →
      ∃ fd : FuncData, (∀ (s : Shared) (u : Value), BindsTo s fd ⟨[u], []⟩ [(x, u)]) ∧
        ∀ base : Heap, (K w.params).In base → base.Ns mainGlobals mg → FnOk l.prog w (K w.params) mg base (CX w) k fa fd [x] (sp w))
    (hsp : ∀ (w : World) (H : Hp) (a : Addr) (ns : List Int), ns.length ≤ n → Only H → SqL (K w.params) H a (ns.map V.int) → sp w [.ref a] H (fun v _ => v = .bl true) fun _ _ _ => False)
    (hCX : ∀ (w : World) (H : Hp) (s : Shared) (e : Value) (s' : Shared), CX w [] H s (fun _ _ _ => False) e s' → False) :
    PySem.W.WalkO q loose XP YP l.row.toRowW d [] (fun f vs => PySem.call f vs) := by
  refine Att.attach_call hn hdf fun w s₀ s₁ mg mb fa o pm cd doc a vs ns G Y ho hd hcd hmg hobj hints hlen hg => ?_
  have KX := hY w _ Y
  obtain ⟨fd, hb, hF⟩ := F w mg fa _ KX G.T.g hmg
  exact law_call KX G.T.g G.T.b G.T.builtins G.T.nolimit hg hobj hints (Nat.le_trans hlen hn2) hr hF hb (fun H hO hS => hsp w H a ns hlen hO hS) fun H e s' => hCX w H s₁ e s'
end L2

/-! SHORT WORDS over the layer: a def of the text, its body, what a loop and a test want. -/
namespace L2
open PySem PySem.Spec PyProof.Rows

/-! ### the text by places -/
/-- the j-th statement of a class's body -/
def inClass (s : Stmt) (j : Nat) : Stmt := match s with
  | .ClassDef _ _ _ body _ _ _ _ _ _ _ => body.getD j (.Pass ⟨0, 0, 0, 0⟩)
  | _ => .Pass ⟨0, 0, 0, 0⟩
def defArgs (s : Stmt) : Arguments := match s with
  | .FunctionDef _ a _ _ _ _ _ _ _ _ => a
  | _ => { posonlyargs := [], args := [], vararg := none, kwonlyargs := [], kw_defaults := [], kwarg := none, defaults := [] }
def defBody (s : Stmt) : List Stmt := match s with
  | .FunctionDef _ _ b _ _ _ _ _ _ _ => b
  | _ => []
def defScope (s : Stmt) : Scope := match s with
  | .FunctionDef _ _ _ _ _ _ sc _ _ _ => sc
  | _ => { kind := .function, names := [], isGenerator := false, isCoroutine := false }

/-! ### no exception leaves a def -/
abbrev CX0 : CXT := fun _ _ _ _ _ _ => False
abbrev E0 : XK := fun _ _ _ => False
theorem pass0 {X : Cx} : Passes CX0 X E0 := fun _ _ _ _ _ _ _ h => h.elim

/-! ### a def (or method) of the text as it stands behind the top -/
structure Fun (K : PySem.W.Frag) (x qual : Str) (st : Stmt) (f : Addr) (fd : FuncData) : Prop where
  ex : ∃ (oc : Value) (od : Option Addr) (kV doc pm : Value) (an : Option Addr) (cdv ct : Value) (osl : Array (Option Value)),
    fd = PySem.W.fnOf x qual (defArgs st) (defBody st) (defScope st) .none kV doc pm an cdv ct ∧ K.lookup f = some ⟨oc, od, .func fd, osl⟩ ∧ PySem.W.codeIn K cdv qual = true
  kp : PySem.W.keepIn K (.ref f) = true
section
variable {P : Program} {w : World} {K : PySem.W.Frag} {mg : Str → Option Value} {base : Heap}
/-- THE RULE for a def: its body as a term of rules, and the reading of that term -/
theorem Fun.ok {x qual : Str} {st : Stmt} {f : Addr} {fd : FuncData} {N ps : List Str} {k : Nat} {sp : Sp} (F : Fun K x qual st f fd) (S : FnScope N ps (defScope st)) (len : ∀ vs H Q E, sp vs H Q E → vs.length = ps.length)
    (hbody : ∀ (cdv : Value) (A : Around) (outer : List Env) (s : Shared) (H : Hp) (vs : List V) (Q : VK) (E : XK), Room k (A.deeper (envOfC qual (defScope st) s.heap.objs.size f cdv)) → sp vs H Q E →
      ∃ t, PSs (cxOf CX0 P w K mg base N qual (defScope st) f cdv A outer s H E).nox (defBody st) t ∧ t { nx := fun _ H' => Q .non H', rt := Q } (start N vs) H) : FnOk P w K mg base CX0 (k + 1) f fd ps sp := by
  obtain ⟨oc, od, kV, doc, pm, an, cdv, ct, osl, rfl, lk, hcd⟩ := F.ex
  refine fn_of lk hcd S len fun A outer s H vs Q E hr hsp => ?_
  obtain ⟨t, h, q⟩ := hbody cdv A outer s H vs Q E hr hsp
  exact ⟨t, h.nox, q⟩
/-- how its arguments bind (no defaults): h is «fun _ _ _ _ _ _ us hl => match us, hl with | [_, _], _ => rfl», one _ a parameter -/
theorem Fun.binds {x qual : Str} {st : Stmt} {f : Addr} {fd : FuncData} {ps : List Str} (F : Fun K x qual st f fd)
    (h : ∀ (kV doc pm : Value) (an : Option Addr) (cdv ct : Value) (us : List Value), us.length = ps.length → bindArgs (PySem.W.fnOf x qual (defArgs st) (defBody st) (defScope st) .none kV doc pm an cdv ct) ⟨us, []⟩ = pure (ps.zip us)) : Binds K fd ps [] := by
  obtain ⟨oc, od, kV, doc, pm, an, cdv, ct, osl, rfl, lk, hcd⟩ := F.ex
  exact .all (h kV doc pm an cdv ct)
theorem fun_mk {x qual : Str} {st : Stmt} {f : Addr} {oc : Value} {od an : Option Addr} {osl : Array (Option Value)} {kV doc pm cdv ct : Value} (l : K.lookup f = some ⟨oc, od, .func (PySem.W.fnOf x qual (defArgs st) (defBody st) (defScope st) .none kV doc pm an cdv ct), osl⟩)
    (c : PySem.W.codeIn K cdv qual = true) (k : PySem.W.keepIn K (.ref f) = true) : Fun K x qual st f (PySem.W.fnOf x qual (defArgs st) (defBody st) (defScope st) .none kV doc pm an cdv ct) := ⟨⟨oc, od, kV, doc, pm, an, cdv, ct, osl, rfl, l, c⟩, k⟩
end
theorem hu_of {A : Around} {k : Nat} (hr : Room k A) : A.units + 1 < cLine := Nat.lt_of_le_of_lt (Nat.add_le_add_left (by decide : 1 ≤ 64) _) hr.units
theorem small1000 {n : Nat} (h : n ≤ 1000) : n < sizeLine := Nat.lt_of_le_of_lt h (by decide)

/-! ### expressions in short: the name that stands in the i-th slot -/
section
variable {X : Cx}
end

/-! ### tests -/
/-! ### heaps -/
/-- all that was tracked is as it was -/
def Same (H H' : Hp) : Prop := ∀ b o, H b = some o → H' b = some o
theorem Same.refl (H : Hp) : Same H H := fun _ _ h => h
theorem Same.trans {H H1 H2 : Hp} (a : Same H H1) (b : Same H1 H2) : Same H H2 := fun c o h => b c o (a c o h)
theorem Same.free {H H' : Hp} (e : Same H H') {l : Addr} (h : H' l = Option.none) : H l = Option.none := by
  cases q : H l with
  | none => rfl
  | some o =>
    rw [e l o q] at h
    cases h
theorem Same.seq {K : PySem.W.Frag} {H H' : Hp} {a : Addr} {xs : List V} (e : Same H H') (h : SqL K H a xs) : SqL K H' a xs := by
  rcases h with (h | ⟨o, h⟩) | h
  · exact .inl (.inl (e _ _ h))
  · exact .inl (.inr ⟨o, e _ _ h⟩)
  · exact .inr h

section
variable {κ : Type} [DecidableEq κ]
end
end L2

namespace L2
open PySem PySem.Spec PyProof.Rows
section
variable {X : Cx}
end
end L2

namespace L2
open PySem PySem.Spec PyProof.Rows

/-! ### an exception that flies through the callers' frames -/
structure FlyB (P : Program) (w : World) (outer : List Env) (H : Hp) (h0 : Heap) (a : Addr) (cls : Value) (H' : Hp) (B : Heap) (a0 : Value) (h : Heap) : Prop where
  fl : Heap.FlyingW B outer a cls a0 h
  hok : HOk P w H' B
  k1 : ∀ b o, h0.get? b = some o → H b = none → b ∉ frs outer → B.get? b = some o
  k2 : ∀ b o, h0.get? b = some o → b ∉ frs outer → ∃ o', B.get? b = some o'
  un : Un (frs outer) [] H H' h0 h

def CXK (P : Program) (w : World) : CXT := fun outer H s E e s' => ∃ a C H' B a0, e = Value.ref a ∧ s'.os = s.os ∧ AllBare s'.gens ∧ FlyB P w outer H s.heap a (.ref C) H' B a0 s'.heap ∧ E (.ref C) none H'

section
variable {fs : List Addr} {H H1 : Hp} {h0 h1 h2 B : Heap}
theorem Un.fly (u : Un fs [] H H1 h0 h1) (up : h1.UpToSlots h2) (hB : B.StaysIn h2) (nf : ∀ b ∈ fs, ∀ o, h0.get? b = some o → ∀ vs, o.data ≠ .fields vs) (nfr : ∀ b ∈ fs, H b = none)
    (k1 : ∀ b o, h0.get? b = some o → H b = none → b ∉ fs → B.get? b = some o) (k2 : ∀ b o, h0.get? b = some o → b ∉ fs → ∃ o', B.get? b = some o') : Un fs [] H H1 h0 h2 := by
  have sl : ∀ b o, h0.get? b = some o → b ∈ fs → ∃ sl, h2.get? b = some { o with slots := sl } := fun b o q hb => by
    obtain ⟨sl, e⟩ := u.slot b o q (nfr b hb) hb (by simp)
    obtain ⟨sl2, e2⟩ := up b _ e (nf b hb o q)
    exact ⟨sl2, e2⟩
  refine ⟨fun b o q n hb _ => hB b o (k1 b o q n hb), fun b o q n hb _ => sl b o q hb, u.free, fun b o q hx => ?_, u.tups, u.frzs, u.tbls⟩
  by_cases hb : b ∈ fs
  · obtain ⟨s, e⟩ := sl b o q hb
    exact ⟨_, e⟩
  · obtain ⟨o', e⟩ := k2 b o q hb
    exact ⟨o', hB b o' e⟩
theorem Un.shrink {L : Addr} {ex : List Addr} (u : Un (L :: fs) ex H H1 h0 h1) (hL : h0.get? L = none) : Un fs ex H H1 h0 h1 := by
  have ne : ∀ b o, h0.get? b = some o → b ≠ L := fun b o q z => by rw [z, hL] at q; cases q
  exact ⟨fun b o q n hb hx => u.keep b o q n (fun z => (List.mem_cons.mp z).elim (ne b o q) hb) hx, fun b o q n hb hx => u.slot b o q n (List.mem_cons_of_mem _ hb) hx, u.free, u.there, u.tups, u.frzs, u.tbls⟩
end

theorem FlyB.next {P : Program} {w : World} {outer : List Env} {H : Hp} {h0 : Heap} {a : Addr} {cls : Value} {H' : Hp} {B : Heap} {a0 : Value} {h h2 : Heap} (F : FlyB P w outer H h0 a cls H' B a0 h)
    (nf : ∀ b ∈ frs outer, ∀ o, h0.get? b = some o → ∀ vs, o.data ≠ .fields vs) (nfr : ∀ b ∈ frs outer, H b = none) (fl : Heap.FlyingW B outer a cls a0 h2) (up : h.UpToSlots h2) : FlyB P w outer H h0 a cls H' B a0 h2 :=
  ⟨fl, F.hok, F.k1, F.k2, F.un.fly up fl.1 nf nfr F.k1 F.k2⟩

theorem frames_nf {h base : Heap} {l : List Env} (x : h.FunFrames base l) : ∀ b ∈ frs l, ∀ o, h.get? b = some o → ∀ vs, o.data ≠ .fields vs := fun b hb o q vs e => by
  obtain ⟨_, o', ho, hnf⟩ := x.mem hb
  rw [q] at ho
  cases ho
  exact hnf vs e

section
variable {X : Cx} {pins : List (Addr × Obj)} {σ : St} {H H' : Hp} {s s' : Shared}
/-- behind a landing -/
theorem Inv.landed {a : Addr} {cls a0 : Value} {B : Heap} (I : Inv X pins σ H s) (ho : s'.os = s.os) (hg : AllBare s'.gens) (F : FlyB X.prog X.w X.stack H s.heap a cls H' B a0 s'.heap) : Inv X pins σ H' s' :=
  I.call' ho F.un (F.hok.kept F.fl.1) hg fun b z => absurd z (by simp)
theorem Inv.hokHide {l : List Addr} (I : Inv X pins σ H s) (hl : ∀ b ∈ l, H b = none) : HOk X.prog X.w H (PySem.W.hideAll s.heap l) := fun a o e =>
  (I.hok a o e).stay (fun b u hb q => PySem.W.hideAll_get _ q fun hm => by
    have z := hl b hm
    rcases hb with rfl | hb
    · rw [e] at z; cases z
    · rw [hb] at z; cases z) (fun _ q => q) fun _ _ q => q
end

section
variable {P : Program} {w : World} {K : PySem.W.Frag} {mg : Str → Option Value} {base : Heap} {N : List Str} {qual : Str} {scope : Scope} {f : Addr} {cd : Value} {A : Around} {outer : List Env} {s : Shared} {H : Hp} {E : XK}
/-- an exception made in this frame leaves it -/
theorem raise_leaves {pins : List (Addr × Obj)} {σ : St} {H1 : Hp} {s1 : Shared} {h' : Heap} {e C : Addr} {vs : List Value} (I : Inv (cxOf (CXK P w) P w K mg base N qual scope f cd A outer s H E) pins σ H1 s1)
    (hx : Heap.MadeExcOf s1.heap h' e (.ref C) vs) (hE : E (.ref C) none H1) : (cxOf (CXK P w) P w K mg base N qual scope f cd A outer s H E).xe (.ref e) { s1 with heap := h' } := by
  have stk : (cxOf (CXK P w) P w K mg base N qual scope f cd A outer s H E).A.frames = some (envOfC qual scope s.heap.objs.size f cd :: outer) := I.ok.frames
  have hin : ∀ env ∈ (envOfC qual scope s.heap.objs.size f cd :: outer), ∀ a, env.frame = some a → a ∈ frs (envOfC qual scope s.heap.objs.size f cd :: outer) := fun env he a ha => List.mem_filterMap.mpr ⟨env, he, ha⟩
  have ff : s1.heap.FunFrames base (envOfC qual scope s.heap.objs.size f cd :: outer) := I.stack
  have hsub : ∀ b o, s.heap.get? b = some o → b ∉ frs outer → b ∉ frs (envOfC qual scope s.heap.objs.size f cd :: outer) := fun b o q hb hm => by
    have hm' : b ∈ s.heap.objs.size :: frs outer := hm
    rcases List.mem_cons.mp hm' with z | z
    · exact absurd (Heap.lt_size q) (by rw [z]; exact Nat.lt_irrefl _)
    · exact hb z
  have k1 : ∀ b o, s.heap.get? b = some o → H b = none → b ∉ frs outer → (PySem.W.hideAll s1.heap (frs (envOfC qual scope s.heap.objs.size f cd :: outer))).get? b = some o := fun b o q n hb =>
    PySem.W.hideAll_get _ (I.base.keep b o q n hb (fun z => absurd (show b ∈ ([] : List Addr) from z) (by simp))) (hsub b o q hb)
  have k2 : ∀ b o, s.heap.get? b = some o → b ∉ frs outer → ∃ o', (PySem.W.hideAll s1.heap (frs (envOfC qual scope s.heap.objs.size f cd :: outer))).get? b = some o' := fun b o q hb => by
    obtain ⟨o', e'⟩ := I.base.there b o q (fun z => absurd (show b ∈ ([] : List Addr) from z) (by simp))
    exact ⟨o', PySem.W.hideAll_get _ e' (hsub b o q hb)⟩
  have ub : Un (frs outer) [] H H1 s.heap s1.heap := I.base
  refine wpAny_leaves_madeW (base := PySem.W.hideAll s1.heap (frs (envOfC qual scope s.heap.objs.size f cd :: outer))) (h := s1.heap) (L := s.heap.objs.size) stk rfl (fun b o q => PySem.W.of_hideAll _ q) (PySem.W.funFrames_hide ff hin) hx fun h2 t f1 f2 f3 f4 => ?_
  exact ⟨e, C, H1, _, _, rfl, I.os, I.bare, ⟨f1, I.hokHide I.stkFree, k1, k2, ub.fly ((Heap.UpToSlots.of_keeps hx.keeps).trans f4) f1.1 (frames_nf I.ok.funs) I.ok.frf k1 k2⟩, hE⟩
/-- one of a callee's passes through this frame -/
theorem passK : Passes (CXK P w) (cxOf (CXK P w) P w K mg base N qual scope f cd A outer s H E) E := by
  intro pins σ H1 s1 e s' I hq
  obtain ⟨a, C, H2, B, a0, rfl, os, bare, F, hE⟩ := hq
  have stk : (cxOf (CXK P w) P w K mg base N qual scope f cd A outer s H E).A.frames = some (envOfC qual scope s.heap.objs.size f cd :: outer) := I.ok.frames
  have hL : s.heap.get? s.heap.objs.size = none := Heap.get?_none_of_le (Nat.le_refl _)
  have hsub : ∀ b o, s.heap.get? b = some o → b ∉ frs outer → b ∉ frs (envOfC qual scope s.heap.objs.size f cd :: outer) := fun b o q hb hm => by
    have hm' : b ∈ s.heap.objs.size :: frs outer := hm
    rcases List.mem_cons.mp hm' with z | z
    · rw [z, hL] at q; cases q
    · exact hb z
  have noA : ∀ b : Addr, b ∉ (cxOf (CXK P w) P w K mg base N qual scope f cd A outer s H E).ex := fun b z => absurd (show b ∈ ([] : List Addr) from z) (by simp)
  have k1 : ∀ b o, s.heap.get? b = some o → H b = none → b ∉ frs outer → B.get? b = some o := fun b o q n hb =>
    F.k1 b o (I.base.keep b o q n hb (noA b)) (I.base.free b o q n (noA b)) (hsub b o q hb)
  have k2 : ∀ b o, s.heap.get? b = some o → b ∉ frs outer → ∃ o', B.get? b = some o' := fun b o q hb => by
    obtain ⟨o', e'⟩ := I.base.there b o q (noA b)
    exact F.k2 b o' e' (hsub b o q hb)
  have ub : Un (frs outer) [] H H1 s.heap s1.heap := I.base
  have u2 : Un (s.heap.objs.size :: frs outer) [] H1 H2 s1.heap s'.heap := F.un
  have u : Un (frs outer) [] H H2 s.heap s'.heap := ((ub.mono (fun b hb => List.mem_cons_of_mem _ hb) (fun b hb => hb)).trans u2).shrink hL
  refine wpAny_leaves_onW (base := B) (L := s.heap.objs.size) stk rfl F.fl fun h2 g1 g2 => ?_
  exact ⟨a, C, H2, B, a0, rfl, os.trans I.os, bare, ⟨g1, F.hok, k1, k2, u.fly g2 g1.1 (frames_nf I.ok.funs) I.ok.frf k1 k2⟩, hE⟩
end

/-! ### raise C(e, ..) -/
/-- a class of one's own under ValueError, bound at the text's top -/
def excVE (K : PySem.W.Frag) (C : Addr) : Prop := (∃ y, PySem.W.nsIn K mainGlobals y = some (some (.ref C))) ∧ PySem.W.excIn K C [.type "ValueError", .type "Exception", .type "BaseException", .type "object"] "ValueError.__new__" = true
/-- what the library asks of the text's top: every name that is bound there counts as loose -/
theorem Mod.read {K : PySem.W.Frag} {mg : Str → Option Value} {base : Heap} (M : Mod K mg base) (p : Program) : ∃ mb, PySem.W.TopRead p (base.nsKeys mainGlobals) mg mb base := by
  obtain ⟨mb, hb, all⟩ := M.blt
  refine ⟨mb, M.glob, hb, M.nolimit, all, fun x _ out _ _ _ => ?_⟩
  rw [M.glob.eq_nsMap]
  exact Heap.nsMap_none out

/-- what a raise here needs: the exception reaches what is wanted of it -/
def Raises (X : Cx) (E : XK) : Prop := ∀ (pins : List (Addr × Obj)) (σ : St) (H : Hp) (s : Shared) (h' : Heap) (e C : Addr) (vs : List Value), Inv X pins σ H s → Heap.MadeExcOf s.heap h' e (.ref C) vs → E (.ref C) none H → X.xe (.ref e) { s with heap := h' }
theorem raisesK {P : Program} {w : World} {K : PySem.W.Frag} {mg : Str → Option Value} {base : Heap} {N : List Str} {qual : Str} {scope : Scope} {f : Addr} {cd : Value} {A : Around} {outer : List Env} {s : Shared} {H : Hp} {E : XK} :
    Raises (cxOf (CXK P w) P w K mg base N qual scope f cd A outer s H E) E := fun _ _ _ _ _ _ _ _ I hx hE => raise_leaves I hx hE
def tRaise (E : XK) (C : Addr) (ta : TA) : TS := fun _ σ H => ta σ H fun vs H1 => vs.length ≤ sizeLine ∧ E (.ref C) none H1
section
variable {X : Cx} {E : XK} {C : Addr} {x : Str} {np cpos pos : Pos} {e : Expr} {es : List Expr} {t : TA}
theorem ps_raise (hE : Raises X E) (hc : X.calm = true) (hg : Gl X x) (hm : X.mg x = some (.ref C)) (hx : excVE X.K C) (ha : PA X (e :: es) t) (hdb : (x == ("__debug__" : Str)) = false := by decide)
    (he : starEach (e :: es) X.env = (false, eval e X.env) :: starEach es X.env := by rfl) (hpl : (backTo cpos (starEach es X.env)).any (·.1) = false := by rfl) :
    PS X (.Raise (some (.Call (.Name x np) (e :: es) [] cpos)) none pos) (tRaise E C t) := by
  intro pins s σ H D I h
  obtain ⟨⟨y, bound⟩, under⟩ := hx
  obtain ⟨_, top⟩ := I.ok.mod.read X.prog
  obtain ⟨bm, M, nm, q, bs, hdct, sn, sub, ab, col, dd, k0, k1, k2, k3, k5, mN, hC, hN, hni, T⟩ := (PySem.W.own_of_in I.ok.mod.kin top bound under).obj
  refine wpAny_Raise_call_subT (C := C) (nm := nm) (q := q) (N := M) (bs := bs) (bm := bm) (hdct := hdct) (sn := sn) (sub := sub) (ab := ab) (col := col) (dd := dd) (k0 := k0) (k1 := k1) (k2 := k2) (k3 := k3) (k5 := k5)
    PySem.F.excBase_ValueError (mN := mN) (T.hasType PySem.F.excBase_ValueError.hasBase) (I.ok.hd hc) (by rw [he]; show (false || (backTo cpos (starEach es X.env)).any (·.1)) = false; rw [hpl]; rfl) hni (ld_glob I hg hm ⟨rfl, ?_⟩ hdb)
  have hp := ha cpos pins s σ H _ I h
  rw [he] at hp ⊢
  exact Calls.evalArgs_plain (wpAny_mono hp (fun us s2 h2 => by
    obtain ⟨vs, H2, I2, r, hl, q2⟩ := h2
    exact ⟨rfl, by show us.length ≤ sizeLine; rw [← r.length]; exact hl, I2.bk _ _ hC, hN.keeps I2.bk, T.keeps I2.bk, fun h' ex hx => hE pins σ H2 s2 h' ex C us I2 hx q2⟩) fun _ _ y => y)
end

/-! ### a call within a try: at these pins and slots -/
def PassAt (X : Cx) (pins : List (Addr × Obj)) (σ : St) (E : XK) (xe : Value → Shared → Prop) : Prop := ∀ (H : Hp) (s : Shared) (e : Value) (s' : Shared), Inv X pins σ H s → CXK X.prog X.w X.stack H s E e s' → xe e s'
def PEa (X : Cx) (e : Expr) (t : XK → TE) : Prop := ∀ (pins : List (Addr × Obj)) (s : Shared) (σ : St) (H : Hp) (E : XK) (xe : Value → Shared → Prop) (Q : VK), PassAt X pins σ E xe → Inv X pins σ H s → t E σ H Q →
  wpAny (model X.prog X.w) X.A (eval e X.env) (EP X pins σ Q) xe s
def PSa (X : Cx) (st : Stmt) (t : XK → TS) : Prop := ∀ (pins : List (Addr × Obj)) (s : Shared) (σ : St) (H : Hp) (E : XK) (xe : Value → Shared → Prop) (D : Ends), PassAt X pins σ E xe → Inv X pins σ H s → t E D σ H →
  wpAny (model X.prog X.w) X.A (exec st X.env) (SP X pins D) xe s

section
variable {X : Cx} {k : Nat} {f C : Addr} {fd : FuncData} {ps : List Str} {sp : Sp} {x m : Str} {p pos apos : Pos} {e o : Expr} {es : List Expr} {ta : TE} {t : TA}
theorem run_fnA {pins : List (Addr × Obj)} {σ : St} {H : Hp} {s : Shared} {Q : VK} {us : List Value} {vs : List V} {E : XK} {xe : Value → Shared → Prop} (F : FnOk X.prog X.w X.K X.mg X.base (CXK X.prog X.w) k f fd ps sp) (hr : Room k X.A) (hb : Binds X.K fd ps [])
    (hx : PassAt X pins σ E xe) (I : Inv X pins σ H s) (r : Vals vs us) (h : sp vs H Q E) : wpAny (model X.prog X.w) X.A (call (.ref f) us) (EP X pins σ Q) xe s := by
  have hl : (us ++ []).length = ps.length := by rw [List.append_nil, ← r.length]; exact F.len _ _ _ _ h
  have b := hb s us I.kIn hl
  rw [List.append_nil] at b
  refine wpAny_call (codeAny_mono (F.run X.A X.stack s H ⟨us, []⟩ us vs Q E hr I.env0 b r h) fun r s' hq => ?_)
  cases r with
  | error e => exact hx H s e s' I hq
  | ok fl =>
    cases fl with
    | ret u => exact I.after hq
    | next => exact False.elim hq
    | brk => exact False.elim hq
    | cont => exact False.elim hq
theorem pea_call (F : FnOk X.prog X.w X.K X.mg X.base (CXK X.prog X.w) k f fd ps sp) (hr : Room k X.A) (hg : Gl X x) (hm : X.mg x = some (.ref f)) (hk : PySem.W.keepIn X.K (.ref f) = true) (hb : Binds X.K fd ps [])
    (ha : PA X.nox (e :: es) t) (hdb : (x == ("__debug__" : Str)) = false := by decide) (he : starEach (e :: es) X.env = (false, eval e X.env) :: starEach es X.env := by rfl) (hpl : (backTo pos (starEach es X.env)).any (·.1) = false := by rfl) :
    PEa X (.Call (.Name x p) (e :: es) [] pos) (fun E => tCall sp [] E t) := by
  intro pins s σ H E xe Q hx I h
  refine wpAny_Call_Name_kw (ld_glob I hg hm ?_ hdb)
  refine PySem.W.callWith_K (h₀ := X.base) I.ok.mod.kin hk (wpAny_mono (ha pos pins s σ H _ (I.wish _) h) (fun us s1 hq => ?_) (fun _ _ q => False.elim q)) he hpl
  obtain ⟨vs, H1, I1, r, q⟩ := hq
  have q' : sp (vs ++ []) H1 Q E := q
  rw [List.append_nil] at q'
  exact ⟨I1.unwish.kIn, run_fnA F hr hb hx I1.unwish r q'⟩
variable {te : XK → TE}
theorem psa_ret (he : PEa X e te) : PSa X (.Return (some e) pos) (fun E => tRet (te E)) := by
  intro pins s σ H E xe D hx I h
  exact wpAny_Return_some (thn (he pins s σ H E xe _ hx I h) fun v s1 ⟨x, H1, I1, r1, q1⟩ => ⟨x, σ, H1, I1, r1, q1⟩)
end

/-! ### try with clauses of one name each -/
abbrev Cx.handling (X : Cx) (e : Addr) : Cx := { X with A := X.A.mark (some (.ref e)), calm := false, xe := fun _ _ => False }
/-- an exception that is held: its class -/
def excO (a : Addr) (cls : Value) : HO := .ext fun h => ∃ ob, h.get? a = some ob ∧ ob.cls = cls
/-- a clause's reading: the class that came, what is wanted behind -/
abbrev TH := Value → TS
def thPlain (t : TS) : TH := fun _ => t
def asEnds (i : Nat) (D : Ends) : Ends := { nx := fun σ H => D.nx (σ.set i none) H, rt := D.rt, bk := fun σ H => D.bk (σ.set i none) H, ct := fun σ H => D.ct (σ.set i none) H }
def thAs (i : Nat) (t : TS) : TH := fun cls D σ H => ∀ a, H a = none → t (asEnds i D) (σ.set i (some (.ref a))) (upd H a (excO a cls))
def catchK (K : PySem.W.Frag) (cls : Value) (D : Ends) (σ : St) (H : Hp) : List (Value × TH) → Prop
  | [] => False
  | (c, t) :: r => (PySem.W.exmOne K cls c = some true ∧ t cls D σ H) ∨ (PySem.W.exmOne K cls c = some false ∧ catchK K cls D σ H r)
inductive PHs (X : Cx) : List ExceptHandler → List (Value × TH) → Prop
  | nil : PHs X [] []
  | cons {x : Str} {np pos : Pos} {c : Value} {b₀ : Stmt} {suite : List Stmt} {t : TS} {hs : List ExceptHandler} {cts : List (Value × TH)} (hg : Gl X x) (hm : X.mg x = some c) (hdb : (x == ("__debug__" : Str)) = false)
      (hsu : ∀ e : Addr, PSs (X.handling e) (b₀ :: suite) t) (hr : PHs X hs cts) : PHs X (.ExceptHandler (some (.Name x np)) none (b₀ :: suite) pos :: hs) ((c, thPlain t) :: cts)
  | consAs {x n : Str} {np pos : Pos} {c : Value} {i : Nat} {b₀ : Stmt} {suite : List Stmt} {t : TS} {hs : List ExceptHandler} {cts : List (Value × TH)} (hg : Gl X x) (hm : X.mg x = some c) (hdb : (x == ("__debug__" : Str)) = false)
      (hN : X.N.Nodup) (hi : X.N[i]? = some n) (hl : X.env.scope.names.lookup n = some .local) (hsu : ∀ e : Addr, PSs (X.handling e) (b₀ :: suite) t) (hr : PHs X hs cts) :
      PHs X (.ExceptHandler (some (.Name x np)) (some n) (b₀ :: suite) pos :: hs) ((c, thAs i t) :: cts)

theorem ObjOk.there {P : Program} {w : World} {H : Hp} {h : Heap} {a : Addr} {o : HO} (x : ObjOk P w H h a o) : ∃ ob, h.get? a = some ob := by
  induction o with
  | lst xs => obtain ⟨_, its, n, _, e⟩ := x; exact ⟨_, e⟩
  | tup xs => obtain ⟨_, its, _, o, e, _⟩ := x; exact ⟨_, e⟩
  | dK kvs => obtain ⟨_, _, vs, _, o, es, ep, e, _⟩ := x; exact ⟨_, e⟩
  | dT kvs => obtain ⟨_, _, xs, _, o, es, ep, e, _⟩ := x; exact ⟨_, e⟩
  | set S n => obtain ⟨o, _, _, _, e, _⟩ := x; exact ⟨_, e⟩
  | ins C dx fs => obtain ⟨_, _, _, e, _⟩ := x; exact ⟨_, e⟩
  | own y => exact x
  | xd fs => obtain ⟨mA, n, _⟩ := x; obtain ⟨o, _, _, e, _⟩ := n; exact ⟨_, e⟩
  | rng lo hi => obtain ⟨t, u, v, e⟩ := x; exact ⟨_, e⟩
  | frz o u ih => exact ⟨_, x.1⟩
  | tbl ps => exact ⟨_, x⟩
  | met f y => exact ⟨_, x⟩
  | ext φ => exact x.2.1
section
variable {X : Cx}
theorem Cx.Ok.handling {e : Addr} (ok : X.Ok) (hf : (X.A.mark (some (.ref e))).frames = X.A.frames) : (X.handling e).Ok :=
  ⟨ok.mod, ok.kind, ok.glob, ok.blt, ok.above, ok.inj, ok.has, ok.cab, (fun z => nomatch z), hf.trans ok.frames, ok.stk, ok.exf, ok.bs, ok.bsz, ok.noex, ok.exfs, ok.funs, ok.frf⟩
theorem Inv.handling {pins : List (Addr × Obj)} {σ : St} {H : Hp} {s : Shared} {e : Addr} (I : Inv X pins σ H s) (hf : (X.A.mark (some (.ref e))).frames = X.A.frames) : Inv (X.handling e) pins σ H s :=
  ⟨I.ok.handling hf, I.os, I.bare, I.base, I.loc, I.cell, I.free, I.freeC, I.pin, I.hok, I.len⟩
theorem Inv.unhandling {pins : List (Addr × Obj)} {σ : St} {H : Hp} {s : Shared} {e : Addr} (I : Inv (X.handling e) pins σ H s) (ok : X.Ok) : Inv X pins σ H s :=
  ⟨ok, I.os, I.bare, I.base, I.loc, I.cell, I.free, I.freeC, I.pin, I.hok, I.len⟩
theorem SP.unhandling {pins : List (Addr × Obj)} {D : Ends} {fl : Flow} {s' : Shared} {e : Addr} (ok : X.Ok) (h : SP (X.handling e) pins D fl s') : SP X pins D fl s' := by
  cases fl with
  | next => obtain ⟨σ, H, I, q⟩ := h; exact ⟨σ, H, I.unhandling ok, q⟩
  | brk => obtain ⟨σ, H, I, q⟩ := h; exact ⟨σ, H, I.unhandling ok, q⟩
  | cont => obtain ⟨σ, H, I, q⟩ := h; exact ⟨σ, H, I.unhandling ok, q⟩
  | ret u => obtain ⟨v, σ, H, I, r, q⟩ := h; exact ⟨v, σ, H, I.unhandling ok, r, q⟩
/-- a new object of the heap is tracked from now on -/
theorem Inv.adopt {pins : List (Addr × Obj)} {σ : St} {H : Hp} {s : Shared} {a : Addr} {o : HO} (I : Inv X pins σ H s) (hn : H a = none) (h0 : X.s₀.heap.get? a = none) (hL : a ≠ X.env.locals) (hc : ∀ x c, X.env.cells.lookup x = some c → c ≠ a)
    (hp : ∀ p ∈ X.pn ++ pins, p.1 ≠ a) (new : ObjOk X.prog X.w (upd H a o) s.heap a o) : Inv X pins σ (upd H a o) s where
  ok := I.ok
  os := I.os
  bare := I.bare
  base := ⟨I.base.keep, I.base.slot, fun b ob q n hx => by rw [upd_ne fun z => by rw [z, h0] at q; cases q]; exact I.base.free b ob q n hx, I.base.there,
    fun b xs q => by have q' := I.base.tups b xs q; rw [upd_ne (ne_of_none q' hn)]; exact q', fun b ob u q => by have q' := I.base.frzs b ob u q; rw [upd_ne (ne_of_none q' hn)]; exact q',
    fun b ps q => by obtain ⟨m, q'⟩ := I.base.tbls b ps q; exact ⟨m, by rw [upd_ne (ne_of_none q' hn)]; exact q'⟩⟩
  loc := I.loc
  cell := I.cell
  free := by rw [upd_ne (Ne.symm hL)]; exact I.free
  freeC := fun x c e => by rw [upd_ne (hc x c e)]; exact I.freeC x c e
  pin := fun p hpp => by
    obtain ⟨a1, a2, a3⟩ := I.pin p hpp
    exact ⟨a1, by rw [upd_ne (hp p hpp)]; exact a2, a3⟩
  hok := fun b u e => by
    by_cases hb : b = a
    · subst hb; rw [upd_same] at e; cases e; exact new
    · rw [upd_ne hb] at e
      exact (I.hok b u e).stay (fun _ _ _ q => q) (fun c q => by rw [upd_ne (ne_of_none q hn)]; exact q) fun c xs q => by rw [upd_ne (ne_of_none q hn)]; exact q
  len := I.len
/-- a name of the frame goes -/
theorem Inv.unname {pins : List (Addr × Obj)} {σ : St} {H : Hp} {s : Shared} {h' : Heap} {t' : Nat} {m : Str → Option Value} {n : Str} {v : Option Value} {i : Nat} (I : Inv X pins σ H s) (hN : X.N.Nodup) (hi : X.N[i]? = some n)
    (hm : ∀ (j : Nat) (x : Str) (y : V), X.N[j]? = some x → σ[j]? = some (some y) → Vis X.env.scope x → ∃ u, RelV y u ∧ Look X.env s.heap m x u)
    (hn : h'.Ns X.env.locals (fun x => if x = n then v else m x)) (sb : Heap.SameBut X.env.locals s.heap h') : Inv X pins (σ.set i none) H { s with heap := h', toks := t' } := by
  have eq : ∀ b, b ≠ X.env.locals → h'.get? b = s.heap.get? b := sb.2
  have neL : ∀ b o, X.s₀.heap.get? b = some o → b ≠ X.env.locals := fun b o e => Nat.ne_of_lt (Nat.lt_of_lt_of_le (Heap.lt_size e) I.ok.above)
  have nt : ∀ b o, H b = some o → b ≠ X.env.locals := fun b o e z => by rw [z, I.free] at e; cases e
  have cellK : ∀ x c, X.env.cells.lookup x = some c → ∀ v, s.heap.IsCell c v → h'.IsCell c v := fun x c e v ⟨o, ho, hd⟩ => ⟨o, by rw [eq c (I.cne x c e)]; exact ho, hd⟩
  refine ⟨I.ok, I.os, I.bare, ⟨fun b o q n hb hx => ?_, fun b o q n hb hx => ?_, I.base.free, fun b o q hx => ?_, I.base.tups, I.base.frzs, I.base.tbls⟩, ⟨_, hn, fun j x y e1 e2 e3 => ?_⟩, fun x c e => ?_, I.free, I.freeC, fun p hp => ?_, fun b u e => ?_, ?_⟩
  · show h'.get? b = _; rw [eq b (neL b o q)]; exact I.base.keep b o q n hb hx
  · show ∃ sl, h'.get? b = _; rw [eq b (neL b o q)]; exact I.base.slot b o q n hb hx
  · show ∃ o', h'.get? b = _; rw [eq b (neL b o q)]; exact I.base.there b o q hx
  · have hj : i ≠ j := fun z => by
      subst z
      rw [List.getElem?_set_self' ] at e2
      cases q : σ[i]? with
      | none => rw [q] at e2; cases e2
      | some w => rw [q] at e2; cases e2
    rw [List.getElem?_set_ne hj] at e2
    obtain ⟨u, ru, lk⟩ := hm j x y e1 e2 e3
    refine ⟨u, ru, ?_⟩
    have hx : x ≠ n := fun z => hj (nodup_ix hN hi (by rw [← z]; exact e1))
    rcases lk with ⟨k, q⟩ | ⟨k, c, e, z⟩
    · exact .inl ⟨k, by show (if x = n then v else m x) = some u; rw [if_neg hx]; exact q⟩
    · exact .inr ⟨k, c, e, cellK x c e _ z⟩
  · obtain ⟨v, z⟩ := I.cell x c e
    exact ⟨v, cellK x c e v z⟩
  · obtain ⟨a1, a2, a3, a4, a5⟩ := I.pin p hp
    exact ⟨by show h'.get? _ = _; rw [eq p.1 a3]; exact a1, a2, a3, a4, a5⟩
  · refine (I.hok b u e).stay (fun c w hc q => ?_) (fun _ q => q) fun _ _ q => q
    show h'.get? c = _
    rw [eq c ?_]
    · exact q
    · rcases hc with hc | hc
      · rw [hc]; exact nt b u e
      · exact nt c _ hc
  · rw [List.length_set]; exact I.len
theorem SP.unname {pins : List (Addr × Obj)} {D : Ends} {fl : Flow} {s8 : Shared} {n : Str} {pos : Pos} {i : Nat} {E : Value → Shared → Prop} (hN : X.N.Nodup) (hi : X.N[i]? = some n) (hl : X.env.scope.names.lookup n = some .local) (h : SP X pins (asEnds i D) fl s8) :
    wpAny (model X.prog X.w) X.A (do bindName X.env n .none; unbindBehindTheSuite X.env n pos) (fun _ s9 => SP X pins D fl s9) E s8 := by
  have go : ∀ {σ : St} {H : Hp} (I : Inv X pins σ H s8) (k : ∀ s9, Inv X pins (σ.set i none) H s9 → SP X pins D fl s9), wpAny (model X.prog X.w) X.A (do bindName X.env n .none; unbindBehindTheSuite X.env n pos) (fun _ s9 => SP X pins D fl s9) E s8 := fun {σ H} I k => by
    obtain ⟨m, hn, hm⟩ := I.loc
    refine wpAny_nameGoes_keeps (m := m) hl hn (by rw [I.ok.kind]; rfl) fun h' v hn' sb => k _ (I.unname hN hi hm hn' sb)
  cases fl with
  | next => obtain ⟨σ, H, I, q⟩ := h; exact go I fun s9 J => ⟨_, H, J, q⟩
  | brk => obtain ⟨σ, H, I, q⟩ := h; exact go I fun s9 J => ⟨_, H, J, q⟩
  | cont => obtain ⟨σ, H, I, q⟩ := h; exact go I fun s9 J => ⟨_, H, J, q⟩
  | ret u => obtain ⟨v, σ, H, I, r, q⟩ := h; exact go I fun s9 J => ⟨v, _, H, J, r, q⟩

theorem handle_ok {pins : List (Addr × Obj)} {σ : St} {H H' : Hp} {s : Shared} {a : Addr} {cls a0 : Value} {B : Heap} {D : Ends} {E : Value → Shared → Prop} (hex : X.ex = []) (I : Inv X pins σ H s) : ∀ {hs : List ExceptHandler} {cts : List (Value × TH)}, PHs X hs cts →
    ∀ s5 : Shared, s5.os = s.os → AllBare s5.gens → FlyB X.prog X.w X.stack H s.heap a cls H' B a0 s5.heap → catchK X.K cls D σ H' cts →
      wpAny (model X.prog X.w) X.A (handleBy (.ref a) X.env hs) (SP X pins D) E s5 := by
  intro hs cts h
  induction h with
  | nil => intro s5 _ _ _ q; exact False.elim q
  | @cons x np pos c b₀ suite t hs cts hg hm hdb hsu hr ih =>
    intro s5 ho hb F q
    have I5 := I.landed ho hb F
    obtain ⟨ob, hob, hcl⟩ := F.fl.there
    have LT : PySem.W.Looks (model X.prog X.w) s5.heap (typeOf (.ref a)) cls := by
      subst hcl
      exact (PySem.W.Looks.ld hob).andThen .now
    refine wpAny_handleBy_cons (codeAny_handlers_test ?_) (by intro z; cases z)
    refine Calls.Name_function_global I5.ok.kind hg (Calls.loadGlobal_global (by rw [I5.ok.glob]; exact I5.mod.glob.keeps I5.bk) hm ?_) hdb
    rcases q with ⟨e, q⟩ | ⟨e, q⟩
    · refine (PySem.W.exm_one I5.kIn LT e).here ?_
      refine codeAny_handlers_suite (lands_againW F.fl fun h6 f6 u6 => ?_)
      have F6 : FlyB X.prog X.w X.stack H s.heap a cls H' B a0 h6 := F.next (frames_nf I.stack) I.stkFree f6 u6
      have I6 : Inv X pins σ H' { s5 with heap := h6 } := I.landed ho hb F6
      refine wpAny_mono (hsu a pins _ σ H' D (I6.handling rfl) q) (fun fl s' hq => SP.unhandling I.ok hq) fun _ _ z => False.elim z
    · refine (PySem.W.exm_one I5.kIn LT e).here ?_
      exact ih s5 ho hb F q
  | @consAs x n np pos c i b₀ suite t hs cts hg hm hdb hN hi hl hsu hr ih =>
    intro s5 ho hb F q
    have I5 := I.landed ho hb F
    obtain ⟨ob, hob, hcl⟩ := F.fl.there
    have LT : PySem.W.Looks (model X.prog X.w) s5.heap (typeOf (.ref a)) cls := by
      subst hcl
      exact (PySem.W.Looks.ld hob).andThen .now
    refine wpAny_handleBy_cons (codeAny_handlers_test ?_) (by intro z; cases z)
    refine Calls.Name_function_global I5.ok.kind hg (Calls.loadGlobal_global (by rw [I5.ok.glob]; exact I5.mod.glob.keeps I5.bk) hm ?_) hdb
    rcases q with ⟨e, q⟩ | ⟨e, q⟩
    · refine (PySem.W.exm_one I5.kIn LT e).here ?_
      refine codeAny_handlers_suite_as (lands_againW F.fl fun h6 f6 u6 => ?_)
      have F6 : FlyB X.prog X.w X.stack H s.heap a cls H' B a0 h6 := F.next (frames_nf I.stack) I.stkFree f6 u6
      have I6 : Inv X pins σ H' { s5 with heap := h6 } := I.landed ho hb F6
      -- the exception is new
      have hBa : B.get? a = none := F.fl.2.1
      obtain ⟨oe, ws, hoe, hoec, hoed, _⟩ := F6.fl.first
      have nfr : a ∉ frs X.stack := fun hm => by
        obtain ⟨_, o', ho', hnf⟩ := F6.fl.2.2.1.mem hm
        rw [hoe] at ho'
        cases ho'
        exact hnf ws hoed
      have sa : s.heap.get? a = none := by
        cases q2 : s.heap.get? a with
        | none => rfl
        | some o2 =>
          obtain ⟨o3, e3⟩ := F.k2 a o2 q2 nfr
          rw [hBa] at e3
          cases e3
      have Ha : H' a = none := by
        cases q2 : H' a with
        | none => rfl
        | some o2 =>
          obtain ⟨o3, e3⟩ := (F.hok a o2 q2).there
          rw [hBa] at e3
          cases e3
      have s0a : X.s₀.heap.get? a = none := by
        cases q2 : X.s₀.heap.get? a with
        | none => rfl
        | some o2 =>
          obtain ⟨o3, e3⟩ := I.base.there a o2 q2 (by rw [hex]; simp)
          rw [sa] at e3
          cases e3
      have Ia := I6.adopt (a := a) (o := excO a cls) Ha s0a (fun z => by
          obtain ⟨m, ⟨o, _, _, hoL, _⟩, _⟩ := I.loc
          rw [z, hoL] at sa
          cases sa) (fun x c e z => by
          obtain ⟨v, o, hc, _⟩ := I.cell x c e
          rw [z, sa] at hc
          cases hc) (fun p hp z => by
          obtain ⟨a1, _⟩ := I.pin p hp
          rw [z, sa] at a1
          cases a1) ⟨⟨oe, hoe, hoec⟩, ⟨oe, hoe⟩, fun h1 h2 ⟨o, e1, e2⟩ k => ⟨o, k o e1, e2⟩⟩
      refine store_ok Ia hN hi (Or.inl hl) (v := .ref a) rfl (fun s7 I7 => ?_) (.inr hl)
      refine wpAny_mono (hsu a pins s7 _ _ (asEnds i D) (I7.handling rfl) (q a Ha)) (fun fl s' hq => ?_) fun _ _ z => False.elim z
      exact SP.unname hN hi hl (SP.unhandling I.ok hq)
    · refine (PySem.W.exm_one I5.kIn LT e).here ?_
      exact ih s5 ho hb F q

def tTry (K : PySem.W.Frag) (tb : XK → TS) (cts : List (Value × TH)) : TS := fun D σ H => tb (fun cls _ H' => catchK K cls D σ H' cts) D σ H
theorem ps_try {st : Stmt} {h₀ : ExceptHandler} {hs : List ExceptHandler} {pos : Pos} {tb : XK → TS} {cts : List (Value × TH)} (hstk : X.stack = X.env :: X.outer) (hfr : X.env.frame = some X.env.locals) (hex : X.ex = []) (hb : PSa X st tb) (hh : PHs X (h₀ :: hs) cts) :
    PS X (.Try [st] (h₀ :: hs) [] [] pos) (tTry X.K tb cts) := by
  intro pins s σ H D I h
  refine wpAny_Try_except (wpAny_execs_cons (thn (hb pins s σ H _ _ D ?pa I h) ?nx))
  case nx =>
    intro fl s1 q
    cases fl with
    | next => exact wpAny_execs_nil (wpAny_execs_nil q)
    | brk => exact q
    | cont => exact q
    | ret u => exact q
  case pa =>
    intro H1 s1 e s' I1 hq
    obtain ⟨a, C, H2, B, a0, rfl, os, bare, F, hE⟩ := hq
    have stk : X.A.frames = some (X.env :: X.outer) := by rw [I1.ok.frames, hstk]
    have F' := F
    rw [hstk] at F'
    refine wpAny_looks_onW (base := B) (L := X.env.locals) stk hfr F'.fl fun h4 g4 u4 => ?_
    refine wpAny_landsW g4 fun h5 g5 u5 => ?_
    refine handle_ok (B := B) (a0 := a0) hex I1 hh { s' with heap := h5 } os bare ?_ hE
    refine F.next (frames_nf I1.stack) I1.stkFree ?_ (u4.trans u5)
    rw [hstk]
    exact g5
end

/-! ### a def whose exceptions are told -/
section
variable {P : Program} {w : World} {K : PySem.W.Frag} {mg : Str → Option Value} {base : Heap}
theorem Fun.okK {x qual : Str} {st : Stmt} {f : Addr} {fd : FuncData} {N ps : List Str} {k : Nat} {sp : Sp} (F : Fun K x qual st f fd) (S : FnScope N ps (defScope st)) (len : ∀ vs H Q E, sp vs H Q E → vs.length = ps.length)
    (hbody : ∀ (cdv : Value) (A : Around) (outer : List Env) (s : Shared) (H : Hp) (vs : List V) (Q : VK) (E : XK), Room k (A.deeper (envOfC qual (defScope st) s.heap.objs.size f cdv)) → sp vs H Q E →
      ∃ t, PSs (cxOf (CXK P w) P w K mg base N qual (defScope st) f cdv A outer s H E) (defBody st) t ∧ t { nx := fun _ H' => Q .non H', rt := Q } (start N vs) H) : FnOk P w K mg base (CXK P w) (k + 1) f fd ps sp := by
  obtain ⟨oc, od, kV, doc, pm, an, cdv, ct, osl, rfl, lk, hcd⟩ := F.ex
  exact fn_of lk hcd S len fun A outer s H vs Q E hr hsp => hbody cdv A outer s H vs Q E hr hsp
theorem FnOk.toK {k : Nat} {f : Addr} {fd : FuncData} {ps : List Str} {sp : Sp} (F : FnOk P w K mg base CX0 k f fd ps sp) : FnOk P w K mg base (CXK P w) k f fd ps sp :=
  ⟨F.len, fun A outer s H args us vs Q E hr he hb hv hs => codeAny_mono (F.run A outer s H args us vs Q E hr he hb hv hs) fun r s' h => by
    cases r with
    | error e => exact False.elim h
    | ok fl => cases fl <;> exact h⟩
end
end L2

namespace L2
open PySem PySem.Spec PyProof.Rows

/-! ### a list comprehension with one for, over names of the frame that stand in cells -/
def cxComp (X : Cx) (scope : Scope) (cl : List (Str × Addr)) (N' : List Str) (ex : List Addr) (s3 : Shared) (H3 : Hp) : Cx :=
  { X with N := N', s₀ := s3, H₀ := H3, env := compEnvC scope cl s3.heap.objs.size X.env, outer := X.stack, stack := X.stack, ex := ex, fn := fun _ => false, xe := fun _ _ => False }
/-- fr: the free names, js: their slots in the frame -/
structure CompOk (X : Cx) (scope : Scope) (cl : List (Str × Addr)) (tgt : Str) (fr : List Str) (js : List Nat) : Prop where
  kind : scope.kind = .function
  names : ∀ y ∈ scope.names, y.2 = .local → scope.names.lookup y.1 = some .local
  nocell : ∀ y ∈ scope.names, y.2 ≠ .cell
  clos : closureFor scope X.env = pure cl
  sub : ∀ x c, cl.lookup x = some c → X.env.cells.lookup x = some c
  has : ∀ x, ((relabel scope X.env).names.lookup x = some .cell ∨ (relabel scope X.env).names.lookup x = some .free) → ∃ c, cl.lookup x = some c
  frs : ∀ (i : Nat) (x : Str), fr[i]? = some x → ∃ j, js[i]? = some j ∧ X.N[j]? = some x ∧ (X.env.scope.names.lookup x = some .cell ∨ X.env.scope.names.lookup x = some .free) ∧ ((relabel scope X.env).names.lookup x = some .cell ∨ (relabel scope X.env).names.lookup x = some .free)
  len : js.length = fr.length
  lc : scope.names.lookup tgt = some .local
  nd : (tgt :: fr).Nodup
def compSt (σ : St) (js : List Nat) (x : Option V) : St := x :: js.map fun j => (σ[j]?).join

section
variable {X : Cx} {pins : List (Addr × Obj)} {σ : St} {H : Hp} {s : Shared} {scope : Scope} {cl : List (Str × Addr)} {tgt : Str} {fr : List Str} {js : List Nat} {fp : List Addr}
theorem CompOk.cx (O : CompOk X scope cl tgt fr js) (I : Inv X pins σ H s) (f : ∀ b ∈ fp, FpOk X pins H b) (fe : ∀ b ∈ fp, b < s.heap.objs.size) : (cxComp X scope cl (tgt :: fr) fp s H).Ok where
  mod := I.ok.mod
  kind := O.kind
  glob := I.ok.glob
  blt := I.ok.blt
  above := Nat.le_refl _
  inj := fun x y c h1 h2 => I.ok.inj x y c (O.sub x c h1) (O.sub y c h2)
  has := fun x h => O.has x h
  cab := fun x c h => nomatch h
  hd := I.ok.hd
  frames := I.ok.frames
  stk := .inl rfl
  exf := fun b hb => ⟨Nat.ne_of_lt (fe b hb), fun x c e => (f b hb).2.2.2.2.1 x c (O.sub x c e)⟩
  bs := I.bs
  bsz := Nat.le_trans I.ok.bsz I.sz
  noex := fun b o e hb => by
    rcases (f b hb).2.2.2.1 with z | z
    · exact I.ok.noex b o e z
    · exact absurd (Nat.lt_of_lt_of_le (Heap.lt_size e) (Nat.le_trans I.ok.bsz z)) (Nat.lt_irrefl _)
  exfs := fun b hb z => (List.mem_cons.mp (I.stkSub b z)).elim (f b hb).2.1 (f b hb).2.2.1
  funs := I.stack
  frf := I.stkFree
theorem CompOk.start (O : CompOk X scope cl tgt fr js) (I : Inv X pins σ H s) (f : ∀ b ∈ fp, FpOk X pins H b) (fe : ∀ b ∈ fp, b < s.heap.objs.size) {h' : Heap} {t' : Nat} {m : Str → Option Value} (hn : h'.Ns s.heap.objs.size m)
    (k : ∀ b o, s.heap.get? b = some o → h'.get? b = some o) : Inv (cxComp X scope cl (tgt :: fr) fp s H) pins (compSt σ js none) H { s with heap := h', toks := t' } where
  ok := O.cx I f fe
  os := rfl
  bare := I.bare
  base := Un.kept k
  loc := by
    refine ⟨m, hn, fun i x v h1 h2 h3 => ?_⟩
    cases i with
    | zero => have h2' : (some (none : Option V)) = some (some v) := h2; cases h2'
    | succ i =>
      have h1' : fr[i]? = some x := h1
      obtain ⟨j, hj, hN, hk, hk'⟩ := O.frs i x h1'
      have h2' : (js.map fun j => (σ[j]?).join)[i]? = some (some v) := h2
      rw [List.getElem?_map, hj] at h2'
      have h4 : (σ[j]?).join = some v := Option.some.inj h2'
      have h5 : σ[j]? = some (some v) := by
        cases e : σ[j]? with
        | none => rw [e] at h4; cases h4
        | some y => rw [e] at h4; have : y = some v := h4; rw [this]
      obtain ⟨m0, _, hl⟩ := I.loc
      obtain ⟨u, ru, lk⟩ := hl j x v hN h5 (hk.elim (fun z => .inr (.inl z)) fun z => .inr (.inr z))
      refine ⟨u, ru, .inr ⟨hk', ?_⟩⟩
      rcases lk with ⟨z, _⟩ | ⟨_, c, e, ic⟩
      · have z' : X.env.scope.names.lookup x = some .local := z
        rcases hk with q | q <;> (rw [q] at z'; cases z')
      · obtain ⟨c', e'⟩ := O.has x hk'
        have e2 := O.sub x c' e'
        rw [e] at e2
        cases e2
        obtain ⟨o, ho, hd⟩ := ic
        exact ⟨c, e', o, k _ _ ho, hd⟩
  cell := fun x c e => by
    obtain ⟨v, o, ho, hd⟩ := I.cell x c (O.sub x c e)
    exact ⟨v, o, k _ _ ho, hd⟩
  free := I.hok.fresh (Nat.le_refl _)
  freeC := fun x c e => I.freeC x c (O.sub x c e)
  pin := fun p hp => by
    obtain ⟨a1, a2, a3, a4, a5⟩ := I.pin p hp
    exact ⟨k _ _ a1, a2, Nat.ne_of_lt (Heap.lt_size a1), fun z => (List.mem_cons.mp (I.stkSub p.1 z)).elim a3 a4, a5⟩
  hok := I.hok.kept k
  len := by
    show (none :: js.map fun j => (σ[j]?).join).length = (tgt :: fr).length
    rw [List.length_cons, List.length_cons, List.length_map, O.len]
/-- back in the frame -/
theorem CompOk.back (O : CompOk X scope cl tgt fr js) (I : Inv X pins σ H s) (f : ∀ b ∈ fp, FpOk X pins H b) {σ' : St} {H' : Hp} {s' : Shared} {h' : Heap} (J : Inv (cxComp X scope cl (tgt :: fr) fp s H) pins σ' H' s') (sb : Heap.SameBut s.heap.objs.size s'.heap h') :
    Inv X pins σ H' { s' with heap := h' } := by
  have u : Un (L2.frs X.stack) fp H H' s.heap s'.heap := J.base
  have eq : ∀ b, b ≠ s.heap.objs.size → h'.get? b = s'.heap.get? b := sb.2
  have lt : ∀ b o, s.heap.get? b = some o → b ≠ s.heap.objs.size := fun b o e => Nat.ne_of_lt (Heap.lt_size e)
  have fC : H' s.heap.objs.size = none := J.free
  refine I.call' (s' := { s' with heap := h' }) (ch := fp) J.os ⟨fun b o q n hb hx => ?_, fun b o q n hb hx => ?_, u.free, fun b o q hx => ?_, u.tups, u.frzs, u.tbls⟩ (fun a o e => ?_) J.bare fun b hb => ?_
  · show h'.get? b = _
    rw [eq b (lt b o q)]; exact u.keep b o q n hb hx
  · show ∃ sl, h'.get? b = _
    rw [eq b (lt b o q)]; exact u.slot b o q n hb hx
  · show ∃ o', h'.get? b = _
    rw [eq b (lt b o q)]; exact u.there b o q hx
  · refine (J.hok a o e).stay (fun b v hb q => ?_) (fun _ q => q) fun _ _ q => q
    show h'.get? b = _
    rw [eq b fun z => ?_]
    · exact q
    · rcases hb with hb | hb
      · rw [← hb, z, fC] at e; cases e
      · rw [z, fC] at hb; cases hb
  · exact ⟨(f b hb).2.2.2.1, (f b hb).2.1, (f b hb).2.2.2.2.1, (f b hb).2.2.2.2.2⟩
end

/-- [e for x in it] / [e for x in it if c] -/
def tComp (wi : TI) (js : List Nat) (tc : TT) (te : TE) : TE := fun σ H Q => wi σ H fun J H1 => ∀ D, H1 D = none → ∃ W : Nat → Nat → List V → Hp → Prop, (∃ m, W 0 m [] (upd H1 D (.lst []))) ∧ ∀ i m ys H2, W i m ys H2 →
  (J.stop i H2 ∧ Q (.ref D) H2) ∨ (J.go i H2 ∧ ∀ x H3, J.yld i H2 x H3 → tc (compSt σ js (some x)) H3 fun b H4 =>
    if b = true then te (compSt σ js (some x)) H4 fun y H5 => H5 D = some (.lst ys) ∧ ys.length < sizeLine ∧ ∃ m', m' < m ∧ W (i + 1) m' (ys ++ [y]) (upd H5 D (.lst (ys ++ [y]))) else ∃ m', m' < m ∧ W (i + 1) m' ys H4)
def tYes : TT := fun _ H Q => Q true H
/-- the tests of a comprehension: none or one -/
inductive PIfs (X : Cx) : List Expr → TT → Prop
  | nil : PIfs X [] tYes
  | one {c : Expr} {t : TT} (h : PT X c t) : PIfs X [c] t
section
variable {X : Cx} {elt iter : Expr} {ifs : List Expr} {scope : Scope} {cl : List (Str × Addr)} {tgt : Str} {fr : List Str} {js : List Nat} {pos px : Pos} {wi : TI} {te : TE} {tc : TT}
theorem PIfs.run {A : Around} (hA : X.A = A) (h : PIfs X ifs tc) {pins : List (Addr × Obj)} {σ : St} {H : Hp} {s : Shared} {Q : Bool → Hp → Prop} (I : Inv X pins σ H s) (q : tc σ H Q) :
    wpAny (model X.prog X.w) A (forIn ifs true fun c r => if r = true then do let ok ← isTrue c X.env (eval c X.env); pure (ForInStep.yield ok) else pure (ForInStep.yield r)) (TP X pins σ Q) X.xe s := by
  subst hA
  cases h with
  | nil => exact wpAny_tests_nil ⟨H, I, q⟩
  | one h => exact wpAny_tests_one (h pins s σ H Q I q)
theorem pe_comp (O : CompOk X scope cl tgt fr js) (hc : X.calm = true) (hi : PI X (.Name tgt px) iter wi) (ht : ∀ ex s3 H3, PIfs (cxComp X scope cl (tgt :: fr) ex s3 H3) ifs tc) (he : ∀ ex s3 H3, PE (cxComp X scope cl (tgt :: fr) ex s3 H3) elt te)
    (hs : ∀ x, foldedSetIterable iter X.env x = pure x := by intro _; rfl) : PE X (.ListComp elt [⟨.Name tgt px, iter, ifs, 0⟩] scope pos) (tComp wi js tc te) := by
  intro pins s σ H Q I h
  rw [eval_ListComp]
  refine wpAny_comprehension_free (use := none) rfl hs O.clos O.kind O.names (thn (hi pins s σ H _ I h) fun v s1 h1 => thn h1 fun itv s2 h2 => ?_)
  obtain ⟨it, fp, tn, J, H2, e, I2, T, st2, f2, r2⟩ := h2
  subst e
  have fD : H2 s2.heap.objs.size = none := I2.hok.fresh (Nat.le_refl _)
  obtain ⟨W, ⟨m0, w0⟩, turn⟩ := r2 _ fD
  have fe : ∀ b ∈ fp, b < s2.heap.objs.size := fun b hb => by
    obtain ⟨o, ho, _⟩ := T.obj 0 _ st2 b hb
    exact Heap.lt_size ho
  -- the new list, the new names
  refine wpAny_newObj_type (wpAny_newFunctionEnv O.nocell (by intro y hy; simp at hy) (fun h₁ hns hsb => ?_) O.kind)
  dsimp only at hns hsb ⊢
  have I3 : Inv X pins σ (upd H2 s2.heap.objs.size (.lst [])) { s2 with heap := s2.heap.push { cls := .type "list", dict := none, data := .seq ([] : List Value).toArray } } := Inv.lnew (t' := s2.toks) I2 (ys := []) (its := []) .nil (Nat.zero_le _)
  have f3 : ∀ b ∈ fp, FpOk X pins (upd H2 s2.heap.objs.size (.lst [])) b := fun b hb => ⟨by rw [upd_ne (Nat.ne_of_lt (fe b hb))]; exact (f2 b hb).1, (f2 b hb).2⟩
  have fe3 : ∀ b ∈ fp, b < (s2.heap.push { cls := .type "list", dict := none, data := .seq ([] : List Value).toArray }).objs.size := fun b hb => by rw [Heap.size_push]; exact Nat.lt_succ_of_lt (fe b hb)
  generalize hS3 : ({ s2 with heap := s2.heap.push { cls := .type "list", dict := none, data := .seq ([] : List Value).toArray } } : Shared) = s3 at I3
  have hh3 : s2.heap.push { cls := .type "list", dict := none, data := .seq ([] : List Value).toArray } = s3.heap := by rw [← hS3]
  rw [hh3] at hns hsb fe3
  have k3 : ∀ b o, s3.heap.get? b = some o → h₁.get? b = some o := fun b o e => hsb.extBut b o (Nat.ne_of_lt (Heap.lt_size e)) (Heap.get?_push_of_some _ e)
  have J0 := O.start I3 f3 fe3 (t' := s2.toks + ([] : List (Str × Value)).length) hns k3
  have st3 : tn 0 h₁ := T.keep _ _ _ st2 fun b hb o e => k3 b o (by rw [← hh3]; exact Heap.get?_push_of_some _ e)
  have stat : ∀ {H' : Hp}, (∀ b ∈ fp, H' b = none) → ∀ b ∈ fp, FpOk (cxComp X scope cl (tgt :: fr) fp s3 (upd H2 s2.heap.objs.size (.lst []))) pins H' b := fun hn b hb =>
    ⟨hn b hb, Nat.ne_of_lt (fe3 b hb), fun z => (List.mem_cons.mp (I3.stkSub b z)).elim (f3 b hb).2.1 (f3 b hb).2.2.1, .inl hb, fun x c e => (f3 b hb).2.2.2.2.1 x c (O.sub x c e), (f3 b hb).2.2.2.2.2⟩
  have fin : ∀ {σ' : St} {H' : Hp} {s' : Shared}, Inv (cxComp X scope cl (tgt :: fr) fp s3 (upd H2 s2.heap.objs.size (.lst []))) pins σ' H' s' → Q (.ref s2.heap.objs.size) H' →
      compPost (model X.prog X.w) X.A X.xe none (EP X pins σ Q) (.ref s2.heap.objs.size) s3.heap.objs.size (.ok .next) s' := fun {σ' H' s'} J q => by
    obtain ⟨m, hm, _⟩ := J.loc
    exact ⟨m, hm, fun h' sb => ⟨.ref s2.heap.objs.size, H', O.back I3 f3 J sb, rfl, q⟩⟩
  have loop : ∀ s4 : Shared, s4.heap = h₁ → Inv (cxComp X scope cl (tgt :: fr) fp s3 (upd H2 s2.heap.objs.size (.lst []))) pins (compSt σ js none) (upd H2 s2.heap.objs.size (.lst [])) s4 →
      codeAny (model X.prog X.w) X.A (.compLoop (.ListComp elt [⟨.Name tgt px, iter, ifs, 0⟩] scope pos) 0 (.ref it) (.ref s2.heap.objs.size) (compEnvC scope cl s3.heap.objs.size X.env))
        (compPost (model X.prog X.w) X.A X.xe none (EP X pins σ Q) (.ref s2.heap.objs.size) s3.heap.objs.size) s4 := by
    intro s4 hs4 J4
    refine codeAny_compLoop_tests (fun n s' => ∃ i y H' ys, Inv (cxComp X scope cl (tgt :: fr) fp s3 (upd H2 s2.heap.objs.size (.lst []))) pins (compSt σ js y) H' s' ∧ tn i s'.heap ∧ (∀ b ∈ fp, H' b = none) ∧ W i n ys H') ?_ m0
      ⟨0, none, _, [], J4, by rw [hs4]; exact st3, fun b hb => (f3 b hb).1, w0⟩
    rintro n s5 ⟨i, y, H5, ys, J5, st5, fr5, w5⟩
    rcases turn i n ys H5 w5 with ⟨stop, q⟩ | ⟨go, stp⟩
    · refine wpAny_mono (T.done (cxComp X scope cl (tgt :: fr) fp s3 (upd H2 s2.heap.objs.size (.lst []))) rfl rfl rfl hc i pins s5 _ H5 (fun _ _ => False) J5 (stat fr5) st5 stop) (fun r s6 hr => ?_) fun _ _ z => z.elim
      obtain ⟨hr, J6⟩ := hr
      subst hr
      exact fin J6 q
    · refine wpAny_mono (T.item (cxComp X scope cl (tgt :: fr) fp s3 (upd H2 s2.heap.objs.size (.lst []))) rfl rfl rfl hc i pins s5 _ H5 (fun _ _ => False) J5 (stat fr5) st5 go) (fun r s6 hr => ?_) fun _ _ z => z.elim
      obtain ⟨u, hr, h6⟩ := hr
      subst hr
      show wpAny (model X.prog X.w) X.A (letOwnedTupleGo (.Name tgt px) (.ref it) u >>= fun _ => assign (.Name tgt px) (compEnvC scope cl s3.heap.objs.size X.env) u) _ _ s6
      refine wpAny_bind (wpAny_mono h6 (fun _ s7 h7 => ?_) fun _ _ z => z.elim)
      obtain ⟨x, H7, J7, r7, y7, st7, fr7⟩ := h7
      have J7' := J7.pinned (stat fr7) (T.obj _ _ st7)
      have again : ∀ {σ8 : St} {H8 : Hp} {s8 : Shared}, Inv (cxComp X scope cl (tgt :: fr) fp s3 (upd H2 s2.heap.objs.size (.lst []))) (pins ++ pinsAt fp s7.heap) σ8 H8 s8 → tn (i + 1) s8.heap ∧ ∀ b ∈ fp, H8 b = none := fun {σ8 H8 s8} J8 => by
        refine ⟨T.keep _ _ _ st7 fun b hb o e => (J8.pin (b, o) (List.mem_append_right _ (List.mem_append_right _ (mem_pinsAt hb e)))).1, fun b hb => ?_⟩
        obtain ⟨o, e, d⟩ := T.obj _ _ st7 b hb
        exact (J8.pin (b, o) (List.mem_append_right _ (List.mem_append_right _ (mem_pinsAt hb e)))).2.1
      have hg : PG (cxComp X scope cl (tgt :: fr) fp s3 (upd H2 s2.heap.objs.size (.lst []))) (.Name tgt px) (gName 0) := pg_name O.nd rfl (Or.inl (lookup_relabel_local O.lc)) (.inr (lookup_relabel_local O.lc))
      refine wpAny_mono (hg _ s7 _ H7 x u (fun σ9 H9 => σ9 = compSt σ js (some x) ∧ H9 = H7) J7' r7 ⟨rfl, rfl⟩) (fun _ s8 h8 => ?_) fun _ _ z => z.elim
      obtain ⟨σ8, H8, J8, e8, e8'⟩ := h8
      subst e8 e8'
      refine wpAny_mono ((ht fp s3 (upd H2 s2.heap.objs.size (.lst []))).run rfl J8 (stp x _ y7)) (fun b s9 h9 => ?_) fun _ _ z => z.elim
      obtain ⟨H9, J9, q9⟩ := h9
      cases b with
      | false =>
        rw [if_neg Bool.false_ne_true] at q9 ⊢
        obtain ⟨m', hm, w9⟩ := q9
        obtain ⟨a1, a2⟩ := again J9
        exact ⟨m', hm, i + 1, some x, H9, ys, J9.unpinned, a1, a2, w9⟩
      | true =>
        rw [if_pos rfl] at q9 ⊢
        refine wpAny_mono (he fp s3 (upd H2 s2.heap.objs.size (.lst [])) _ s9 _ H9 _ J9 q9) (fun v s10 h10 => ?_) fun _ _ z => z.elim
        obtain ⟨z, H10, J10, r10, hD, hl, m', hm, w10⟩ := h10
        refine wpAny_mono (mt_append (X := cxComp X scope cl (tgt :: fr) fp s3 (upd H2 s2.heap.objs.size (.lst []))) _ s10 _ H10 (.ref s2.heap.objs.size) [z] (.ref s2.heap.objs.size) [v] (fun _ H11 => H11 = upd H10 s2.heap.objs.size (.lst (ys ++ [z]))) J10 rfl (.cons r10 .nil)
          ⟨_, ys, z, rfl, rfl, hD, hl, rfl⟩) (fun _ s11 h11 => ?_) fun _ _ z => z.elim
        obtain ⟨_, H11, J11, _, e11⟩ := h11
        subst e11
        obtain ⟨a1, a2⟩ := again J11
        exact ⟨m', hm, i + 1, some x, _, ys ++ [z], J11.unpinned, a1, a2, w10⟩
  subst hS3
  exact codeAny_compStart_list (loop _ rfl J0) (T.self _ 0 _ _ _ st3 (loop _ rfl J0))
end
end L2

namespace L2
open PySem PySem.Spec PyProof.Rows

/-! ### a cut between statements -/
def tCut (t u : TS) : TS := fun D σ H => ∃ P : St → Hp → Prop, t { D with nx := P } σ H ∧ ∀ σ' H', P σ' H' → u D σ' H'
theorem pss_cut {X : Cx} {st : Stmt} {rest : List Stmt} {t u : TS} (h1 : PS X st t) (h2 : PSs X rest u) : PSs X (st :: rest) (tCut t u) := by
  intro pins s σ H D I h
  obtain ⟨P, ht, hu⟩ := h
  refine wpAny_execs_cons (thn (h1 pins s σ H { D with nx := P } I ht) fun f s1 q => ?_)
  cases f with
  | next =>
    obtain ⟨σ', H', I', q⟩ := q
    exact h2 pins s1 σ' H' D I' (hu σ' H' q)
  | ret v => exact q
  | brk => exact q
  | cont => exact q

/-! ### products of numbers of up to 500 bits -/
def CMulB (i j : Int) : Prop := i.natAbs < 2 ^ 500 ∧ j.natAbs < 2 ^ 500
theorem op_mulB {X : Cx} : OpR X (binaryOp .Mult) (rI CMulB fun i j => .int (i * j)) := opI fun _ _ _ _ _ _ _ hc q =>
  mul_int q (.of_bits (Nat.le_trans (PySem.intBits_le_iff.mpr hc.1) (by decide)) (Nat.le_trans (PySem.intBits_le_iff.mpr hc.2) (by decide)))

/-! ### a def by its name -/
structure Fn (P : Program) (w : World) (K : PySem.W.Frag) (mg : Str → Option Value) (base : Heap) (CX : CXT) (x : Str) (k : Nat) (ps : List Str) (sp : Sp) : Prop where
  ex : ∃ f fd, FnOk P w K mg base CX k f fd ps sp ∧ mg x = some (.ref f) ∧ PySem.W.keepIn K (.ref f) = true ∧ Binds K fd ps []
section
variable {X : Cx} {CX : CXT} {x : Str} {k : Nat} {ps : List Str} {sp : Sp} {E : XK} {p pos : Pos} {e : Expr} {es : List Expr} {t : TA}
theorem pe_fn (F : Fn X.prog X.w X.K X.mg X.base CX x k ps sp) (hr : Room k X.A) (hg : Gl X x) (hx : Passes CX X E) (ha : PA X (e :: es) t) (hdb : (x == ("__debug__" : Str)) = false := by decide)
    (he : starEach (e :: es) X.env = (false, eval e X.env) :: starEach es X.env := by rfl) (hpl : (backTo pos (starEach es X.env)).any (·.1) = false := by rfl) :
    PE X (.Call (.Name x p) (e :: es) [] pos) (tCall sp [] E t) := by
  obtain ⟨f, fd, G, hm, hk, hb⟩ := F.ex
  exact pe_call G hr hg hm hk hb .nil hx ha hdb he hpl
theorem pea_fn (F : Fn X.prog X.w X.K X.mg X.base (CXK X.prog X.w) x k ps sp) (hr : Room k X.A) (hg : Gl X x) (ha : PA X.nox (e :: es) t) (hdb : (x == ("__debug__" : Str)) = false := by decide)
    (he : starEach (e :: es) X.env = (false, eval e X.env) :: starEach es X.env := by rfl) (hpl : (backTo pos (starEach es X.env)).any (·.1) = false := by rfl) :
    PEa X (.Call (.Name x p) (e :: es) [] pos) (fun E => tCall sp [] E t) := by
  obtain ⟨f, fd, G, hm, hk, hb⟩ := F.ex
  exact pea_call G hr hg hm hk hb ha hdb he hpl
end

/-! ### methods of lists -/
section
variable {X : Cx} {o e : Expr} {to te : TE} {apos cpos : Pos}
theorem pe_append (ho : PE X o to) (he : PE X e te) (hbase : attributeBase o "append" X.env (eval o X.env) = eval o X.env := by rfl)
    (hfew : ((backTo cpos (starEach [e] X.env)).all (fun x => !x.1) && (backToKw cpos (keywordEach [] X.env)).all (fun x => x.1.isSome) && decide ([e].length + ([] : List Keyword).length + (if ([] : List Keyword).isEmpty then 0 else 1) < 30)) = true := by rfl)
    (hline : (apos.endLine == cpos.line) = true := by rfl) (hs : starEach [e] X.env = (false, eval e X.env) :: starEach [] X.env := by rfl) : PE X (.Call (.Attribute o "append" apos) [e] [] cpos) (tBM X.K "list" rAppend to (tCons te tNil)) :=
  pe_bm PySem.F.plainAttrs_list PySem.F.slot_list_append rfl mt_append ho (pa_cons he pa_nil hs) hbase hfew hline hs rfl
end
end L2

namespace L2
open PySem PySem.Spec PyProof.Rows

/-! ### readings that a rewriting can take -/
def sq (H : Hp) : V → Option (List V)
  | .ref a => match H a with
    | some (.lst xs) => some xs
    | some (.tup xs) => some xs
    | some (.frz _ (.lst xs)) => some xs
    | _ => none
  | _ => none
theorem sq_lst {H : Hp} {a : Addr} {xs : List V} (h : H a = some (.lst xs)) : sq H (.ref a) = some xs := by simp only [sq, h]
theorem sq_tup {H : Hp} {a : Addr} {xs : List V} (h : H a = some (.tup xs)) : sq H (.ref a) = some xs := by simp only [sq, h]
theorem sq_cases {H : Hp} {x : V} {xs : List V} (K : PySem.W.Frag) (h : sq H x = some xs) : ∃ a, x = .ref a ∧ (SqL K H a xs ∨ SqT K H a xs) := by
  cases x with
  | ref a =>
    refine ⟨a, rfl, ?_⟩
    simp only [sq] at h
    split at h
    · rename_i e; cases h; exact .inl (.of e)
    · rename_i e; cases h; exact .inr (.of e)
    · rename_i o ys e; cases h; exact .inl (.inl (.inr ⟨o, e⟩))
    · cases h
  | _ => cases h
theorem sq_rd {H : Hp} {x : V} {xs : List V} (h : sq H x = some xs) : ∃ a, x = .ref a ∧ (Rd H a (.lst xs) ∨ Rd H a (.tup xs)) := by
  cases x with
  | ref a =>
    refine ⟨a, rfl, ?_⟩
    simp only [sq] at h
    split at h
    · cases h; exact .inl (.inl ‹_›)
    · cases h; exact .inr (.inl ‹_›)
    · cases h; exact .inl (.inr ⟨_, ‹_›⟩)
    · cases h
  | _ => cases h
def keyOf : V → Option Key
  | .int i => some (.inl i)
  | .str s => some (.inr s)
  | _ => none
theorem keyOf_kV {y : V} {k : Key} (h : keyOf y = some k) : y = kV k := by
  cases y <;> first | (cases h; rfl) | cases h
section
variable {X : Cx} {a b : Expr} {ta tb : TE} {pos : Pos}
def rIxF : R2 := fun x y H Q => ∃ xs i v, sq H x = some xs ∧ y = .int i ∧ atI xs i = some v ∧ Q v H
theorem ix_F : IxR X rIxF := fun value slice pins s σ H x y v u Q I rx ry h hs => by
  obtain ⟨xs, i, z, h1, rfl, h2, q⟩ := h
  obtain ⟨p, rfl, h3⟩ := sq_cases X.K h1
  rcases h3 with h3 | h3
  · exact ix_list value slice pins s σ H _ _ v u Q I rx ry ⟨p, xs, i, z, rfl, rfl, h3, h2, q⟩ hs
  · exact ix_tup value slice pins s σ H _ _ v u Q I rx ry ⟨p, xs, i, z, rfl, rfl, h3, h2, q⟩ hs
theorem pe_ixF (ha : PE X a ta) (hb : PE X b tb) (hs : PlainIx b := by intro _ _; rfl) : PE X (.Subscript a b pos) (tOp rIxF ta tb) := pe_ix ix_F ha hb hs
def rLenF : List V → Hp → VK → Prop := fun xs H Q => ∃ x ys, xs = [x] ∧ sq H x = some ys ∧ Q (.int ys.length) H
theorem call_lenF : CallR X (.builtin "len") rLenF := fun pins s σ H xs us Q I r h => by
  obtain ⟨x, ys, rfl, h1, q⟩ := h
  obtain ⟨p, rfl, h3⟩ := sq_cases X.K h1
  exact call_len_seq pins s σ H _ us Q I r ⟨p, ys, rfl, h3, q⟩
def rListF : List V → Hp → VK → Prop := fun xs H Q => ∃ x ys, xs = [x] ∧ sq H x = some ys ∧ ∀ l, H l = none → Q (.ref l) (upd H l (.lst ys))
theorem call_listF : CallR X (.type "list") rListF := fun pins s σ H xs us Q I r h => by
  obtain ⟨x, ys, rfl, h1, q⟩ := h
  obtain ⟨p, rfl, h3⟩ := sq_cases X.K h1
  exact call_list_of pins s σ H _ us Q I r ⟨p, ys, rfl, h3, q⟩
def tDgF (td ty : TE) : TE := fun σ H Q => td σ H fun x H1 => ty σ H1 fun y H2 => ∃ a kvs k v, x = .ref a ∧ H2 a = some (.dK kvs) ∧ keyOf y = some k ∧ valV kvs k = some v ∧ Q v H2
theorem pe_dgF (hu : X.A.units + 1 < cLine) (ho : PE X a ta) (hi : PE X b tb) (hs : NoSl b := by intro _ _; rfl) : PE X (.Subscript a b pos) (tDgF ta tb) := by
  intro pins s σ H Q I h
  refine subD_of PySem.F.slot_dict_getitem.lookup hs (thn (ho pins s σ H _ I h) fun u s1 ⟨x, H1, I1, rx, q1⟩ => thn (hi pins s1 σ H1 _ I1 q1) fun iv s2 ⟨y, H2, I2, ry, a, kvs, k, v, ex, e1, e2, e3, q2⟩ => ?_)
  subst ex
  obtain rfl : u = Value.ref a := rx
  have g : DGet H2 a y (some v) := by rw [keyOf_kV e2, ← e3]; exact DGet.k e1
  exact ⟨dict_typeIs I2 g, d_getItem hu I2 g ry fun w' s3 I3 rw' => ⟨v, H2, I3, rw', q2⟩⟩
/-- d[k] = v -/
def sDpF (td ty tv : TE) : TS := fun D σ H => tv σ H fun v H1 => td σ H1 fun x H2 => ty σ H2 fun y H3 => ∃ a kvs k, x = .ref a ∧ H3 a = some (.dK kvs) ∧ keyOf y = some k ∧ kvs.length < sizeLine ∧ D.nx σ (upd H3 a (.dK (putK kvs k v)))
theorem ps_dpF {o i value : Expr} {pos' : Pos} {td ty tv : TE} (hu : X.A.units + 1 < cLine) (ho : PE X o td) (hi : PE X i ty) (hv : PE X value tv) (hs : swapsWith value (some (.Subscript o i pos')) pos.line X.env = pure false := by rfl) :
    PS X (.Assign [.Subscript o i pos'] value pos) (sDpF td ty tv) := by
  intro pins s σ H D I h
  refine wpAny_Assign_Subscript (thn (hv pins s σ H _ I h) fun r s1 ⟨v, H1, I1, rv, q1⟩ => thn (ho pins s1 σ H1 _ I1 q1) fun u s2 ⟨x, H2, I2, rx, q2⟩ => thn (hi pins s2 σ H2 _ I2 q2) fun iv s3 ⟨y, H3, I3, ry, a, kvs, k, ex, e1, e2, hl, q3⟩ => ?_) hs
  subst ex
  obtain rfl : u = Value.ref a := rx
  exact d_setItem hu I3 (by rw [keyOf_kV e2]; exact DPut.k e1 hl) ry rv fun s4 I4 => ⟨σ, _, I4, q3⟩
/-- xs[k] = v -/
def sLpF (to ti tv : TE) : TS := fun D σ H => tv σ H fun v H1 => to σ H1 fun x H2 => ti σ H2 fun y H3 => ∃ a xs i j, x = .ref a ∧ y = .int i ∧ H3 a = some (.lst xs) ∧ ixN xs.length i = some j ∧ D.nx σ (upd H3 a (.lst (xs.set j v)))
theorem ps_lpF {o i value : Expr} {pos' : Pos} {to ti tv : TE} (ho : PE X o to) (hi : PE X i ti) (hv : PE X value tv) (hs : swapsWith value (some (.Subscript o i pos')) pos.line X.env = pure false := by rfl) :
    PS X (.Assign [.Subscript o i pos'] value pos) (sLpF to ti tv) := by
  intro pins s σ H D I h
  refine wpAny_Assign_Subscript (thn (hv pins s σ H _ I h) fun r s1 ⟨v, H1, I1, rv, q1⟩ => thn (ho pins s1 σ H1 _ I1 q1) fun u s2 ⟨x, H2, I2, rx, q2⟩ => thn (hi pins s2 σ H2 _ I2 q2) fun iv s3 ⟨y, H3, I3, ry, a, xs, k, j, ex, ey, e1, e2, q3⟩ => ?_) hs
  subst ex ey
  exact thn (set_list pins s3 σ H3 _ _ v u iv r (fun H4 => D.nx σ H4) I3 rx ry rv ⟨a, xs, k, j, rfl, rfl, e1, e2, q3⟩) fun _ s4 ⟨H4, I4, q4⟩ => ⟨σ, H4, I4, q4⟩
end
/-- a list grows by a tuple, whatever hangs on the tuple -/
theorem ext_tup {l b : Addr} {xs ys : Array Value} {n : Nat} (door : ¬ (!xs.isEmpty && Builtin.List.listTooLong (xs.size + ys.size)) = true) (room : xs.size + ys.size ≤ sizeLine) :
    Meets (Builtin.«list.extend» ⟨[.ref l, .ref b], []⟩) fun _ R s => s.heap.get? l = some { cls := .type "list", data := .seq xs n } ∧ IsTup s.heap b ys ∧ R (.ok (.ret .none)) { s with heap := s.heap.update l (Obj.mapSeq (· ++ ys)) } := by
  refine .of_wp fun prog w A R s given => ?_
  rcases s with ⟨hp, gs, dr, tk, os⟩
  rcases given with ⟨at_l, ⟨⟨c, dd, dt, sl⟩, at_b, isC, m, isD⟩, fin⟩
  dsimp only at isC isD
  subst isC isD
  have grown : (xs ++ ys).size ≤ sizeLine + 1 := by rw [Array.size_append]; omega
  have isT := AutoSeq1.sub_tuple_tuple
  have isL := AutoSeq1.sub_tuple_list
  wp_walk using wpAny_updateSeq at_l rfl (hz := by omega) (_hz' := grown), AutoSeq1.wpAny_loadPart' at_b
  exact ⟨_, rfl, fin⟩
section
variable {X : Cx} {a b : Expr} {ta tb : TE} {pos : Pos}
/-- xs.extend(ys), ys a list or a tuple -/
def rExtF : V → List V → Hp → VK → Prop := fun x vs H Q => ∃ l y xs zs, x = .ref l ∧ vs = [y] ∧ H l = some (.lst xs) ∧ sq H y = some zs ∧ xs.length + zs.length ≤ sizeLine ∧ Q .non (upd H l (.lst (xs ++ zs)))
theorem mt_extF : MtM X "list.extend" rExtF := by
  intro pins s σ H x vs v us Q I rx rv h
  obtain ⟨l, y, xs, zs, rfl, rfl, hH, hB, hz, q⟩ := h
  cases rx
  obtain ⟨u, rfl, ru⟩ := rv.one
  obtain ⟨b, rfl, hS⟩ := sq_rd hB
  cases ru
  obtain ⟨z, its, n, r, hl, e⟩ := I.lstM hH
  have fin : ∀ (its2 : List Value), Vals zs its2 → its.toArray.size + its2.toArray.size ≤ sizeLine ∧ (¬ (!its.toArray.isEmpty && Builtin.List.listTooLong (its.toArray.size + its2.toArray.size)) = true) ∧ (xs ++ zs).length ≤ sizeLine := fun its2 r2 => by
    have hl2 := r2.length
    have hsz : its.toArray.size + its2.toArray.size ≤ sizeLine := by rw [List.size_toArray, List.size_toArray]; omega
    refine ⟨hsz, ?_, by rw [List.length_append]; exact hz⟩
    rw [notLongL hsz, Bool.and_false]
    exact Bool.false_ne_true
  rcases hS with hS | hS
  · obtain ⟨_, its2, n2, r2, e2⟩ := hS.ok I.hok
    obtain ⟨f1, f2, f3⟩ := fin its2 r2
    exact call_meets F.slot_list_extend ⟨_, e, rfl⟩ F.entry_list_extend (F.args_list_extend_2 _ _) (AutoSeq1.list_extend_list_list_0 l its.toArray n b its2.toArray n2 f2 (by omega) (by omega)) ⟨e, e2, .non, _, I.lset (its' := its ++ its2) hH e (by simp) (r.append r2) f3, rfl, q⟩
  · obtain ⟨_, its2, r2, p2⟩ := hS.ok I.hok
    obtain ⟨f1, f2, f3⟩ := fin its2 r2
    exact call_meets F.slot_list_extend ⟨_, e, rfl⟩ F.entry_list_extend (F.args_list_extend_2 _ _) (ext_tup f2 f1) ⟨e, p2, .non, _, I.lset (its' := its ++ its2) hH e (by simp) (r.append r2) f3, rfl, q⟩
theorem pe_extend {o e : Expr} {to te : TE} {apos cpos : Pos} (ho : PE X o to) (he : PE X e te) (hbase : attributeBase o "extend" X.env (eval o X.env) = eval o X.env := by rfl)
    (hfew : ((backTo cpos (starEach [e] X.env)).all (fun x => !x.1) && (backToKw cpos (keywordEach [] X.env)).all (fun x => x.1.isSome) && decide ([e].length + ([] : List Keyword).length + (if ([] : List Keyword).isEmpty then 0 else 1) < 30)) = true := by rfl)
    (hline : (apos.endLine == cpos.line) = true := by rfl) (hs : starEach [e] X.env = (false, eval e X.env) :: starEach [] X.env := by rfl) : PE X (.Call (.Attribute o "extend" apos) [e] [] cpos) (tBM X.K "list" rExtF to (tCons te tNil)) :=
  pe_bm PySem.F.plainAttrs_list PySem.F.slot_list_extend rfl mt_extF ho (pa_cons he pa_nil hs) hbase hfew hline hs rfl

/-! ### isinstance of a built-in type, or of one of several -/
def tyN (H : Hp) : V → Option String
  | .non => some "NoneType"
  | .bl _ => some "bool"
  | .int _ => some "int"
  | .str _ => some "str"
  | .ref a => match H a with
    | some (.lst _) => some "list"
    | some (.frz _ (.lst _)) => some "list"
    | some (.tup _) => some "tuple"
    | some (.dK _) => some "dict"
    | _ => none
  | _ => none
theorem tyN_of {K : PySem.W.Frag} {H : Hp} {x : V} {t : String} (h : tyN H x = some t) : TyOf K H x (.type t) := by
  cases x with
  | non => cases h; exact .non
  | bl b => cases h; exact .bl b
  | int i => cases h; exact .int i
  | str s => cases h; exact .str s
  | ref a =>
    simp only [tyN] at h
    split at h
    · rename_i e; cases h; exact .lst e
    · rename_i e; cases h; exact .frz e
    · rename_i e; cases h; exact .tup e
    · rename_i e; cases h; exact .dK e
    · cases h
  | _ => cases h
/-- is an object of the type t one of T (of the types that stand in our texts) -/
def subT (t T : String) : Bool := t == T || (t == "bool" && T == "int")
def plainT (T : String) : Bool := T == "int" || T == "bool" || T == "str" || T == "list" || T == "tuple" || T == "dict"
theorem kit_plain {K : PySem.W.Frag} {t T : String} (ht : plainT t = true) (hT : plainT T = true) : PySem.W.kitOne K (.type t) (.type T) = some (subT t T) := by
  simp only [plainT, Bool.or_eq_true, beq_iff_eq] at ht hT
  rcases ht with ((((rfl | rfl) | rfl) | rfl) | rfl) | rfl <;> rcases hT with ((((rfl | rfl) | rfl) | rfl) | rfl) | rfl <;> kernel_rfl
def rInst : List V → Hp → VK → Prop := fun xs H Q => ∃ x T t, xs = [x, .ty T] ∧ tyN H x = some t ∧ plainT t = true ∧ plainT T = true ∧ Q (.bl (subT t T)) H
theorem call_inst : CallR X (.builtin "isinstance") rInst := fun pins s σ H xs us Q I r h => by
  obtain ⟨x, T, t, rfl, h1, h2, h3, q⟩ := h
  obtain ⟨u, c, rfl, ru, rc⟩ := vals2 r
  obtain rfl : c = Value.type T := rc
  exact isinst_ok I ru (tyN_of h1) (kit_plain h2 h3) fun tk => ⟨.bl _, H, I.tok tk, rfl, q⟩
/-! ### [e0, e1, ..][i]: the list is dropped at once -/
def tMenu (t : TA) (tb : TE) : TE := fun σ H Q => t σ H fun xs H1 => xs.length ≤ sizeLine ∧ tb σ H1 fun y H2 => ∃ i v, y = .int i ∧ 0 ≤ i ∧ xs[i.toNat]? = some v ∧ Q v H2
theorem pe_menu {es : List Expr} {t : TA} {lp : Pos} (hA : PA X es t) (hi : PE X b tb) (hs : PlainIx b := by intro _ _; rfl) : PE X (.Subscript (.List es lp) b pos) (tMenu t tb) := by
  intro pins s σ H Q I h
  refine Subscript_ (wpAny_List_spliced (thn (hA lp pins s σ H _ I h) fun us s1 ⟨xs, H1, I1, r, z, q⟩ => ⟨by rw [← r.length]; exact z, ?_⟩))
  have hf : H1 s1.heap.objs.size = none := I1.hok.fresh (Nat.le_refl _)
  have I2 : Inv X pins σ H1 { s1 with heap := s1.heap.push { cls := .type "list", data := .seq us.toArray } } := I1.kept (t' := s1.toks) fun b u e => Heap.get?_push_of_some _ e
  have fp := I1.fpOk (Nat.le_refl _) hf
  have I3 : Inv X (pins ++ [(s1.heap.objs.size, { cls := .type "list", data := .seq us.toArray })]) σ H1 { s1 with heap := s1.heap.push { cls := .type "list", data := .seq us.toArray } } :=
    I2.pins_of fun p hp => (List.mem_append.mp hp).elim (fun z => I2.pin p (List.mem_append_right _ z)) fun z => by
      rw [List.mem_singleton.mp z]
      exact ⟨Heap.get?_push_size _ rfl, hf, fp.2.1, fp.2.2.1, fun v e => nomatch e⟩
  refine thn (hi _ _ σ H1 _ I3 q) fun u s3 ⟨y, H3, I4, ry, i, v, ey, h0, hx, q3⟩ => ?_
  subst ey
  obtain ⟨tk, rfl⟩ := ry
  have e := (I4.pin (s1.heap.objs.size, { cls := .type "list", data := .seq us.toArray }) (List.mem_append_right _ (List.mem_append_right _ (List.mem_singleton.mpr rfl)))).1
  obtain ⟨w', ew, rw'⟩ := r.get hx
  have hlt := (List.getElem?_eq_some_iff.mp ew).1
  have hn := line63
  have hl := r.length
  exact item_listR (items := us.toArray) ⟨_, e, rfl, _, rfl⟩ h0 (by omega) (by simpa using ew) ⟨v, H3, I4.unpinned, rw', q3⟩ (hs _ _)
end
/-! ### Python's own names -/
theorem bt_len : bootBuiltins "len" = some (.builtin "len") := by decide +kernel
theorem bt_isinstance : bootBuiltins "isinstance" = some (.builtin "isinstance") := by decide +kernel
theorem bt_max : bootBuiltins "max" = some (.builtin "max") := by decide +kernel
theorem bt_int : bootBuiltins "int" = some (.type "int") := by decide +kernel
theorem bt_bool : bootBuiltins "bool" = some (.type "bool") := by decide +kernel
theorem bt_list : bootBuiltins "list" = some (.type "list") := by decide +kernel
theorem bt_tuple : bootBuiltins "tuple" = some (.type "tuple") := by decide +kernel
/-- none of them is bound at the text's top -/
structure Bl (mg : Str → Option Value) : Prop where
  len : mg "len" = none
  isinstance : mg "isinstance" = none
  max : mg "max" = none
  int : mg "int" = none
  bool : mg "bool" = none
  str : mg "str" = none
  list : mg "list" = none
  tuple : mg "tuple" = none
  range : mg "range" = none
  ValueError : mg "ValueError" = none
theorem bl_mk {K : PySem.W.Frag} {h : Heap} {mg : Str → Option Value} (X : K.In h) (G : h.Ns mainGlobals mg) (b1 : PySem.W.nsIn K mainGlobals "len" = some none) (b2 : PySem.W.nsIn K mainGlobals "isinstance" = some none) (b3 : PySem.W.nsIn K mainGlobals "max" = some none)
    (b4 : PySem.W.nsIn K mainGlobals "int" = some none) (b5 : PySem.W.nsIn K mainGlobals "bool" = some none) (b6 : PySem.W.nsIn K mainGlobals "str" = some none) (b7 : PySem.W.nsIn K mainGlobals "list" = some none) (b8 : PySem.W.nsIn K mainGlobals "tuple" = some none)
    (b9 : PySem.W.nsIn K mainGlobals "range" = some none) (b10 : PySem.W.nsIn K mainGlobals "ValueError" = some none) : Bl mg :=
  ⟨PySem.W.mg_none_of X G b1, PySem.W.mg_none_of X G b2, PySem.W.mg_none_of X G b3, PySem.W.mg_none_of X G b4, PySem.W.mg_none_of X G b5, PySem.W.mg_none_of X G b6, PySem.W.mg_none_of X G b7, PySem.W.mg_none_of X G b8, PySem.W.mg_none_of X G b9, PySem.W.mg_none_of X G b10⟩

section
variable {X : Cx}
theorem pe_ty {x : Str} {T : String} {pos : Pos} (hg : Gl X x) (hm : X.mg x = none) (hv : bootBuiltins x = some (.type T)) (hn : x ≠ "__name__" := by decide) (hd : (x == ("__debug__" : Str)) = false := by decide) : PE X (.Name x pos) (tC (.ty T)) :=
  pe_bltn hg hm hv rfl hn hd
end

/-! ### a def's names, told once -/
structure DefX (X : Cx) (N G : List Str) : Prop where
  hN : X.N = N
  nd : N.Nodup
  loc : ∀ x ∈ N, Loc X.env.scope x
  glb : ∀ x ∈ G, Gl X x
  dbg : ∀ x ∈ N ++ G, (x == ("__debug__" : Str)) = false
  cdc : ∀ x ∈ N, (x == ("__classdict__" : Str)) = false
  nnm : ∀ x ∈ G, x ≠ "__name__"
  fn : ∀ x, X.fn x = true
section
variable {X : Cx} {N G : List Str}
theorem DefX.gl (D : DefX X N G) (j : Nat) {x : Str} (hj : G[j]? = some x := by rfl) : Gl X x := D.glb x (List.mem_of_getElem? hj)
theorem DefX.dg (D : DefX X N G) (j : Nat) {x : Str} (hj : G[j]? = some x := by rfl) : (x == ("__debug__" : Str)) = false := D.dbg x (List.mem_append_right _ (List.mem_of_getElem? hj))
theorem DefX.nn (D : DefX X N G) (j : Nat) {x : Str} (hj : G[j]? = some x := by rfl) : x ≠ "__name__" := D.nnm x (List.mem_of_getElem? hj)
theorem pvD (D : DefX X N G) (i : Nat) {x : Str} {pos : Pos} (hi : N[i]? = some x := by rfl) : PE X (.Name x pos) (tVar i) :=
  pe_var (by rw [D.hN]; exact hi) ((D.loc x (List.mem_of_getElem? hi)).elim .inl fun z => .inr (.inl z)) (D.dbg x (List.mem_append_left _ (List.mem_of_getElem? hi))) (D.cdc x (List.mem_of_getElem? hi))
theorem ps_setD (D : DefX X N G) (i : Nat) {x : Str} {e : Expr} {te : TE} {pos pos' : Pos} (he : PE X e te) (hi : N[i]? = some x := by rfl) (hs : swapsWith e (some (.Name x pos')) pos.line X.env = pure false := by rfl) :
    PS X (.Assign [.Name x pos'] e pos) (tAsg te (gName i)) := ps_set (by rw [D.hN]; exact D.nd) (by rw [D.hN]; exact hi) (D.loc x (List.mem_of_getElem? hi)) he hs (.inl (D.fn x))
theorem pg_nameD (D : DefX X N G) (i : Nat) {x : Str} {pos : Pos} (hi : N[i]? = some x := by rfl) : PG X (.Name x pos) (gName i) := pg_name (by rw [D.hN]; exact D.nd) (by rw [D.hN]; exact hi) (D.loc x (List.mem_of_getElem? hi)) (.inl (D.fn x))
variable {CX : CXT} {x : Str} {k : Nat} {ps : List Str} {sp : Sp} {E : XK} {p pos : Pos} {e : Expr} {es : List Expr} {t : TA} {r : List V → Hp → VK → Prop} {id T : String}
theorem pe_fnD (D : DefX X N G) (j : Nat) (F : Fn X.prog X.w X.K X.mg X.base CX x k ps sp) (hr : Room k X.A) (hx : Passes CX X E) (ha : PA X (e :: es) t) (hj : G[j]? = some x := by rfl)
    (he : starEach (e :: es) X.env = (false, eval e X.env) :: starEach es X.env := by rfl) (hpl : (backTo pos (starEach es X.env)).any (·.1) = false := by rfl) : PE X (.Call (.Name x p) (e :: es) [] pos) (tCall sp [] E t) :=
  pe_fn F hr (D.gl j hj) hx ha (D.dg j hj) he hpl
theorem pea_fnD (D : DefX X N G) (j : Nat) (F : Fn X.prog X.w X.K X.mg X.base (CXK X.prog X.w) x k ps sp) (hr : Room k X.A) (ha : PA X.nox (e :: es) t) (hj : G[j]? = some x := by rfl)
    (he : starEach (e :: es) X.env = (false, eval e X.env) :: starEach es X.env := by rfl) (hpl : (backTo pos (starEach es X.env)).any (·.1) = false := by rfl) : PEa X (.Call (.Name x p) (e :: es) [] pos) (fun E => tCall sp [] E t) :=
  pea_fn F hr (D.gl j hj) ha (D.dg j hj) he hpl
theorem pe_callBD (D : DefX X N G) (j : Nat) (hc : CallR X (.builtin id) r) (hm : X.mg x = none) (hv : bootBuiltins x = some (.builtin id)) (ha : PA X (e :: es) t) (hj : G[j]? = some x := by rfl)
    (he : starEach (e :: es) X.env = (false, eval e X.env) :: starEach es X.env := by rfl) (hpl : (backTo pos (starEach es X.env)).any (·.1) = false := by rfl) : PE X (.Call (.Name x p) (e :: es) [] pos) (tCB r t) :=
  pe_callB hc (D.gl j hj) hm hv ha (D.nn j hj) (D.dg j hj) he hpl
theorem pe_callTyD (D : DefX X N G) (j : Nat) (hc : CallR X (.type T) r) (hm : X.mg x = none) (hv : bootBuiltins x = some (.type T)) (ha : PA X (e :: es) t) (hj : G[j]? = some x := by rfl)
    (he : starEach (e :: es) X.env = (false, eval e X.env) :: starEach es X.env := by rfl) (hpl : (backTo pos (starEach es X.env)).any (·.1) = false := by rfl) : PE X (.Call (.Name x p) (e :: es) [] pos) (tCB r t) :=
  pe_callTy hc (D.gl j hj) hm hv ha (D.nn j hj) (D.dg j hj) he hpl
theorem pe_tyD (D : DefX X N G) (j : Nat) (hm : X.mg x = none) (hv : bootBuiltins x = some (.type T)) (hj : G[j]? = some x := by rfl) : PE X (.Name x pos) (tC (.ty T)) := pe_ty (D.gl j hj) hm hv (D.nn j hj) (D.dg j hj)
theorem ps_raiseD (D : DefX X N G) (j : Nat) {C : Addr} {np cpos : Pos} (hE : Raises X E) (hc : X.calm = true) (hm : X.mg x = some (.ref C)) (hx : excVE X.K C) (ha : PA X (e :: es) t) (hj : G[j]? = some x := by rfl)
    (he : starEach (e :: es) X.env = (false, eval e X.env) :: starEach es X.env := by rfl) (hpl : (backTo cpos (starEach es X.env)).any (·.1) = false := by rfl) : PS X (.Raise (some (.Call (.Name x np) (e :: es) [] cpos)) none pos) (tRaise E C t) :=
  ps_raise hE hc (D.gl j hj) hm hx ha (D.dg j hj) he hpl
/-- a list of written ints -/
def intC : Expr → Option Int
  | .Constant (.int j) _ _ => some j
  | _ => none
def intCs : List Expr → Option (List Int)
  | [] => some []
  | e :: r => (intC e).bind fun i => (intCs r).map (i :: ·)
theorem intC_some {e : Expr} {i : Int} (h : intC e = some i) : ∃ c q, e = .Constant (.int i) c q := by
  unfold intC at h
  split at h
  · cases h; exact ⟨_, _, rfl⟩
  · cases h
theorem pa_ints : ∀ {es : List Expr} {is : List Int}, intCs es = some is → PA X es (fun _ H Q => Q (is.map V.int) H) := by
  intro es
  induction es with
  | nil => intro is h; cases h; exact pa_nil
  | cons e r ih =>
    intro is h
    simp only [intCs] at h
    cases e1 : intC e with
    | none => rw [e1] at h; cases h
    | some i =>
      rw [e1] at h
      cases e2 : intCs r with
      | none => rw [e2] at h; cases h
      | some js =>
        rw [e2] at h
        cases h
        obtain ⟨c, q, rfl⟩ := intC_some e1
        exact pa_cons pe_int (ih e2) rfl
end
end L2

/-! Readings step by step: each rule's reading as an equation whose right side names what comes next (no binder is opened before its value is known). -/
namespace L2
open PySem PySem.Spec PyProof.Rows
section
variable {σ : St} {H : Hp} {D : Ends} {Q : VK} {ta tb tc : TE} {t u : TS} {tt tu : TT} {r : R2}
def kBr (t u : TS) (D : Ends) (σ : St) (b : Bool) (H1 : Hp) : Prop := if b = true then t D σ H1 else u D σ H1
def kAsg (g : TG) (σ : St) (D : Ends) (x : V) (H1 : Hp) : Prop := g x σ H1 D.nx
def kNx (σ : St) (D : Ends) (_ : V) (H1 : Hp) : Prop := D.nx σ H1
def kOp1 (r : R2) (tb : TE) (σ : St) (Q : VK) (x : V) (H1 : Hp) : Prop := tb σ H1 fun y H2 => r x y H2 Q
def kOp2 (r : R2) (x : V) (Q : VK) (y : V) (H2 : Hp) : Prop := r x y H2 Q
def kB (Q : Bool → Hp → Prop) (x : V) (H1 : Hp) : Prop := ∃ c, x = .bl c ∧ Q c H1
def kCons1 (tr : TA) (σ : St) (Q : List V → Hp → Prop) (x : V) (H1 : Hp) : Prop := tr σ H1 fun xs H2 => Q (x :: xs) H2
def kCons2 (x : V) (Q : List V → Hp → Prop) (xs : List V) (H2 : Hp) : Prop := Q (x :: xs) H2
def kAnd (u : TT) (σ : St) (Q : Bool → Hp → Prop) (c : Bool) (H1 : Hp) : Prop := if c = true then u σ H1 Q else Q false H1
def kOr (u : TT) (σ : St) (Q : Bool → Hp → Prop) (c : Bool) (H1 : Hp) : Prop := if c = true then Q true H1 else u σ H1 Q
def kNot (Q : Bool → Hp → Prop) (c : Bool) (H1 : Hp) : Prop := Q (!c) H1
def kAndV (tb : TE) (σ : St) (Q : VK) (x : V) (H1 : Hp) : Prop := ∃ c, x = .bl c ∧ if c = true then tb σ H1 Q else Q (.bl false) H1
def kOrV (tb : TE) (σ : St) (Q : VK) (x : V) (H1 : Hp) : Prop := ∃ c, x = .bl c ∧ if c = true then Q (.bl true) H1 else tb σ H1 Q
def kNotV (Q : VK) (x : V) (H1 : Hp) : Prop := ∃ c, x = .bl c ∧ Q (.bl (!c)) H1
def kLst (Q : VK) (xs : List V) (H1 : Hp) : Prop := xs.length ≤ sizeLine ∧ ∀ p, H1 p = none → Q (.ref p) (upd H1 p (.lst xs))
def kTup (Q : VK) (xs : List V) (H1 : Hp) : Prop := xs.length ≤ sizeLine ∧ ∀ p, H1 p = none → Q (.ref p) (upd H1 p (.tup xs))
def kCall (sp : Sp) (E : XK) (Q : VK) (vs : List V) (H1 : Hp) : Prop := sp vs H1 Q E
def kCB (r : List V → Hp → VK → Prop) (Q : VK) (vs : List V) (H1 : Hp) : Prop := r vs H1 Q
def kUn (r : V → Hp → VK → Prop) (Q : VK) (x : V) (H1 : Hp) : Prop := r x H1 Q
def kDg1 (ty : TE) (σ : St) (Q : VK) (x : V) (H1 : Hp) : Prop := ty σ H1 fun y H2 => ∃ a kvs k v, x = .ref a ∧ H2 a = some (.dK kvs) ∧ keyOf y = some k ∧ valV kvs k = some v ∧ Q v H2
def kDg2 (x : V) (Q : VK) (y : V) (H2 : Hp) : Prop := ∃ a kvs k v, x = .ref a ∧ H2 a = some (.dK kvs) ∧ keyOf y = some k ∧ valV kvs k = some v ∧ Q v H2
def kDp1 (td ty : TE) (D : Ends) (σ : St) (v : V) (H1 : Hp) : Prop := td σ H1 fun x H2 => ty σ H2 fun y H3 => ∃ a kvs k, x = .ref a ∧ H3 a = some (.dK kvs) ∧ keyOf y = some k ∧ kvs.length < sizeLine ∧ D.nx σ (upd H3 a (.dK (putK kvs k v)))
def kDp2 (ty : TE) (D : Ends) (σ : St) (v x : V) (H2 : Hp) : Prop := ty σ H2 fun y H3 => ∃ a kvs k, x = .ref a ∧ H3 a = some (.dK kvs) ∧ keyOf y = some k ∧ kvs.length < sizeLine ∧ D.nx σ (upd H3 a (.dK (putK kvs k v)))
def kDp3 (D : Ends) (σ : St) (v x y : V) (H3 : Hp) : Prop := ∃ a kvs k, x = .ref a ∧ H3 a = some (.dK kvs) ∧ keyOf y = some k ∧ kvs.length < sizeLine ∧ D.nx σ (upd H3 a (.dK (putK kvs k v)))
def kLp1 (to ti : TE) (D : Ends) (σ : St) (v : V) (H1 : Hp) : Prop := to σ H1 fun x H2 => ti σ H2 fun y H3 => ∃ a xs i j, x = .ref a ∧ y = .int i ∧ H3 a = some (.lst xs) ∧ ixN xs.length i = some j ∧ D.nx σ (upd H3 a (.lst (xs.set j v)))
def kLp2 (ti : TE) (D : Ends) (σ : St) (v x : V) (H2 : Hp) : Prop := ti σ H2 fun y H3 => ∃ a xs i j, x = .ref a ∧ y = .int i ∧ H3 a = some (.lst xs) ∧ ixN xs.length i = some j ∧ D.nx σ (upd H3 a (.lst (xs.set j v)))
def kLp3 (D : Ends) (σ : St) (v x y : V) (H3 : Hp) : Prop := ∃ a xs i j, x = .ref a ∧ y = .int i ∧ H3 a = some (.lst xs) ∧ ixN xs.length i = some j ∧ D.nx σ (upd H3 a (.lst (xs.set j v)))
def kBM (K : PySem.W.Frag) (T : String) (r : V → List V → Hp → VK → Prop) (t : TA) (σ : St) (Q : VK) (x : V) (H1 : Hp) : Prop := tyV K T x H1 ∧ t σ H1 fun xs H2 => r x xs H2 Q
def kBM2 (r : V → List V → Hp → VK → Prop) (x : V) (Q : VK) (xs : List V) (H2 : Hp) : Prop := r x xs H2 Q
def kMenu1 (tb : TE) (σ : St) (Q : VK) (xs : List V) (H1 : Hp) : Prop := xs.length ≤ sizeLine ∧ tb σ H1 fun y H2 => ∃ i v, y = .int i ∧ 0 ≤ i ∧ xs[i.toNat]? = some v ∧ Q v H2
def kMenu2 (xs : List V) (Q : VK) (y : V) (H2 : Hp) : Prop := ∃ i v, y = .int i ∧ 0 ≤ i ∧ xs[i.toNat]? = some v ∧ Q v H2
theorem ev_seq : tSeq t u D σ H = t { D with nx := u D } σ H := rfl
theorem ev_nx : tNext D σ H = D.nx σ H := rfl
theorem ev_bk : tBreak D σ H = D.bk σ H := rfl
theorem ev_ct : tCont D σ H = D.ct σ H := rfl
theorem ev_ret : tRet ta D σ H = ta σ H D.rt := rfl
theorem ev_retN : tRetN D σ H = D.rt .non H := rfl
theorem ev_if : tIfS tt t u D σ H = tt σ H (kBr t u D σ) := rfl
theorem ev_brT {H1 : Hp} : kBr t u D σ true H1 = t D σ H1 := by simp [kBr]
theorem ev_brF {H1 : Hp} : kBr t u D σ false H1 = u D σ H1 := by simp [kBr]
theorem ev_brD {p : Prop} [Decidable p] {H1 : Hp} : kBr t u D σ (decide p) H1 = if p then t D σ H1 else u D σ H1 := by by_cases h : p <;> simp [kBr, h]
theorem ev_brN {p : Prop} [Decidable p] {H1 : Hp} : kBr t u D σ (!decide p) H1 = if p then u D σ H1 else t D σ H1 := by by_cases h : p <;> simp [kBr, h]
theorem ev_asg {g : TG} : tAsg ta g D σ H = ta σ H (kAsg g σ D) := rfl
theorem ev_asgN {i : Nat} {x : V} {H1 : Hp} : kAsg (gName i) σ D x H1 = D.nx (σ.set i (some x)) H1 := rfl
theorem ev_drop : tDrop ta D σ H = ta σ H (kNx σ D) := rfl
theorem ev_kNx {x : V} {H1 : Hp} : kNx σ D x H1 = D.nx σ H1 := rfl
theorem ev_c {v : V} : tC v σ H Q = Q v H := rfl
theorem ev_v0 {v : V} {σ : St} : tVar 0 (some v :: σ) H Q = Q v H := by simp [tVar]
theorem ev_v1 {v : Option V} {σ : St} {n : Nat} : tVar (n + 1) (v :: σ) H Q = tVar n σ H Q := by simp [tVar]
theorem ev_op : tOp r ta tb σ H Q = ta σ H (kOp1 r tb σ Q) := rfl
theorem ev_op1 {x : V} {H1 : Hp} : kOp1 r tb σ Q x H1 = tb σ H1 (kOp2 r x Q) := rfl
theorem ev_op2 {x y : V} {H2 : Hp} : kOp2 r x Q y H2 = r x y H2 Q := rfl
theorem ev_un {ru : V → Hp → VK → Prop} : tUn ru ta σ H Q = ta σ H (kUn ru Q) := rfl
theorem ev_kUn {ru : V → Hp → VK → Prop} {x : V} {H1 : Hp} : kUn ru Q x H1 = ru x H1 Q := rfl
theorem ev_rU {g : Int → V} {i : Int} : rU g (.int i) H Q = Q (g i) H := by simp [rU]
theorem ev_rI0 {g : Int → Int → V} {i j : Int} : rI0 g (.int i) (.int j) H Q = Q (g i j) H := by simp [rI0]
theorem ev_rI {C : Int → Int → Prop} {g : Int → Int → V} {i j : Int} : rI C g (.int i) (.int j) H Q = (C i j ∧ Q (g i j) H) := by simp [rI]
theorem ev_eqI {i j : Int} : rEq (.int i) (.int j) H Q = Q (.bl (decide (i = j))) H := by simp [rEq, scal]
theorem ev_eqS {i j : Str} : rEq (.str i) (.str j) H Q = Q (.bl (decide (i = j))) H := by simp [rEq, scal]
theorem ev_eqB {i j : Bool} : rEq (.bl i) (.bl j) H Q = Q (.bl (decide (i = j))) H := by simp [rEq, scal]
theorem ev_neI {i j : Int} : rNe (.int i) (.int j) H Q = Q (.bl (!decide (i = j))) H := by simp [rNe, scal]
theorem ev_neS {i j : Str} : rNe (.str i) (.str j) H Q = Q (.bl (!decide (i = j))) H := by simp [rNe, scal]
theorem ev_neB {i j : Bool} : rNe (.bl i) (.bl j) H Q = Q (.bl (!decide (i = j))) H := by simp [rNe, scal]
theorem ev_test {Q : Bool → Hp → Prop} : tTest ta σ H Q = ta σ H (kB Q) := rfl
theorem ev_tB {Q : Bool → Hp → Prop} : tB ta σ H Q = ta σ H (kB Q) := rfl
theorem ev_kB {Q : Bool → Hp → Prop} {b : Bool} {H1 : Hp} : kB Q (.bl b) H1 = Q b H1 := by simp [kB]
theorem ev_and {Q : Bool → Hp → Prop} : tAnd tt tu σ H Q = tt σ H (kAnd tu σ Q) := rfl
theorem ev_andT {Q : Bool → Hp → Prop} {H1 : Hp} : kAnd tu σ Q true H1 = tu σ H1 Q := by simp [kAnd]
theorem ev_andF {Q : Bool → Hp → Prop} {H1 : Hp} : kAnd tu σ Q false H1 = Q false H1 := by simp [kAnd]
theorem ev_andD {Q : Bool → Hp → Prop} {p : Prop} [Decidable p] {H1 : Hp} : kAnd tu σ Q (decide p) H1 = if p then tu σ H1 Q else Q false H1 := by by_cases h : p <;> simp [kAnd, h]
theorem ev_andN {Q : Bool → Hp → Prop} {p : Prop} [Decidable p] {H1 : Hp} : kAnd tu σ Q (!decide p) H1 = if p then Q false H1 else tu σ H1 Q := by by_cases h : p <;> simp [kAnd, h]
theorem ev_or {Q : Bool → Hp → Prop} : tOr tt tu σ H Q = tt σ H (kOr tu σ Q) := rfl
theorem ev_orT {Q : Bool → Hp → Prop} {H1 : Hp} : kOr tu σ Q true H1 = Q true H1 := by simp [kOr]
theorem ev_orF {Q : Bool → Hp → Prop} {H1 : Hp} : kOr tu σ Q false H1 = tu σ H1 Q := by simp [kOr]
theorem ev_orD {Q : Bool → Hp → Prop} {p : Prop} [Decidable p] {H1 : Hp} : kOr tu σ Q (decide p) H1 = if p then Q true H1 else tu σ H1 Q := by by_cases h : p <;> simp [kOr, h]
theorem ev_orN {Q : Bool → Hp → Prop} {p : Prop} [Decidable p] {H1 : Hp} : kOr tu σ Q (!decide p) H1 = if p then tu σ H1 Q else Q true H1 := by by_cases h : p <;> simp [kOr, h]
theorem ev_not {Q : Bool → Hp → Prop} : tNot tt σ H Q = tt σ H (kNot Q) := rfl
theorem ev_kNot {Q : Bool → Hp → Prop} {b : Bool} {H1 : Hp} : kNot Q b H1 = Q (!b) H1 := rfl
theorem ev_andV : tAndV ta tb σ H Q = ta σ H (kAndV tb σ Q) := rfl
theorem ev_andVD {p : Prop} [Decidable p] {H1 : Hp} : kAndV tb σ Q (.bl (decide p)) H1 = if p then tb σ H1 Q else Q (.bl false) H1 := by by_cases h : p <;> simp [kAndV, h]
theorem ev_andVb {b : Bool} {H1 : Hp} : kAndV tb σ Q (.bl b) H1 = if b = true then tb σ H1 Q else Q (.bl false) H1 := by simp [kAndV]
theorem ev_orV : tOrV ta tb σ H Q = ta σ H (kOrV tb σ Q) := rfl
theorem ev_orVb {b : Bool} {H1 : Hp} : kOrV tb σ Q (.bl b) H1 = if b = true then Q (.bl true) H1 else tb σ H1 Q := by simp [kOrV]
theorem ev_notV : tNotV ta σ H Q = ta σ H (kNotV Q) := rfl
theorem ev_kNotV {b : Bool} {H1 : Hp} : kNotV Q (.bl b) H1 = Q (.bl (!b)) H1 := by simp [kNotV]
theorem ev_nil {Q : List V → Hp → Prop} : tNil σ H Q = Q [] H := rfl
theorem ev_cons {tr : TA} {Q : List V → Hp → Prop} : tCons ta tr σ H Q = ta σ H (kCons1 tr σ Q) := rfl
theorem ev_cons1 {tr : TA} {Q : List V → Hp → Prop} {x : V} {H1 : Hp} : kCons1 tr σ Q x H1 = tr σ H1 (kCons2 x Q) := rfl
theorem ev_cons2 {Q : List V → Hp → Prop} {x : V} {xs : List V} {H2 : Hp} : kCons2 x Q xs H2 = Q (x :: xs) H2 := rfl
theorem ev_lst {tr : TA} : tLst tr σ H Q = tr σ H (kLst Q) := rfl
theorem ev_kLst {xs : List V} {H1 : Hp} : kLst Q xs H1 = (xs.length ≤ sizeLine ∧ ∀ p, H1 p = none → Q (.ref p) (upd H1 p (.lst xs))) := rfl
theorem ev_tup {tr : TA} : tTup tr σ H Q = tr σ H (kTup Q) := rfl
theorem ev_kTup {xs : List V} {H1 : Hp} : kTup Q xs H1 = (xs.length ≤ sizeLine ∧ ∀ p, H1 p = none → Q (.ref p) (upd H1 p (.tup xs))) := rfl
theorem ev_call {sp : Sp} {E : XK} {tr : TA} : tCall sp [] E tr σ H Q = tr σ H (kCall sp E Q) := by
  unfold tCall kCall
  congr 1
  funext vs H1
  rw [List.append_nil]
theorem ev_kCall {sp : Sp} {E : XK} {vs : List V} {H1 : Hp} : kCall sp E Q vs H1 = sp vs H1 Q E := rfl
theorem ev_cb {rr : List V → Hp → VK → Prop} {tr : TA} : tCB rr tr σ H Q = tr σ H (kCB rr Q) := rfl
theorem ev_kCB {rr : List V → Hp → VK → Prop} {vs : List V} {H1 : Hp} : kCB rr Q vs H1 = rr vs H1 Q := rfl
theorem ev_ix {x : V} {i : Int} : rIxF x (.int i) H Q = ∃ xs v, sq H x = some xs ∧ atI xs i = some v ∧ Q v H := by simp [rIxF]
theorem ev_len {x : V} : rLenF [x] H Q = ∃ ys, sq H x = some ys ∧ Q (.int ys.length) H := by simp [rLenF]
theorem ev_list {x : V} : rListF [x] H Q = ∃ ys, sq H x = some ys ∧ ∀ l, H l = none → Q (.ref l) (upd H l (.lst ys)) := by simp [rListF]
theorem ev_inst {x : V} {T : String} : rInst [x, .ty T] H Q = ∃ t, tyN H x = some t ∧ plainT t = true ∧ plainT T = true ∧ Q (.bl (subT t T)) H := by simp [rInst, and_assoc]
theorem ev_dg : tDgF ta tb σ H Q = ta σ H (kDg1 tb σ Q) := rfl
theorem ev_dg1 {x : V} {H1 : Hp} : kDg1 tb σ Q x H1 = tb σ H1 (kDg2 x Q) := rfl
theorem ev_dg2 {a : Addr} {y : V} {H2 : Hp} : kDg2 (.ref a) Q y H2 = ∃ kvs k v, H2 a = some (.dK kvs) ∧ keyOf y = some k ∧ valV kvs k = some v ∧ Q v H2 := by simp [kDg2]
theorem ev_dp : sDpF ta tb tc D σ H = tc σ H (kDp1 ta tb D σ) := rfl
theorem ev_dp1 {v : V} {H1 : Hp} : kDp1 ta tb D σ v H1 = ta σ H1 (kDp2 tb D σ v) := rfl
theorem ev_dp2 {v x : V} {H1 : Hp} : kDp2 tb D σ v x H1 = tb σ H1 (kDp3 D σ v x) := rfl
theorem ev_dp3 {v y : V} {a : Addr} {H3 : Hp} : kDp3 D σ v (.ref a) y H3 = ∃ kvs k, H3 a = some (.dK kvs) ∧ keyOf y = some k ∧ kvs.length < sizeLine ∧ D.nx σ (upd H3 a (.dK (putK kvs k v))) := by simp [kDp3]
theorem ev_lp : sLpF ta tb tc D σ H = tc σ H (kLp1 ta tb D σ) := rfl
theorem ev_lp1 {v : V} {H1 : Hp} : kLp1 ta tb D σ v H1 = ta σ H1 (kLp2 tb D σ v) := rfl
theorem ev_lp2 {v x : V} {H1 : Hp} : kLp2 tb D σ v x H1 = tb σ H1 (kLp3 D σ v x) := rfl
theorem ev_lp3 {v : V} {a : Addr} {i : Int} {H3 : Hp} : kLp3 D σ v (.ref a) (.int i) H3 = ∃ xs j, H3 a = some (.lst xs) ∧ ixN xs.length i = some j ∧ D.nx σ (upd H3 a (.lst (xs.set j v))) := by simp [kLp3]
theorem ev_bm {K : PySem.W.Frag} {T : String} {rr : V → List V → Hp → VK → Prop} {tr : TA} : tBM K T rr ta tr σ H Q = ta σ H (kBM K T rr tr σ Q) := rfl
theorem ev_kBM {K : PySem.W.Frag} {T : String} {rr : V → List V → Hp → VK → Prop} {tr : TA} {x : V} {H1 : Hp} : kBM K T rr tr σ Q x H1 = (tyV K T x H1 ∧ tr σ H1 (kBM2 rr x Q)) := rfl
theorem ev_kBM2 {rr : V → List V → Hp → VK → Prop} {x : V} {xs : List V} {H1 : Hp} : kBM2 rr x Q xs H1 = rr x xs H1 Q := rfl
theorem ev_app {a : Addr} {y : V} : rAppend (.ref a) [y] H Q = ∃ xs, H a = some (.lst xs) ∧ xs.length < sizeLine ∧ Q .non (upd H a (.lst (xs ++ [y]))) := by simp [rAppend]
theorem ev_ext {a : Addr} {y : V} : rExtF (.ref a) [y] H Q = ∃ xs zs, H a = some (.lst xs) ∧ sq H y = some zs ∧ xs.length + zs.length ≤ sizeLine ∧ Q .non (upd H a (.lst (xs ++ zs))) := by simp [rExtF]
theorem ev_bm0 {K : PySem.W.Frag} {T : String} {rr : V → List V → Hp → VK → Prop} : tBM0 K T rr ta σ H Q = ta σ H (fun x H1 => tyV K T x H1 ∧ rr x [] H1 Q) := rfl
theorem ev_pop {a : Addr} : rPop (.ref a) [] H Q = ∃ xs y, H a = some (.lst xs) ∧ xs[xs.length - 1]? = some y ∧ Q y (upd H a (.lst xs.dropLast)) := by simp [rPop]
theorem ev_menu {tr : TA} : tMenu tr tb σ H Q = tr σ H (kMenu1 tb σ Q) := rfl
theorem ev_menu1 {xs : List V} {H1 : Hp} : kMenu1 tb σ Q xs H1 = (xs.length ≤ sizeLine ∧ tb σ H1 (kMenu2 xs Q)) := rfl
theorem ev_menu2 {xs : List V} {i : Int} {H1 : Hp} : kMenu2 xs Q (.int i) H1 = (0 ≤ i ∧ ∃ v, xs[i.toNat]? = some v ∧ Q v H1) := by simp [kMenu2]
theorem ev_max {i j : Int} : (∃ a b : Int, [V.int i, V.int j] = [.int a, .int b] ∧ Q (.int (if b > a then b else a)) H) = Q (.int (if j > i then j else i)) H := by simp [and_assoc]
/-! loops -/
def forJ (J : It) (g : TG) (tb : TS) (D : Ends) (σ : St) (H1 : Hp) : Prop := ∃ W : Nat → Nat → St → Hp → Prop, (∃ m, W 0 m σ H1) ∧ ∀ i m σ H, W i m σ H →
  (J.stop i H ∧ D.nx σ H) ∨ (J.go i H ∧ ∃ N : St → Hp → Prop, (∀ σ' H', N σ' H' → ∃ m', m' < m ∧ W (i + 1) m' σ' H') ∧ ∀ x H', J.yld i H x H' → g x σ H' fun σ2 H2 => tb { D with nx := N, ct := N, bk := D.nx } σ2 H2)
def kRng1 (g : TG) (tb : TS) (D : Ends) (σ : St) (vs : List V) (H1 : Hp) : Prop := ∃ j : Int, vs = [.int j] ∧ -(2 ^ 62) ≤ j ∧ j < 2 ^ 62 ∧ forJ (Itr 0 j.toNat) g tb D σ H1
def kForL (K : PySem.W.Frag) (g : TG) (tb : TS) (D : Ends) (σ : St) (x : V) (H1 : Hp) : Prop := ∃ a, x = .ref a ∧ (∃ xs, SqL K H1 a xs) ∧ forJ (Itl K a) g tb D σ H1
theorem ev_for1 {g : TG} {tb : TS} {tr : TA} : tFor (iRng1 tr) g tb D σ H = tr σ H (kRng1 g tb D σ) := rfl
theorem ev_kRng1 {g : TG} {tb : TS} {j : Int} {H1 : Hp} : kRng1 g tb D σ [.int j] H1 = (-(2 ^ 62) ≤ j ∧ j < 2 ^ 62 ∧ forJ (Itr 0 j.toNat) g tb D σ H1) := by simp [kRng1]
theorem ev_forL {K : PySem.W.Frag} {g : TG} {tb : TS} : tFor (iList K ta) g tb D σ H = ta σ H (kForL K g tb D σ) := rfl
theorem ev_kForL {K : PySem.W.Frag} {g : TG} {tb : TS} {a : Addr} {H1 : Hp} : kForL K g tb D σ (.ref a) H1 = ((∃ xs, SqL K H1 a xs) ∧ forJ (Itl K a) g tb D σ H1) := by simp [kForL]
theorem ev_rep {l : Addr} {k : Int} : rRep (.ref l) (.int k) H Q = ∃ xs, H l = some (.lst xs) ∧ -(2 ^ 63) ≤ k ∧ k < 2 ^ 63 ∧ xs.length * k.toNat ≤ sizeLine ∧ ∀ p, H p = none → Q (.ref p) (upd H p (.lst (List.replicate k.toNat xs).flatten)) := by simp [rRep]
theorem ev_cat {l b : Addr} : rCat (.ref l) (.ref b) H Q = ∃ xs zs, H l = some (.lst xs) ∧ H b = some (.lst zs) ∧ xs.length + zs.length ≤ sizeLine ∧ ∀ p, H p = none → Q (.ref p) (upd H p (.lst (xs ++ zs))) := by simp [rCat]
theorem ev_int1b {b : Bool} : ((∃ i, [V.bl b] = [V.int i] ∧ Q (.int i) H) ∨ ∃ k, [V.bl b] = [V.bl k] ∧ Q (.int (if k = true then 1 else 0)) H) = Q (.int (if b = true then 1 else 0)) H := by simp
theorem ev_disp {trs : List (TE × TE)} : tDisp trs σ H Q = ∀ p, H p = none → tPairs trs σ (upd H p (.dK [])) fun ps H2 => H2 p = some (.dK []) ∧ ∃ kvs : List (Key × V), ps = kvs.map (fun kv => (kV kv.1, kv.2)) ∧ kvs.length ≤ 15 ∧ Q (.ref p) (upd H2 p (.dK (mergeK [] kvs))) := rfl
theorem ev_gName {i : Nat} {v : V} {Q : St → Hp → Prop} : gName i v σ H Q = Q (σ.set i (some v)) H := rfl
theorem tyV_lst {K : PySem.W.Frag} {a : Addr} {xs : List V} (h : H a = some (.lst xs)) : tyV K "list" (.ref a) H := by
  exact .inl ⟨rfl, xs, .of h⟩
end
end L2

/-! The shop by plain data: what each deed does. -/
namespace Sb
inductive Deed where
  | order (k p c : Int) | came (o p b : Int) | giveUp (o : Int) | sell (k p : Int) | back (s p : Int)
inductive W where
  | noKind | noOrder | noSale | noMany | tooMany | tooFew | broke
  deriving DecidableEq
inductive Ans where
  | num (i : Int) | word (w : W)
structure Sh where
  till : Int
  shelf : List Int
  /-- kind, owed, price -/
  orders : List (Int × Int × Int)
  /-- kind, out, price -/
  sales : List (Int × Int × Int)
def at? {α : Type} (xs : List α) (i : Int) : Option α := if 0 ≤ i then xs[i.toNat]? else none
def piecesWord (out p b : Int) : Option W := if p < 1 ∨ b < 0 ∨ b > p then some .noMany else if p > out then some .tooMany else none
/-- the open order with this number -/
def openOrder (m : Sh) (o : Int) : Option (Int × Int × Int) := match at? m.orders o with
  | some r => if r.2.1 = 0 then none else some r
  | none => none
def refusal (m : Sh) : Deed → Option W
  | .order k p c => match at? m.shelf k with
    | none => some .noKind
    | some _ => if p < 1 ∨ c < 0 then some .noMany else none
  | .sell k p => match at? m.shelf k with
    | none => some .noKind
    | some n => if p < 1 then some .noMany else if p > n then some .tooFew else none
  | .came o p b => match openOrder m o with
    | none => some .noOrder
    | some (_, owed, price) => match piecesWord owed p b with
      | some w => some w
      | none => if (p - b) * price > m.till then some .broke else none
  | .giveUp o => match openOrder m o with
    | none => some .noOrder
    | some _ => none
  | .back s p => match at? m.sales s with
    | none => some .noSale
    | some (_, out, price) => match piecesWord out p 0 with
      | some w => some w
      | none => if p * price > m.till then some .broke else none
def addAt (xs : List Int) (k d : Int) : List Int := xs.set k.toNat (xs.getD k.toNat 0 + d)
def did (prices : List Int) (m : Sh) : Deed → Int × Sh
  | .order k p c => ((m.orders.length : Int), { m with orders := m.orders ++ [(k, p, c)] })
  | .sell k p => ((m.sales.length : Int), { m with
      sales := m.sales ++ [(k, p, prices.getD k.toNat 0)], shelf := addAt m.shelf k (-p), till := m.till + p * prices.getD k.toNat 0 })
  | .came o p b => match m.orders.getD o.toNat (0, 0, 0) with
    | (k, owed, price) => (p - b, { m with orders := m.orders.set o.toNat (k, owed - (p - b), price), shelf := addAt m.shelf k (p - b), till := m.till - (p - b) * price })
  | .giveUp o => match m.orders.getD o.toNat (0, 0, 0) with
    | (k, owed, price) => (owed, { m with orders := m.orders.set o.toNat (k, 0, price) })
  | .back s p => match m.sales.getD s.toNat (0, 0, 0) with
    | (k, out, price) => (p * price, { m with sales := m.sales.set s.toNat (k, out - p, price), shelf := addAt m.shelf k p, till := m.till - p * price })
def step (prices : List Int) (m : Sh) (d : Deed) : Ans × Sh := match refusal m d with
  | some w => (.word w, m)
  | none => (.num (did prices m d).1, (did prices m d).2)
def answers (prices : List Int) : Sh → List Deed → List Ans
  | _, [] => []
  | m, d :: r => (step prices m d).1 :: answers prices (step prices m d).2 r
def after (prices : List Int) : Sh → List Deed → Sh
  | m, [] => m
  | m, d :: r => after prices (step prices m d).2 r
def new (till : Int) (n : Nat) : Sh := ⟨till, List.replicate n 0, [], []⟩

theorem at?_some {α : Type} {xs : List α} {i : Int} {x : α} (h : at? xs i = some x) : 0 ≤ i ∧ i < xs.length ∧ xs[i.toNat]? = some x := by
  unfold at? at h
  split at h
  · rename_i h0
    obtain ⟨h1, _⟩ := List.getElem?_eq_some_iff.mp h
    exact ⟨h0, by omega, h⟩
  · cases h
theorem at?_none {α : Type} {xs : List α} {i : Int} (h : at? xs i = none) : i < 0 ∨ (xs.length : Int) ≤ i := by
  unfold at? at h
  split at h
  · right
    have := List.getElem?_eq_none_iff.mp h
    omega
  · left; omega
theorem at?_neg {α : Type} {xs : List α} {i : Int} (h : i < 0 ∨ (xs.length : Int) ≤ i) : at? xs i = none := by
  unfold at?
  split
  · exact List.getElem?_eq_none_iff.mpr (by omega)
  · rfl
theorem at?_pos {α : Type} {xs : List α} {i : Int} (h0 : 0 ≤ i) (h1 : i < xs.length) : ∃ x, at? xs i = some x ∧ xs[i.toNat]? = some x := by
  unfold at?
  rw [if_pos h0]
  exact ⟨_, List.getElem?_eq_getElem (by omega), List.getElem?_eq_getElem (by omega)⟩
theorem answers_append (prices : List Int) : ∀ (ds es : List Deed) (m : Sh), answers prices m (ds ++ es) = answers prices m ds ++ answers prices (after prices m ds) es
  | [], _, _ => rfl
  | d :: r, es, m => by
    show (step prices m d).1 :: answers prices (step prices m d).2 (r ++ es) = (step prices m d).1 :: (answers prices (step prices m d).2 r ++ answers prices (after prices (step prices m d).2 r) es)
    rw [answers_append prices r es]
theorem after_append (prices : List Int) : ∀ (ds es : List Deed) (m : Sh), after prices m (ds ++ es) = after prices (after prices m ds) es
  | [], _, _ => rfl
  | d :: r, es, m => after_append prices r es _
theorem answers_length (prices : List Int) : ∀ (ds : List Deed) (m : Sh), (answers prices m ds).length = ds.length
  | [], _ => rfl
  | d :: r, m => by rw [answers, List.length_cons, List.length_cons, answers_length prices r]
end Sb

namespace Sb
open PySem L2
/-! ### the shop's data as values -/
def Deed.tup : Deed → List V
  | .order k p c => [.str "order", .int k, .int p, .int c]
  | .came o p b => [.str "came", .int o, .int p, .int b]
  | .giveUp o => [.str "give up", .int o]
  | .sell k p => [.str "sell", .int k, .int p]
  | .back s p => [.str "back", .int s, .int p]
/-- numbers that a product may take -/
def big : Nat := 2 ^ 200
def Sm (i : Int) : Prop := i.natAbs < big
theorem Sm.mul {i j : Int} (h : Sm i) (h' : Sm j) : CMulB i j := ⟨Nat.lt_of_lt_of_le h (by decide +kernel), Nat.lt_of_lt_of_le h' (by decide +kernel)⟩
theorem Sm.le {i j : Int} (h : Sm j) (h0 : 0 ≤ i) (h1 : i ≤ j) : Sm i := by unfold Sm at *; omega
def Deed.ok : Deed → Prop
  | .order _ p c => Sm p ∧ Sm c
  | .sell _ p => Sm p
  | _ => True
def W.str : W → Str
  | .noKind => "no kind" | .noOrder => "no order" | .noSale => "no sale" | .noMany => "no many" | .tooMany => "too many" | .tooFew => "too few" | .broke => "broke"
def wordS : Option W → Str
  | none => "done"
  | some w => w.str
def Ans.v : Ans → V
  | .num i => .int i
  | .word w => .str w.str
def DeedsAt (H : Hp) (rs : List V) (ds : List Deed) : Prop := Paired (fun r d => ∃ a, r = V.ref a ∧ H a = some (.tup d.tup)) rs ds
theorem Same.upd {H H' : Hp} {a : Addr} {o : HO} (s : Same H H') (h : H' a = none) : Same H (L2.upd H' a o) := fun b u e => by rw [upd_ne (ne_of_none (s b u e) h)]; exact s b u e
theorem upd_self {H : Hp} {a : Addr} {o : HO} (h : H a = none) : Same H (L2.upd H a o) := Same.upd (Same.refl H) h
theorem DeedsAt.same {H H' : Hp} {rs : List V} {ds : List Deed} (s : Same H H') (h : DeedsAt H rs ds) : DeedsAt H' rs ds := Paired.mapP h fun r d ⟨a, e1, e2⟩ => ⟨a, e1, s a _ e2⟩
theorem em0 {x n : Int} (h : n ≠ 0 := by decide) : 0 ≤ x % n := Int.emod_nonneg x h
theorem em1 {x n : Int} (h : 0 < n := by decide) : x % n < n := Int.emod_lt_of_pos x h
/-! ### menus -/
theorem menu_get {α : Type} (xs : List α) (i : Int) (n : Nat) (hn : xs.length = n) (h0 : 0 ≤ i) (h1 : i < n) : ∃ x, xs[i.toNat]? = some x ∧ x ∈ xs := by
  have h : i.toNat < xs.length := by omega
  exact ⟨xs[i.toNat], List.getElem?_eq_getElem h, List.getElem_mem h⟩
theorem menu_int {xs : List V} (i : Int) (n : Nat) (hn : xs.length = n) (h0 : 0 ≤ i) (h1 : i < n) (P : Int → Prop) (hx : ∀ v ∈ xs, ∃ j, v = V.int j ∧ P j) : ∃ j, xs[i.toNat]? = some (V.int j) ∧ P j := by
  obtain ⟨x, e, m⟩ := menu_get xs i n hn h0 h1
  obtain ⟨j, rfl, p⟩ := hx x m
  exact ⟨j, e, p⟩
theorem atI_of {xs : List V} {i : Int} {v : V} (h0 : 0 ≤ i) (h : xs[i.toNat]? = some v) : atI xs i = some v := by
  have e := atI_nat h
  rw [show ((i.toNat : Nat) : Int) = i by omega] at e
  exact e
theorem menu_ex {xs : List V} {i : Int} {Q : V → Prop} (n : Nat) (P : Int → Prop) (hn : xs.length = n) (h0 : 0 ≤ i) (h1 : i < n) (hx : ∀ v ∈ xs, ∃ j, v = V.int j ∧ P j) (k : ∀ j, P j → Q (V.int j)) : ∃ x, xs[i.toNat]? = some x ∧ Q x := by
  obtain ⟨j, e, p⟩ := menu_int i n hn h0 h1 P hx
  exact ⟨_, e, k j p⟩
theorem menu_at {xs : List V} {i : Int} {Q : V → Prop} (n : Nat) (P : Int → Prop) (hn : xs.length = n) (h0 : 0 ≤ i) (h1 : i < n) (hx : ∀ v ∈ xs, ∃ j, v = V.int j ∧ P j) (k : ∀ j, P j → Q (V.int j)) : ∃ x, atI xs i = some x ∧ Q x := by
  obtain ⟨j, e, p⟩ := menu_int i n hn h0 h1 P hx
  exact ⟨_, atI_of h0 e, k j p⟩
theorem le_size {n : Nat} (h : n ≤ 1000) : (n ≤ sizeLine) = True := eq_true (Nat.le_of_lt (small1000 h))
/-! ### the law's own shop, a dict -/
def shopKV (t : Int) (sh od sl : Addr) : List (Key × V) := [(.inr "till", .int t), (.inr "shelf", .ref sh), (.inr "orders", .ref od), (.inr "sales", .ref sl)]
theorem kv_till (t : Int) (sh od sl : Addr) : valV (shopKV t sh od sl) (.inr "till") = some (.int t) := by kernel_rfl
theorem kv_shelf (t : Int) (sh od sl : Addr) : valV (shopKV t sh od sl) (.inr "shelf") = some (.ref sh) := by kernel_rfl
theorem kv_orders (t : Int) (sh od sl : Addr) : valV (shopKV t sh od sl) (.inr "orders") = some (.ref od) := by kernel_rfl
theorem kv_sales (t : Int) (sh od sl : Addr) : valV (shopKV t sh od sl) (.inr "sales") = some (.ref sl) := by kernel_rfl
theorem kv_put (t u : Int) (sh od sl : Addr) : putK (shopKV t sh od sl) (.inr "till") (.int u) = shopKV u sh od sl := by kernel_rfl
theorem kv_len (t : Int) (sh od sl : Addr) : (shopKV t sh od sl).length < sizeLine := small1000 (show 4 ≤ 1000 by decide)
def rowV (r : Int × Int × Int) : List V := [.int r.1, .int r.2.1, .int r.2.2]
/-- it stands at d: its lists, and the rows of its orders and sales -/
structure RefAt (H : Hp) (d sh od sl : Addr) (os ss : List Addr) (m : Sh) : Prop where
  dc : H d = some (.dK (shopKV m.till sh od sl))
  shelf : H sh = some (.lst (m.shelf.map V.int))
  orders : H od = some (.lst (os.map V.ref))
  sales : H sl = some (.lst (ss.map V.ref))
  rows : Paired (fun a r => H a = some (.lst (rowV r))) os m.orders
  srows : Paired (fun a r => H a = some (.lst (rowV r))) ss m.sales
  nd : (d :: sh :: od :: sl :: (os ++ ss)).Nodup
/-- what holds of a shop of n kinds -/
structure Wf (n : Nat) (m : Sh) : Prop where
  shelf : m.shelf.length = n
  orders : ∀ r ∈ m.orders, 0 ≤ r.1 ∧ r.1 < n ∧ Sm r.2.1 ∧ Sm r.2.2
  sales : ∀ r ∈ m.sales, 0 ≤ r.1 ∧ r.1 < n ∧ Sm r.2.1 ∧ Sm r.2.2
theorem Paired.at {α β : Type} {F : α → β → Prop} : ∀ {l₁ : List α} {l₂ : List β} {i : Nat} {b : β}, Paired F l₁ l₂ → l₂[i]? = some b → ∃ a, l₁[i]? = some a ∧ F a b
  | _, _, _, _, .nil, e => by simp at e
  | _, _, 0, _, .cons r _, e => by simp at e; subst e; exact ⟨_, rfl, r⟩
  | _, _, i + 1, b, .cons _ t, e => by
    obtain ⟨a, h1, h2⟩ := Paired.at (i := i) (b := b) t (by simpa using e)
    exact ⟨a, by simpa using h1, h2⟩
theorem atI_ref {os : List Addr} {o : Int} {r : Addr} (h0 : 0 ≤ o) (h : os[o.toNat]? = some r) : atI (os.map V.ref) o = some (.ref r) := atI_of h0 (by rw [List.getElem?_map, h]; rfl)
theorem atI_ints {xs : List Int} {o : Int} {x : Int} (h0 : 0 ≤ o) (h : xs[o.toNat]? = some x) : atI (xs.map V.int) o = some (.int x) := atI_of h0 (by rw [List.getElem?_map, h]; rfl)
section
variable {H : Hp} {d sh od sl : Addr} {os ss : List Addr} {m : Sh}
theorem RefAt.order (S : RefAt H d sh od sl os ss m) {o : Int} {r : Int × Int × Int} (h : at? m.orders o = some r) : ∃ a, atI (os.map V.ref) o = some (.ref a) ∧ H a = some (.lst (rowV r)) ∧ os[o.toNat]? = some a := by
  obtain ⟨h0, h1, h2⟩ := at?_some h
  obtain ⟨a, e1, e2⟩ := Paired.at S.rows h2
  exact ⟨a, atI_ref h0 e1, e2, e1⟩
theorem RefAt.sale (S : RefAt H d sh od sl os ss m) {o : Int} {r : Int × Int × Int} (h : at? m.sales o = some r) : ∃ a, atI (ss.map V.ref) o = some (.ref a) ∧ H a = some (.lst (rowV r)) ∧ ss[o.toNat]? = some a := by
  obtain ⟨h0, h1, h2⟩ := at?_some h
  obtain ⟨a, e1, e2⟩ := Paired.at S.srows h2
  exact ⟨a, atI_ref h0 e1, e2, e1⟩
theorem RefAt.olen (S : RefAt H d sh od sl os ss m) : os.length = m.orders.length := Paired.length S.rows
theorem RefAt.slen (S : RefAt H d sh od sl os ss m) : ss.length = m.sales.length := Paired.length S.srows
end
theorem atI0 (a : V) (l : List V) : atI (a :: l) 0 = some a := atI_nat (j := 0) rfl
theorem atI1 (a b : V) (l : List V) : atI (a :: b :: l) 1 = some b := atI_nat (j := 1) rfl
theorem atI2 (a b c : V) (l : List V) : atI (a :: b :: c :: l) 2 = some c := atI_nat (j := 2) rfl
theorem atI3 (a b c d : V) (l : List V) : atI (a :: b :: c :: d :: l) 3 = some d := atI_nat (j := 3) rfl
theorem W.ne_done (w : W) : ¬ w.str = "done" := by cases w <;> decide +kernel
theorem ne_came_give : ¬ ("came" : Str) = "give up" := by decide +kernel
theorem ne_came_order : ¬ ("came" : Str) = "order" := by decide +kernel
theorem ne_came_sell : ¬ ("came" : Str) = "sell" := by decide +kernel
theorem ne_came_back : ¬ ("came" : Str) = "back" := by decide +kernel
theorem ne_give_order : ¬ ("give up" : Str) = "order" := by decide +kernel
theorem ne_give_sell : ¬ ("give up" : Str) = "sell" := by decide +kernel
theorem ne_give_back : ¬ ("give up" : Str) = "back" := by decide +kernel
theorem ne_give_came : ¬ ("give up" : Str) = "came" := by decide +kernel
theorem ne_sell_order : ¬ ("sell" : Str) = "order" := by decide +kernel
theorem ne_order_sell : ¬ ("order" : Str) = "sell" := by decide +kernel
theorem ne_back_order : ¬ ("back" : Str) = "order" := by decide +kernel
theorem ne_back_sell : ¬ ("back" : Str) = "sell" := by decide +kernel
theorem ne_sell_came : ¬ ("sell" : Str) = "came" := by decide +kernel
theorem ne_sell_give : ¬ ("sell" : Str) = "give up" := by decide +kernel
theorem ne_back_came : ¬ ("back" : Str) = "came" := by decide +kernel
theorem ne_back_give : ¬ ("back" : Str) = "give up" := by decide +kernel
theorem pw_none {o p b : Int} (h : piecesWord o p b = none) : 1 ≤ p ∧ 0 ≤ b ∧ b ≤ p ∧ p ≤ o := by
  unfold piecesWord at h
  split at h
  · cases h
  · split at h
    · cases h
    · omega
/-! ### the shop's heap, step by step -/
theorem rows_not {H : Hp} {x : Addr} {o : HO} : ∀ {os : List Addr} {rs : List (Int × Int × Int)}, Paired (fun a r => H a = some (.lst (rowV r))) os rs → x ∉ os → Paired (fun a r => upd H x o a = some (.lst (rowV r))) os rs
  | _, _, .nil, _ => .nil
  | _, _, .cons h t, n => .cons (by rw [upd_ne fun z => n (by rw [← z]; exact List.mem_cons_self)]; exact h) (rows_not t fun z => n (List.mem_cons_of_mem _ z))
theorem rows_set {H : Hp} {x : Addr} {q : Int × Int × Int} : ∀ {os : List Addr} {rs : List (Int × Int × Int)} {i : Nat}, Paired (fun a r => H a = some (.lst (rowV r))) os rs → os.Nodup → os[i]? = some x → Paired (fun a r => upd H x (.lst (rowV q)) a = some (.lst (rowV r))) os (rs.set i q)
  | _, _, _, .nil, _, e => by simp at e
  | _, _, 0, .cons h t, nd, e => by
    simp at e
    subst e
    exact .cons upd_same (rows_not t (List.nodup_cons.mp nd).1)
  | _, _, i + 1, .cons h t, nd, e => by
    have e' := (by simpa using e : _ = some x)
    refine .cons ?_ (rows_set t (List.nodup_cons.mp nd).2 e')
    rw [upd_ne fun z => (List.nodup_cons.mp nd).1 (by rw [z]; exact List.mem_of_getElem? e')]
    exact h
theorem rows_add {H : Hp} {x : Addr} {r : Int × Int × Int} : ∀ {os : List Addr} {rs : List (Int × Int × Int)}, Paired (fun a r => H a = some (.lst (rowV r))) os rs → H x = some (.lst (rowV r)) → Paired (fun a r => H a = some (.lst (rowV r))) (os ++ [x]) (rs ++ [r])
  | _, _, .nil, e => .cons e .nil
  | _, _, .cons h t, e => .cons h (rows_add t e)
theorem nodup_mid {α : Type} {l₁ l₂ : List α} {p : α} (h : (l₁ ++ l₂).Nodup) (hp : p ∉ l₁ ++ l₂) : (l₁ ++ p :: l₂).Nodup := (List.perm_middle.nodup_iff).mpr (List.nodup_cons.mpr ⟨hp, h⟩)
section
variable {H : Hp} {d sh od sl : Addr} {os ss : List Addr} {m : Sh}
/-- the addresses that are the shop's own -/
abbrev own (d sh od sl : Addr) (os ss : List Addr) : List Addr := d :: sh :: od :: sl :: (os ++ ss)
theorem RefAt.nds (S : RefAt H d sh od sl os ss m) : (d ≠ sh ∧ d ≠ od ∧ d ≠ sl ∧ d ∉ os ∧ d ∉ ss) ∧ (sh ≠ od ∧ sh ≠ sl ∧ sh ∉ os ∧ sh ∉ ss) ∧ (od ≠ sl ∧ od ∉ os ∧ od ∉ ss) ∧ (sl ∉ os ∧ sl ∉ ss) ∧ os.Nodup ∧ ss.Nodup ∧ ∀ a ∈ os, a ∉ ss := by
  have h := S.nd
  simp only [List.nodup_cons, List.mem_cons, List.mem_append, not_or, List.nodup_append] at h
  obtain ⟨⟨a1, a2, a3, a4, a5⟩, ⟨b1, b2, b3, b4⟩, ⟨c1, c2, c3⟩, ⟨d1, d2⟩, e1, e2, e3⟩ := h
  exact ⟨⟨a1, a2, a3, a4, a5⟩, ⟨b1, b2, b3, b4⟩, ⟨c1, c2, c3⟩, ⟨d1, d2⟩, e1, e2, fun a ha hb => e3 a ha a hb rfl⟩
theorem RefAt.setTill (S : RefAt H d sh od sl os ss m) (u : Int) : RefAt (upd H d (.dK (shopKV u sh od sl))) d sh od sl os ss { m with till := u } := by
  obtain ⟨⟨a1, a2, a3, a4, a5⟩, _⟩ := S.nds
  exact ⟨upd_same, by rw [upd_ne a1.symm]; exact S.shelf, by rw [upd_ne a2.symm]; exact S.orders, by rw [upd_ne a3.symm]; exact S.sales, rows_not S.rows a4, rows_not S.srows a5, S.nd⟩
theorem RefAt.setShelf (S : RefAt H d sh od sl os ss m) (l : List Int) : RefAt (upd H sh (.lst (l.map V.int))) d sh od sl os ss { m with shelf := l } := by
  obtain ⟨⟨a1, _⟩, ⟨b1, b2, b3, b4⟩, _⟩ := S.nds
  exact ⟨by rw [upd_ne a1]; exact S.dc, upd_same, by rw [upd_ne b1.symm]; exact S.orders, by rw [upd_ne b2.symm]; exact S.sales, rows_not S.rows b3, rows_not S.srows b4, S.nd⟩
theorem RefAt.setOrder (S : RefAt H d sh od sl os ss m) {i : Nat} {a : Addr} (h : os[i]? = some a) (r : Int × Int × Int) : RefAt (upd H a (.lst (rowV r))) d sh od sl os ss { m with orders := m.orders.set i r } := by
  obtain ⟨⟨a1, a2, a3, a4, a5⟩, ⟨b1, b2, b3, b4⟩, ⟨c1, c2, c3⟩, ⟨d1, d2⟩, e1, e2, e3⟩ := S.nds
  have ha := List.mem_of_getElem? h
  exact ⟨by rw [upd_ne fun z => a4 (by rw [z]; exact ha)]; exact S.dc, by rw [upd_ne fun z => b3 (by rw [z]; exact ha)]; exact S.shelf, by rw [upd_ne fun z => c2 (by rw [z]; exact ha)]; exact S.orders, by rw [upd_ne fun z => d1 (by rw [z]; exact ha)]; exact S.sales,
    rows_set S.rows e1 h, rows_not S.srows (e3 a ha), S.nd⟩
theorem RefAt.setSale (S : RefAt H d sh od sl os ss m) {i : Nat} {a : Addr} (h : ss[i]? = some a) (r : Int × Int × Int) : RefAt (upd H a (.lst (rowV r))) d sh od sl os ss { m with sales := m.sales.set i r } := by
  obtain ⟨⟨a1, a2, a3, a4, a5⟩, ⟨b1, b2, b3, b4⟩, ⟨c1, c2, c3⟩, ⟨d1, d2⟩, e1, e2, e3⟩ := S.nds
  have ha := List.mem_of_getElem? h
  exact ⟨by rw [upd_ne fun z => a5 (by rw [z]; exact ha)]; exact S.dc, by rw [upd_ne fun z => b4 (by rw [z]; exact ha)]; exact S.shelf, by rw [upd_ne fun z => c3 (by rw [z]; exact ha)]; exact S.orders, by rw [upd_ne fun z => d2 (by rw [z]; exact ha)]; exact S.sales,
    rows_not S.rows (fun z => e3 a z ha), rows_set S.srows e2 h, S.nd⟩
/-- what lies at one of the shop's own addresses is there -/
theorem rows_there {H : Hp} : ∀ {os : List Addr} {rs : List (Int × Int × Int)}, Paired (fun a r => H a = some (.lst (rowV r))) os rs → ∀ a ∈ os, ∃ o, H a = some o
  | _, _, .nil, _, h => by simp at h
  | _, _, .cons e t, a, h => by
    rcases List.mem_cons.mp h with rfl | h
    · exact ⟨_, e⟩
    · exact rows_there t a h
theorem rows_ne {H : Hp} {C : Prop} {t : Addr} {xs : List V} : ∀ {os : List Addr} {rs : List (Int × Int × Int)}, Paired (fun a r => H a = some (.lst (rowV r))) os rs → t ∈ os → H t = some (.tup xs) → C
  | _, _, .nil, h, _ => by simp at h
  | _, _, .cons e r, h, ht => by
    rcases List.mem_cons.mp h with h | h
    · rw [h, e] at ht
      cases ht
    · exact rows_ne r h ht
theorem RefAt.there (S : RefAt H d sh od sl os ss m) : ∀ a ∈ own d sh od sl os ss, ∃ o, H a = some o := fun a h => by
  simp only [own, List.mem_cons, List.mem_append] at h
  rcases h with rfl | rfl | rfl | rfl | h | h
  · exact ⟨_, S.dc⟩
  · exact ⟨_, S.shelf⟩
  · exact ⟨_, S.orders⟩
  · exact ⟨_, S.sales⟩
  · exact rows_there S.rows a h
  · exact rows_there S.srows a h
theorem RefAt.fresh (S : RefAt H d sh od sl os ss m) {p : Addr} (h : H p = none) : p ∉ own d sh od sl os ss := fun z => by
  obtain ⟨o, e⟩ := S.there p z
  rw [h] at e
  cases e
theorem RefAt.newOrder (S : RefAt H d sh od sl os ss m) {p : Addr} (h : H p = none) (r : Int × Int × Int) : RefAt (upd (upd H p (.lst (rowV r))) od (.lst (os.map V.ref ++ [.ref p]))) d sh od sl (os ++ [p]) ss { m with orders := m.orders ++ [r] } := by
  obtain ⟨⟨a1, a2, a3, a4, a5⟩, ⟨b1, b2, b3, b4⟩, ⟨c1, c2, c3⟩, ⟨d1, d2⟩, e1, e2, e3⟩ := S.nds
  have hf := S.fresh h
  simp only [own, List.mem_cons, List.mem_append, not_or] at hf
  obtain ⟨f1, f2, f3, f4, f5, f6⟩ := hf
  refine ⟨by rw [upd_ne a2, upd_ne (Ne.symm f1)]; exact S.dc, by rw [upd_ne b1, upd_ne (Ne.symm f2)]; exact S.shelf, by rw [upd_same]; simp, by rw [upd_ne c1.symm, upd_ne (Ne.symm f4)]; exact S.sales,
    rows_add (rows_not (rows_not S.rows f5) c2) (by rw [upd_ne f3]; exact upd_same), rows_not (rows_not S.srows f6) c3, ?_⟩
  have q := nodup_mid (l₁ := d :: sh :: od :: sl :: os) (l₂ := ss) (p := p) S.nd (S.fresh h)
  simpa using q
theorem RefAt.newSale (S : RefAt H d sh od sl os ss m) {p : Addr} (h : H p = none) (r : Int × Int × Int) : RefAt (upd (upd H p (.lst (rowV r))) sl (.lst (ss.map V.ref ++ [.ref p]))) d sh od sl os (ss ++ [p]) { m with sales := m.sales ++ [r] } := by
  obtain ⟨⟨a1, a2, a3, a4, a5⟩, ⟨b1, b2, b3, b4⟩, ⟨c1, c2, c3⟩, ⟨d1, d2⟩, e1, e2, e3⟩ := S.nds
  have hf := S.fresh h
  simp only [own, List.mem_cons, List.mem_append, not_or] at hf
  obtain ⟨f1, f2, f3, f4, f5, f6⟩ := hf
  refine ⟨by rw [upd_ne a3, upd_ne (Ne.symm f1)]; exact S.dc, by rw [upd_ne b2, upd_ne (Ne.symm f2)]; exact S.shelf, by rw [upd_ne c1, upd_ne (Ne.symm f3)]; exact S.orders, by rw [upd_same]; simp,
    rows_not (rows_not S.rows f5) d1, rows_add (rows_not (rows_not S.srows f6) d2) (by rw [upd_ne f4]; exact upd_same), ?_⟩
  have q := nodup_mid (l₁ := d :: sh :: od :: sl :: (os ++ ss)) (l₂ := []) (p := p) (by simpa using S.nd) (by simpa using S.fresh h)
  simpa using q
/-- all but the shop's own is as it was; what is the shop's now was so, or is new -/
structure Kept (H H' : Hp) (o o' : List Addr) : Prop where
  same : ∀ b u, H b = some u → b ∉ o → H' b = some u
  new : ∀ b ∈ o', b ∈ o ∨ H b = none
theorem Kept.refl (H : Hp) (o : List Addr) : Kept H H o o := ⟨fun _ _ e _ => e, fun _ h => .inl h⟩
theorem Kept.upd {H H' : Hp} {o o' : List Addr} (k : Kept H H' o o') {a : Addr} {u : HO} (h : a ∈ o') : Kept H (L2.upd H' a u) o o' := by
  refine ⟨fun b v e n => ?_, k.new⟩
  rw [upd_ne fun z => ?_]
  · exact k.same b v e n
  · subst z
    rcases k.new b h with q | q
    · exact n q
    · rw [e] at q
      cases q
theorem Kept.add {H H' : Hp} {o o' o'' : List Addr} (k : Kept H H' o o') {a : Addr} {u : HO} (h : H' a = none) (ho : a ∉ o) (hs : ∀ b ∈ o'', b ∈ o' ∨ b = a) : Kept H (L2.upd H' a u) o o'' := by
  have ha : H a = none := by
    cases q : H a with
    | none => rfl
    | some v => rw [k.same a v q ho] at h; cases h
  refine ⟨fun b v e n => ?_, fun b hb => ?_⟩
  · rw [upd_ne fun z => by rw [z, ha] at e; cases e]
    exact k.same b v e n
  · rcases hs b hb with q | q
    · exact k.new b q
    · exact .inr (by rw [q]; exact ha)
theorem map_set_int (l : List Int) (i : Nat) (x : Int) : (l.map V.int).set i (.int x) = (l.set i x).map V.int := by rw [List.map_set]
theorem ixN_of {n : Nat} {i : Int} (h0 : 0 ≤ i) (h1 : i < n) : ixN n i = some i.toNat := by unfold ixN; rw [if_pos h0, if_pos h1]
theorem ixN_1 (a b c : V) : ixN ([a, b, c] : List V).length 1 = some 1 := rfl
theorem own_o {d sh od sl a : Addr} {os ss : List Addr} : ∀ b ∈ own d sh od sl (os ++ [a]) ss, b ∈ own d sh od sl os ss ∨ b = a := fun b h => by
  simp only [own, List.mem_cons, List.mem_append, List.not_mem_nil, or_false] at h ⊢
  rcases h with h | h | h | h | (h | h) | h <;> simp [h]
theorem own_s {d sh od sl a : Addr} {os ss : List Addr} : ∀ b ∈ own d sh od sl os (ss ++ [a]), b ∈ own d sh od sl os ss ∨ b = a := fun b h => by
  simp only [own, List.mem_cons, List.mem_append, List.not_mem_nil, or_false] at h ⊢
  rcases h with h | h | h | h | h | h | h <;> simp [h]
theorem sq_upd {H : Hp} {a : Addr} {o : HO} {x : Addr} (h : x ≠ a) : sq (L2.upd H a o) (.ref x) = sq H (.ref x) := by simp only [sq, upd_ne h]
end
theorem DeedsAt.app {H : Hp} : ∀ {rs rs' : List V} {ds ds' : List Deed}, DeedsAt H rs ds → DeedsAt H rs' ds' → DeedsAt H (rs ++ rs') (ds ++ ds')
  | _, _, _, _, .nil, h => h
  | _, _, _, _, .cons e t, h => .cons e (DeedsAt.app t h)
theorem DeedsAt.length {H : Hp} {rs : List V} {ds : List Deed} (h : DeedsAt H rs ds) : rs.length = ds.length := Paired.length h
/-- a list of deeds under way: at e, its items' data -/
structure Under (H H' : Hp) (e : Addr) (ds : List Deed) : Prop where
  same : Same H H'
  new : H e = none
  ex : ∃ rs, H' e = some (.lst rs) ∧ DeedsAt H' rs ds
  ok : ∀ d ∈ ds, d.ok
/-- a tuple of a deed is made -/
theorem Under.tup {H H' : Hp} {e p : Addr} {ds : List Deed} {o : HO} (u : Under H H' e ds) (h : H' p = none) : Under H (L2.upd H' p o) e ds := by
  obtain ⟨rs, h1, h2⟩ := u.ex
  exact ⟨Same.upd u.same h, u.new, ⟨rs, by rw [upd_ne (ne_of_none h1 h)]; exact h1, h2.same (upd_self h)⟩, u.ok⟩
theorem DeedsAt.upd {H : Hp} {e : Addr} {o : HO} {xs : List V} {rs : List V} {ds : List Deed} (h : DeedsAt H rs ds) (he : H e = some (.lst xs)) : DeedsAt (L2.upd H e o) rs ds :=
  Paired.mapP h fun r d ⟨a, e1, e2⟩ => ⟨a, e1, by rw [upd_ne (ne_of e2 he (by intro z; cases z))]; exact e2⟩
theorem Under.extend {H H3 : Hp} {e : Addr} {ds ds' : List Deed} {rs' : List V} (u : Under H H3 e ds) (h : DeedsAt H3 rs' ds') (ok : ∀ d ∈ ds', d.ok) :
    ∃ xs, H3 e = some (.lst xs) ∧ xs.length = ds.length ∧ Under H (L2.upd H3 e (.lst (xs ++ rs'))) e (ds ++ ds') := by
  obtain ⟨rs, h1, h2⟩ := u.ex
  refine ⟨rs, h1, h2.length, ⟨fun b o q => ?_, u.new, ⟨_, upd_same, (h2.app h).upd h1⟩, fun d hd => (List.mem_append.mp hd).elim (u.ok d) (ok d)⟩⟩
  rw [upd_ne fun z => by rw [z, u.new] at q; cases q]
  exact u.same b o q
theorem small_sz {n : Nat} (h : n ≤ 1000) : n ≤ sizeLine := Nat.le_of_lt (small1000 h)
theorem Under.on {H H2 H3 : Hp} {e : Addr} {ds : List Deed} (u : Under H H2 e ds) (s : Same H2 H3) : Under H H3 e ds := by
  obtain ⟨rs, h1, h2⟩ := u.ex
  exact ⟨u.same.trans s, u.new, ⟨rs, s _ _ h1, h2.same s⟩, u.ok⟩
theorem Under.down {H0 H H2 : Hp} {e : Addr} {ds : List Deed} (u : Under H H2 e ds) (s : Same H0 H) : Under H0 H2 e ds := ⟨s.trans u.same, s.free u.new, u.ex, u.ok⟩
/-- one deed more -/
theorem Under.add {H H3 : Hp} {e r : Addr} {ds : List Deed} {d : Deed} (u : Under H H3 e ds) (h : H3 r = some (.tup d.tup)) (ok : d.ok) : ∃ xs, H3 e = some (.lst xs) ∧ xs.length = ds.length ∧ Under H (L2.upd H3 e (.lst (xs ++ [.ref r]))) e (ds ++ [d]) :=
  u.extend (.cons ⟨r, rfl, h⟩ .nil) (by simpa using ok)
theorem Sm.of {i : Int} (h0 : -(10 ^ 40) ≤ i) (h1 : i ≤ 10 ^ 40) : Sm i := by
  have h : (10 ^ 40 : Nat) < big := by decide +kernel
  unfold Sm
  have e : ((10 ^ 40 : Nat) : Int) = 10 ^ 40 := by decide +kernel
  omega
def IsWord (w : Str) : Prop := w = "order" ∨ w = "came" ∨ w = "sell" ∨ w = "back" ∨ w = "give up"
theorem word_at {i : Int} {Q : V → Prop} (h0 : 0 ≤ i) (h1 : i < 8) (k : ∀ w, IsWord w → Q (.str w)) : ∃ x, atI [V.str "order", V.str "came", V.str "sell", V.str "came", V.str "back", V.str "order", V.str "sell", V.str "give up"] i = some x ∧ Q x := by
  obtain ⟨x, e, m⟩ := menu_get [V.str "order", V.str "came", V.str "sell", V.str "came", V.str "back", V.str "order", V.str "sell", V.str "give up"] i 8 rfl h0 h1
  refine ⟨x, atI_of h0 e, ?_⟩
  simp only [List.mem_cons, List.not_mem_nil, or_false] at m
  rcases m with rfl | rfl | rfl | rfl | rfl | rfl | rfl | rfl <;> exact k _ (by simp [IsWord])
theorem cms {i j : Int} (h : i.natAbs < 1000) (h' : j.natAbs < 1000) : CMulB i j := ⟨Nat.lt_trans h (by decide +kernel), Nat.lt_trans h' (by decide +kernel)⟩
end Sb

namespace L2
open PySem PySem.Spec PyProof.Rows
section
variable {X : Cx}
/-! ### xs != [] -/
/-! ### isinstance(x, (list, tuple)) -/
end
section
variable {H : Hp} {Q : VK} {σ : St} {D : Ends}
end
theorem ty_lst {H : Hp} {a : Addr} {xs : List V} (h : H a = some (.lst xs)) : tyN H (.ref a) = some "list" := by simp only [tyN, h]
theorem ty_tup {H : Hp} {a : Addr} {xs : List V} (h : H a = some (.tup xs)) : tyN H (.ref a) = some "tuple" := by simp only [tyN, h]
theorem pl_list : plainT "list" = true := by decide +kernel
theorem pl_tuple : plainT "tuple" = true := by decide +kernel
theorem st_list_list : subT "list" "list" = true := by decide +kernel
theorem st_tuple_tuple : subT "tuple" "tuple" = true := by decide +kernel
end L2
namespace Sb
open PySem L2
/-! ### data: whole numbers, texts, lists and tuples of them -/
inductive Tr where
  | int (i : Int)
  | str (s : Str)
  | lst (ts : List Tr)
  | tup (ts : List Tr)
mutual
inductive Has (H : Hp) : V → Tr → Prop where
  | int (i : Int) : Has H (.int i) (.int i)
  | str (s : Str) : Has H (.str s) (.str s)
  | lst {a : Addr} {xs : List V} {ts : List Tr} (e : H a = some (.lst xs)) (h : HasAll H xs ts) : Has H (.ref a) (.lst ts)
  | tup {a : Addr} {xs : List V} {ts : List Tr} (e : H a = some (.tup xs)) (h : HasAll H xs ts) : Has H (.ref a) (.tup ts)
inductive HasAll (H : Hp) : List V → List Tr → Prop where
  | nil : HasAll H [] []
  | cons {x : V} {xs : List V} {t : Tr} {ts : List Tr} (h : Has H x t) (hs : HasAll H xs ts) : HasAll H (x :: xs) (t :: ts)
end
mutual
def Tr.size : Tr → Nat
  | .int _ => 1
  | .str _ => 1
  | .lst ts => sizes ts + 1
  | .tup ts => sizes ts + 1
def sizes : List Tr → Nat
  | [] => 0
  | t :: ts => t.size + sizes ts
end
theorem HasAll.length {H : Hp} : ∀ {xs : List V} {ts : List Tr}, HasAll H xs ts → xs.length = ts.length
  | _, _, .nil => rfl
  | _, _, .cons _ h => by rw [List.length_cons, List.length_cons, h.length]
theorem HasAll.append {H : Hp} : ∀ {xs ys : List V} {ts us : List Tr}, HasAll H xs ts → HasAll H ys us → HasAll H (xs ++ ys) (ts ++ us)
  | _, _, _, _, .nil, h => h
  | _, _, _, _, .cons a b, h => .cons a (b.append h)
theorem HasAll.last {H : Hp} : ∀ {xs : List V} {ts : List Tr} {t : Tr}, HasAll H xs (ts ++ [t]) → ∃ xs' x, xs = xs' ++ [x] ∧ HasAll H xs' ts ∧ Has H x t
  | _, [], _, .cons a .nil => ⟨[], _, rfl, .nil, a⟩
  | _, u :: ts, t, .cons a b => by
    obtain ⟨xs', x, e, h1, h2⟩ := HasAll.last b
    subst e
    exact ⟨_ :: xs', x, rfl, .cons a h1, h2⟩
mutual
theorem Has.same {H H' : Hp} (s : Same H H') : ∀ {v : V} {t : Tr}, Has H v t → Has H' v t
  | _, _, .int i => .int i
  | _, _, .str i => .str i
  | _, _, .lst e h => .lst (s _ _ e) (HasAll.same s h)
  | _, _, .tup e h => .tup (s _ _ e) (HasAll.same s h)
theorem HasAll.same {H H' : Hp} (s : Same H H') : ∀ {v : List V} {t : List Tr}, HasAll H v t → HasAll H' v t
  | _, _, .nil => .nil
  | _, _, .cons e h => .cons (Has.same s e) (HasAll.same s h)
end
/-! numbers and texts alone -/
def flatV : V → Bool
  | .int _ => true
  | .str _ => true
  | _ => false
def vTr : V → Tr
  | .int i => .int i
  | .str s => .str s
  | _ => .int 0
theorem hasV {H : Hp} : ∀ {x : V}, flatV x = true → Has H x (vTr x)
  | .int i, _ => .int i
  | .str s, _ => .str s
theorem hasFlat {H : Hp} : ∀ {xs : List V}, (∀ x ∈ xs, flatV x = true) → HasAll H xs (xs.map vTr)
  | [], _ => .nil
  | x :: xs, h => .cons (hasV (h x (List.mem_cons_self ..))) (hasFlat fun y hy => h y (List.mem_cons_of_mem _ hy))
theorem flat_ints (ps : List Int) : ∀ x ∈ ps.map V.int, flatV x = true := by
  intro x hx
  obtain ⟨i, _, rfl⟩ := List.mem_map.mp hx
  rfl
theorem sm_ten60 : Sm 1000000000000000000000000000000000000000000000000000000000000 := by unfold Sm; decide +kernel
end Sb

namespace Sb
open PySem L2
/-! ### what stays of a shop when a deed is done -/
theorem Wf.new (t : Int) (n : Nat) : Wf n (Sb.new t n) := ⟨by simp [Sb.new], by simp [Sb.new], by simp [Sb.new]⟩
theorem addAt_length (xs : List Int) (k d : Int) : (addAt xs k d).length = xs.length := by simp [addAt]
theorem mem_set {α : Type} {xs : List α} {i : Nat} {a x : α} (h : x ∈ xs.set i a) : x ∈ xs ∨ x = a := List.mem_or_eq_of_mem_set h
theorem getD_at {α : Type} {xs : List α} {i : Int} {x z : α} (h : at? xs i = some x) : xs.getD i.toNat z = x ∧ x ∈ xs := by
  obtain ⟨h0, h1, h2⟩ := at?_some h
  exact ⟨by rw [List.getD, h2]; rfl, List.mem_of_getElem? h2⟩
theorem openOrder_some {m : Sh} {o : Int} {r : Int × Int × Int} (h : openOrder m o = some r) : at? m.orders o = some r ∧ r.2.1 ≠ 0 := by
  unfold openOrder at h
  split at h
  · rename_i r' e
    split at h
    · cases h
    · rename_i z
      cases h
      exact ⟨e, z⟩
  · cases h
theorem piecesWord_none {o p b : Int} (h : piecesWord o p b = none) : 1 ≤ p ∧ 0 ≤ b ∧ b ≤ p ∧ p ≤ o := by
  unfold piecesWord at h
  split at h
  · cases h
  · split at h
    · cases h
    · omega
theorem Sm.zero : Sm 0 := by unfold Sm; decide +kernel
theorem Wf.did {n : Nat} {m : Sh} {d : Deed} {ps : List Int} (w : Wf n m) (ok : d.ok) (hr : refusal m d = none) (hp : ∀ x ∈ ps, Sm x) : Wf n (Sb.did ps m d).2 := by
  cases d with
  | order k p c =>
    simp only [refusal] at hr
    split at hr
    · cases hr
    · rename_i x e
      obtain ⟨h0, h1, _⟩ := at?_some e
      rw [w.shelf] at h1
      refine ⟨w.shelf, fun r hm => ?_, w.sales⟩
      rcases List.mem_append.mp hm with hm | hm
      · exact w.orders r hm
      · rw [List.mem_singleton] at hm
        subst hm
        exact ⟨h0, h1, ok.1, ok.2⟩
  | sell k p =>
    simp only [refusal] at hr
    split at hr
    · cases hr
    · rename_i x e
      obtain ⟨h0, h1, _⟩ := at?_some e
      rw [w.shelf] at h1
      refine ⟨(addAt_length ..).trans w.shelf, w.orders, fun r hm => ?_⟩
      rcases List.mem_append.mp hm with hm | hm
      · exact w.sales r hm
      · rw [List.mem_singleton] at hm
        subst hm
        refine ⟨h0, h1, ok, ?_⟩
        show Sm (ps.getD k.toNat 0)
        rw [List.getD]
        cases q : ps[k.toNat]? with
        | none => exact Sm.zero
        | some v => exact hp v (List.mem_of_getElem? q)
  | came o p b =>
    simp only [refusal] at hr
    split at hr
    · cases hr
    · rename_i k owed price e
      obtain ⟨e1, e2⟩ := openOrder_some e
      obtain ⟨g1, g2⟩ := getD_at (z := (0, 0, 0)) e1
      split at hr
      · cases hr
      · rename_i e3
        obtain ⟨p1, p2, p3, p4⟩ := piecesWord_none e3
        obtain ⟨q1, q2, q3, q4⟩ := w.orders _ g2
        simp only [Sb.did, g1]
        refine ⟨(addAt_length ..).trans w.shelf, fun r hm => ?_, w.sales⟩
        rcases mem_set hm with hm | rfl
        · exact w.orders r hm
        · exact ⟨q1, q2, Sm.le q3 (by show 0 ≤ owed - (p - b); omega) (by show owed - (p - b) ≤ owed; omega), q4⟩
  | giveUp o =>
    simp only [refusal] at hr
    split at hr
    · cases hr
    · rename_i r0 e
      obtain ⟨k, owed, price⟩ := r0
      obtain ⟨e1, e2⟩ := openOrder_some e
      obtain ⟨g1, g2⟩ := getD_at (z := (0, 0, 0)) e1
      obtain ⟨q1, q2, q3, q4⟩ := w.orders _ g2
      simp only [Sb.did, g1]
      refine ⟨w.shelf, fun r hm => ?_, w.sales⟩
      rcases mem_set hm with hm | rfl
      · exact w.orders r hm
      · exact ⟨q1, q2, Sm.zero, q4⟩
  | back s p =>
    simp only [refusal] at hr
    split at hr
    · cases hr
    · rename_i k out price e
      obtain ⟨g1, g2⟩ := getD_at (z := (0, 0, 0)) e
      split at hr
      · cases hr
      · rename_i e3
        obtain ⟨p1, p2, p3, p4⟩ := piecesWord_none e3
        obtain ⟨q1, q2, q3, q4⟩ := w.sales _ g2
        simp only [Sb.did, g1]
        refine ⟨(addAt_length ..).trans w.shelf, w.orders, fun r hm => ?_⟩
        rcases mem_set hm with hm | rfl
        · exact w.sales r hm
        · exact ⟨q1, q2, Sm.le q3 (by show 0 ≤ out - p; omega) (by show out - p ≤ out; omega), q4⟩
theorem did_lens (ps : List Int) (m : Sh) (d : Deed) : (Sb.did ps m d).2.orders.length ≤ m.orders.length + 1 ∧ (Sb.did ps m d).2.sales.length ≤ m.sales.length + 1 := by
  cases d <;> simp [Sb.did]
theorem RefAt.same {H H' : Hp} {d sh od sl : Addr} {os ss : List Addr} {m : Sh} (S : RefAt H d sh od sl os ss m) (s : Same H H') : RefAt H' d sh od sl os ss m :=
  ⟨s _ _ S.dc, s _ _ S.shelf, s _ _ S.orders, s _ _ S.sales, Paired.mapP S.rows fun _ _ h => s _ _ h, Paired.mapP S.srows fun _ _ h => s _ _ h, S.nd⟩
theorem rowsOff {H : Hp} {a : Addr} {u : HO} : ∀ {os : List Addr} {rs : List (Int × Int × Int)}, Paired (fun a r => H a = some (.lst (rowV r))) os rs → a ∉ os → Paired (fun b r => upd H a u b = some (.lst (rowV r))) os rs
  | _, _, .nil, _ => .nil
  | _, _, .cons h t, ha => .cons (by rw [upd_ne fun z => ha (by rw [z]; exact List.mem_cons_self ..)]; exact h) (rowsOff t fun z => ha (List.mem_cons_of_mem _ z))
theorem RefAt.off {H : Hp} {d sh od sl : Addr} {os ss : List Addr} {m : Sh} (S : RefAt H d sh od sl os ss m) {a : Addr} {u : HO} (ha : a ∉ own d sh od sl os ss) : RefAt (upd H a u) d sh od sl os ss m := by
  simp only [own, List.mem_cons, List.mem_append, not_or] at ha
  obtain ⟨h1, h2, h3, h4, h5, h6⟩ := ha
  exact ⟨by rw [upd_ne (Ne.symm h1)]; exact S.dc, by rw [upd_ne (Ne.symm h2)]; exact S.shelf, by rw [upd_ne (Ne.symm h3)]; exact S.orders, by rw [upd_ne (Ne.symm h4)]; exact S.sales, rowsOff S.rows h5, rowsOff S.srows h6, S.nd⟩
theorem word_not_done (w : W) : ¬ (w.str : Str) = "done" := by cases w <;> decide +kernel
theorem DeedsAt.at {H : Hp} : ∀ {rs : List V} {ds : List Deed} {i : Nat} {x : V}, DeedsAt H rs ds → rs[i]? = some x → ∃ a d, x = .ref a ∧ ds[i]? = some d ∧ H a = some (.tup d.tup)
  | _, _, _, _, .nil, e => by simp at e
  | _, _, 0, _, .cons ⟨a, e1, e2⟩ _, e => by simp at e; subst e; exact ⟨a, _, e1, rfl, e2⟩
  | _, _, i + 1, _, .cons _ t, e => by
    obtain ⟨a, d, h1, h2, h3⟩ := DeedsAt.at (i := i) t (by simpa using e)
    exact ⟨a, d, h1, by simpa using h2, h3⟩
theorem take_at {α : Type} {xs : List α} {i : Nat} {x : α} (h : xs[i]? = some x) : xs.take (i + 1) = xs.take i ++ [x] := by
  rw [List.take_add_one, h]; rfl
end Sb

namespace L2
open PySem PySem.Spec PyProof.Rows
/-! ### objects of own classes: fields, methods, making, by readings that a rewriting can take -/
def fd (C : Addr) (H : Hp) (f : Str) : V → Option V
  | .ref a => match H a with
    | some (.ins C' _ fs) => if C' = C then fs.lookup f else none
    | _ => none
  | _ => none
theorem fd_ins {C a dx : Addr} {H : Hp} {fs : List (Str × V)} {f : Str} (h : H a = some (.ins C dx fs)) : fd C H f (.ref a) = fs.lookup f := by
  simp only [fd, h, if_true]
theorem fd_cases {C : Addr} {H : Hp} {f : Str} {x v : V} (h : fd C H f x = some v) : ∃ a dx fs, x = .ref a ∧ H a = some (.ins C dx fs) ∧ fs.lookup f = some v := by
  cases x with
  | ref a =>
    simp only [fd] at h
    split at h
    · rename_i C' dx fs e
      split at h
      · rename_i z
        subst z
        exact ⟨a, dx, fs, rfl, e, h⟩
      · cases h
    · cases h
  | _ => cases h
/-- an object of the class at C that has no attribute of its own with this name -/
def isM (C : Addr) (H : Hp) (f : Str) : V → Bool
  | .ref a => match H a with
    | some (.ins C' _ fs) => decide (C' = C) && (fs.lookup f).isNone
    | _ => false
  | _ => false
theorem isM_ins {C a dx : Addr} {H : Hp} {fs : List (Str × V)} {f : Str} (h : H a = some (.ins C dx fs)) (n : fs.lookup f = none) : isM C H f (.ref a) = true := by
  simp only [isM, h, n, decide_true, Option.isNone_none, Bool.and_self]
theorem isM_cases {C : Addr} {H : Hp} {f : Str} {x : V} (h : isM C H f x = true) : ∃ a dx fs, x = .ref a ∧ H a = some (.ins C dx fs) ∧ fs.lookup f = none := by
  cases x with
  | ref a =>
    simp only [isM] at h
    split at h
    · rename_i C' dx fs e
      simp only [Bool.and_eq_true, decide_eq_true_eq, Option.isNone_iff_eq_none] at h
      obtain ⟨rfl, h2⟩ := h
      exact ⟨a, dx, fs, rfl, e, h2⟩
    · cases h
  | _ => cases h
def tFldC (C : Addr) (ta : TE) (f : Str) : TE := fun σ H Q => ta σ H fun x H1 => ∃ v, fd C H1 f x = some v ∧ Q v H1
def sFldC (C : Addr) (ta tv : TE) (f : Str) : TS := fun D σ H => tv σ H fun y H1 => ta σ H1 fun x H2 => ∃ a dx fs, x = .ref a ∧ H2 a = some (.ins C dx fs) ∧ fs.length < 1000 ∧ D.nx σ (upd H2 a (.ins C dx (putF f y fs)))
/-- e.f op= value, ints -/
def sFldI (C : Addr) (g : Int → Int → Int) (ta tv : TE) (f : Str) : TS := fun D σ H => ta σ H fun x H1 => ∃ v, fd C H1 f x = some v ∧ tv σ H1 fun y H2 => ∃ a dx fs i j, x = .ref a ∧ v = .int i ∧ y = .int j ∧ H2 a = some (.ins C dx fs) ∧ fs.length < 1000 ∧ D.nx σ (upd H2 a (.ins C dx (putF f (.int (g i j)) fs)))
/-- e[i] op= value, ints -/
def sLstI (g : Int → Int → Int) (to ti te : TE) : TS := fun D σ H => to σ H fun x H1 => ti σ H1 fun y H2 => ∃ a xs k v, x = .ref a ∧ y = .int k ∧ H2 a = some (.lst xs) ∧ 0 ≤ k ∧ xs[k.toNat]? = some v ∧ te σ H2 fun z H3 => ∃ ys n j, v = .int n ∧ z = .int j ∧ H3 a = some (.lst ys) ∧ k < ys.length ∧ D.nx σ (upd H3 a (.lst (ys.set k.toNat (.int (g n j)))))
def tMethC (C : Addr) (m : Str) (sp : Sp) (E : XK) (ta : TE) (t : TA) : TE := fun σ H Q => ta σ H fun x H1 => isM C H1 m x = true ∧ t σ H1 fun vs H2 => sp (x :: vs) H2 Q E
def tMakeC (C : Addr) (sp : Sp) (E : XK) (t : TA) : TE := fun σ H Q => t σ H fun vs H1 => ∀ x dx, H1 x = none → H1 dx = none → dx ≠ x → sp (.ref x :: vs) (upd (upd H1 dx (.own x)) x (.ins C dx [])) (fun v H2 => v = .non ∧ Q (.ref x) H2) E
/-- a method by its name -/
structure Mt (P : Program) (w : World) (K : PySem.W.Frag) (mg : Str → Option Value) (base : Heap) (CX : CXT) (C : Addr) (m : Str) (k : Nat) (ps : List Str) (sp : Sp) : Prop where
  ex : ∃ f fd, FnOk P w K mg base CX k f fd ps sp ∧ Meth K C m f ∧ Binds K fd ps []
/-- a class's making -/
structure Mc (P : Program) (w : World) (K : PySem.W.Frag) (mg : Str → Option Value) (base : Heap) (CX : CXT) (C : Addr) (k : Nat) (ps : List Str) (sp : Sp) : Prop where
  ex : ∃ f fd, FnOk P w K mg base CX k f fd ps sp ∧ Mk K C f ∧ Binds K fd ps []
section
variable {X : Cx} {C : Addr} {o e i value : Expr} {f : Str} {pos pos' tpos apos p : Pos} {ta tv to ti te : TE}
theorem pe_fldC (c : Cls X.K C) (n : NoAttr X.K C f) (he : PE X e ta) (hb : attributeBase e f X.env (eval e X.env) = eval e X.env := by rfl) : PE X (.Attribute e f pos) (tFldC C ta f) := by
  intro pins s σ H Q I h
  refine attr_of hb (thn (he pins s σ H _ I h) fun u s1 ⟨x, H1, I1, rx, v, ex, q⟩ => ?_)
  obtain ⟨a, dx, fs, rfl, ea, l⟩ := fd_cases ex
  obtain rfl : u = Value.ref a := rx
  exact getattr_ok I1 ea c n l fun u' s2 I2 ru => ⟨v, H1, I2, ru, q⟩
theorem ps_fldC (c : Cls X.K C) (n : NoAttr X.K C f) (ha : PE X o ta) (hv : PE X value tv) (hs : swapsWith value (some (.Attribute o f pos')) pos.line X.env = pure false := by rfl) : PS X (.Assign [.Attribute o f pos'] value pos) (sFldC C ta tv f) := by
  intro pins s σ H D I h
  refine plainObj_wpAny_Assign_Attribute (thn (hv pins s σ H _ I h) fun u s1 ⟨y, H1, I1, ry, q⟩ => thn (ha pins s1 σ H1 _ I1 q) fun ov s2 ⟨x, H2, I2, rx, a, dx, fs, ex, ea, l, q2⟩ => ?_) hs
  subst ex
  obtain rfl : ov = Value.ref a := rx
  exact setattr_ok I2 ea c n l ry fun s3 I3 => ⟨σ, _, I3, q2⟩
theorem ps_fldI {op : Operator} {g : Int → Int → Int} (hop : PIp X op (ipI g)) (c : Cls X.K C) (n : NoAttr X.K C f) (ha : PE X o ta) (hv : PE X value tv) : PS X (.AugAssign (.Attribute o f tpos) op value pos) (sFldI C g ta tv f) := by
  intro pins s σ H D I h
  refine wpAny_AugAssign_AttributeAny (thn (ha pins s σ H _ I h) fun ov s1 ⟨x, H1, I1, rx, v, ex, q⟩ => ?_)
  obtain ⟨a, dx, fs, rfl, ea, l⟩ := fd_cases ex
  obtain rfl : ov = Value.ref a := rx
  refine getattr_ok I1 ea c n l fun u s2 I2 ru => thn (hv pins s2 σ H1 _ I2 q) fun w3 s3 ⟨y, H2, I3, ry, a', dx', fs', i, j, e1, e2, e3, e4, hl, q3⟩ => ?_
  cases e1
  subst e2
  subst e3
  refine thn (hop pins s3 σ H2 _ _ u w3 (fun z H3 => z = .int (g i j) ∧ H3 = H2) I3 ru ry ⟨i, j, rfl, rfl, rfl, rfl⟩) fun w4 s4 ⟨z, H3, I4, rz, e5, e6⟩ => ?_
  subst e5
  subst e6
  exact setattr_ok I4 e4 c n hl rz fun s5 I5 => ⟨σ, _, I5, q3⟩
theorem ps_lstI {op : Operator} {g : Int → Int → Int} (hop : PIp X op (ipI g)) (hto : PE X o to) (hi : PE X i ti) (he : PE X value te) (ha : ∀ ov iv new, augStore i ov iv new = (do holding [new, ov, iv] (setItem ov iv new); release [new, ov, iv] []; pure .next) := by intros; rfl) :
    PS X (.AugAssign (.Subscript o i tpos) op value pos) (sLstI g to ti te) := by
  intro pins s σ H D I h
  refine wpAny_AugAssign_SubscriptAny (thn (hto pins s σ H _ I h) fun ov s1 ⟨x1, H1, I1, r1, q1⟩ => ?_) ha
  refine thn (hi pins s1 σ H1 _ I1 q1) fun iv s2 ⟨x2, H2, I2, r2, a, xs, k, v, e1, e2, e3, h0, e4, q2⟩ => ?_
  subst e1
  subst e2
  obtain rfl : ov = Value.ref a := r1
  obtain ⟨t, rfl⟩ := (show ∃ t, iv = Value.int k t from r2)
  obtain ⟨its, n, r, hob, hz⟩ := I2.lst e3
  obtain ⟨u, eu, ru⟩ := r.get e4
  have hn := line63
  have hk : k.toNat < xs.length := (List.getElem?_eq_some_iff.mp e4).1
  refine wpAny_getItem_list (items := its.toArray) ⟨_, hob, rfl, _, rfl⟩ h0 (by omega) (by simpa using eu) ?_
  refine thn (he pins s2 σ H2 _ I2 q2) fun w3 s3 ⟨y, H3, I3, ry, ys, m, j, e5, e6, e7, e8, q3⟩ => ?_
  subst e5
  subst e6
  refine thn (hop pins s3 σ H3 _ _ u w3 (fun z H4 => z = .int (g m j) ∧ H4 = H3) I3 ru ry ⟨m, j, rfl, rfl, rfl, rfl⟩) fun w4 s4 ⟨z, H4, I4, rz, e9, e10⟩ => ?_
  subst e9
  subst e10
  exact thn (set_list pins s4 σ _ (.ref a) (.int k) _ (.ref a) (.int k t) w4 (fun H5 => D.nx σ H5) I4 rfl ⟨t, rfl⟩ rz ⟨a, ys, k, k.toNat, rfl, rfl, e7, by unfold ixN; rw [if_pos h0, if_pos e8], q3⟩) fun _ s5 ⟨H5, I5, q5⟩ => ⟨σ, H5, I5, q5⟩
variable {CX : CXT} {k : Nat} {ps : List Str} {sp : Sp} {E : XK} {m x : Str} {es : List Expr} {t : TA}
theorem pe_mt {pl : Sem Bool} (F : Mt X.prog X.w X.K X.mg X.base CX C m k ps sp) (c : Cls X.K C) (hr : Room k X.A) (hx : Passes CX X E) (ho : PE X o ta) (ha : PA X (e :: es) t)
    (hst : starEach (e :: es) X.env = (false, eval e X.env) :: starEach es X.env := by rfl) (hpl : (backTo pos (starEach es X.env)).any (·.1) = false := by rfl)
    (ht : eval (.Call (.Attribute o m apos) (e :: es) [] pos) X.env = (do
      let ov ← eval o X.env
      standAt apos.atName
      let (f, first) ← holding [ov] (getMethod ov m pl)
      callWith pos f first (backTo pos (starEach (e :: es) X.env)) (backToKw pos (keywordEach [] X.env))) := by rfl) :
    PE X (.Call (.Attribute o m apos) (e :: es) [] pos) (tMethC C m sp E ta t) := by
  obtain ⟨g, fd, G, hm, hb⟩ := F.ex
  intro pins s σ H Q I h
  refine PySem.W.methodCall_KW (pl := pl) (thn (ho pins s σ H _ I h) fun u s1 ⟨x, H1, I1, rx, ex, q⟩ => ?_) ht
  obtain ⟨a, dx, fs, rfl, ea, l⟩ := isM_cases ex
  obtain rfl : u = Value.ref a := rx
  refine getmeth_ok I1 ea c hm l ?_
  refine PySem.W.callWith_K (first := [.ref a]) (h₀ := X.base) I.ok.mod.kin hm.kp (thn (ha pos pins s1 σ H1 _ I1 q) fun us s2 ⟨vs, H2, I2, r, q2⟩ => ⟨I2.kIn, ?_⟩) hst hpl
  exact run_fn (us := .ref a :: us) (vs := .ref a :: vs) (dvs := []) (ds := []) G hr hb .nil hx I2 (.cons rfl r) (by rw [List.append_nil]; exact q2)
theorem pe_mc (F : Mc X.prog X.w X.K X.mg X.base CX C k ps sp) (hr : Room (k + 1) X.A) (hg : Gl X x) (hm : X.mg x = some (.ref C)) (hx : Passes CX X E) (ha : PA X (e :: es) t) (hdb : (x == ("__debug__" : Str)) = false := by decide)
    (he : starEach (e :: es) X.env = (false, eval e X.env) :: starEach es X.env := by rfl) (hpl : (backTo pos (starEach es X.env)).any (·.1) = false := by rfl) :
    PE X (.Call (.Name x p) (e :: es) [] pos) (tMakeC C sp E t) := by
  obtain ⟨f, fd, G, M, hb⟩ := F.ex
  intro pins s σ H Q I h
  refine wpAny_Call_Name_kw (ld_glob I hg hm ?_ hdb)
  refine PySem.W.callWith_K (h₀ := X.base) I.ok.mod.kin M.kp (thn (ha pos pins s σ H _ I h) fun us s1 ⟨vs, H1, I1, r, q⟩ => ⟨I1.kIn, ?_⟩) he hpl
  exact run_make (dvs := []) (ds := []) M G hr hb .nil hx I1 r (fun x dx h1 h2 h3 => by rw [List.append_nil]; exact q x dx h1 h2 h3)
end
/-! step by step -/
section
variable {σ : St} {H H1 H2 : Hp} {D : Ends} {Q : VK} {ta tb tc te : TE} {C a : Addr} {f m : Str} {g : Int → Int → Int} {x y v : V} {sp : Sp} {E : XK} {t : TA} {vs : List V}
def kFldC (C : Addr) (f : Str) (Q : VK) (x : V) (H1 : Hp) : Prop := ∃ v, fd C H1 f x = some v ∧ Q v H1
theorem ev_fld : tFldC C ta f σ H Q = ta σ H (kFldC C f Q) := rfl
def kSf1 (C : Addr) (ta : TE) (f : Str) (D : Ends) (σ : St) (y : V) (H1 : Hp) : Prop := ta σ H1 fun x H2 => ∃ a dx fs, x = .ref a ∧ H2 a = some (.ins C dx fs) ∧ fs.length < 1000 ∧ D.nx σ (upd H2 a (.ins C dx (putF f y fs)))
def kSf2 (C : Addr) (f : Str) (D : Ends) (σ : St) (y x : V) (H2 : Hp) : Prop := ∃ a dx fs, x = .ref a ∧ H2 a = some (.ins C dx fs) ∧ fs.length < 1000 ∧ D.nx σ (upd H2 a (.ins C dx (putF f y fs)))
theorem ev_sf : sFldC C ta tb f D σ H = tb σ H (kSf1 C ta f D σ) := rfl
theorem ev_sf1 : kSf1 C ta f D σ y H1 = ta σ H1 (kSf2 C f D σ y) := rfl
theorem ev_sf2 : kSf2 C f D σ y (.ref a) H1 = ∃ dx fs, H1 a = some (.ins C dx fs) ∧ fs.length < 1000 ∧ D.nx σ (upd H1 a (.ins C dx (putF f y fs))) := by simp [kSf2]
def kFi1 (C : Addr) (g : Int → Int → Int) (tv : TE) (f : Str) (D : Ends) (σ : St) (x : V) (H1 : Hp) : Prop := ∃ v, fd C H1 f x = some v ∧ tv σ H1 fun y H2 => ∃ a dx fs i j, x = .ref a ∧ v = .int i ∧ y = .int j ∧ H2 a = some (.ins C dx fs) ∧ fs.length < 1000 ∧ D.nx σ (upd H2 a (.ins C dx (putF f (.int (g i j)) fs)))
def kFi2 (C : Addr) (g : Int → Int → Int) (f : Str) (D : Ends) (σ : St) (x v y : V) (H2 : Hp) : Prop := ∃ a dx fs i j, x = .ref a ∧ v = .int i ∧ y = .int j ∧ H2 a = some (.ins C dx fs) ∧ fs.length < 1000 ∧ D.nx σ (upd H2 a (.ins C dx (putF f (.int (g i j)) fs)))
theorem ev_fi : sFldI C g ta tb f D σ H = ta σ H (kFi1 C g tb f D σ) := rfl
theorem ev_fi1 : kFi1 C g tb f D σ x H1 = ∃ v, fd C H1 f x = some v ∧ tb σ H1 (kFi2 C g f D σ x v) := rfl
theorem ev_fi2 {i j : Int} : kFi2 C g f D σ (.ref a) (.int i) (.int j) H1 = ∃ dx fs, H1 a = some (.ins C dx fs) ∧ fs.length < 1000 ∧ D.nx σ (upd H1 a (.ins C dx (putF f (.int (g i j)) fs))) := by simp [kFi2]
def kLi1 (g : Int → Int → Int) (ti te : TE) (D : Ends) (σ : St) (x : V) (H1 : Hp) : Prop := ti σ H1 fun y H2 => ∃ a xs k v, x = .ref a ∧ y = .int k ∧ H2 a = some (.lst xs) ∧ 0 ≤ k ∧ xs[k.toNat]? = some v ∧ te σ H2 fun z H3 => ∃ ys n j, v = .int n ∧ z = .int j ∧ H3 a = some (.lst ys) ∧ k < ys.length ∧ D.nx σ (upd H3 a (.lst (ys.set k.toNat (.int (g n j)))))
def kLi2 (g : Int → Int → Int) (te : TE) (D : Ends) (σ : St) (x y : V) (H2 : Hp) : Prop := ∃ a xs k v, x = .ref a ∧ y = .int k ∧ H2 a = some (.lst xs) ∧ 0 ≤ k ∧ xs[k.toNat]? = some v ∧ te σ H2 fun z H3 => ∃ ys n j, v = .int n ∧ z = .int j ∧ H3 a = some (.lst ys) ∧ k < ys.length ∧ D.nx σ (upd H3 a (.lst (ys.set k.toNat (.int (g n j)))))
def kLi3 (g : Int → Int → Int) (D : Ends) (σ : St) (a : Addr) (k : Int) (v z : V) (H3 : Hp) : Prop := ∃ ys n j, v = .int n ∧ z = .int j ∧ H3 a = some (.lst ys) ∧ k < ys.length ∧ D.nx σ (upd H3 a (.lst (ys.set k.toNat (.int (g n j)))))
theorem ev_li : sLstI g ta tb te D σ H = ta σ H (kLi1 g tb te D σ) := rfl
theorem ev_li1 : kLi1 g tb te D σ x H1 = tb σ H1 (kLi2 g te D σ x) := rfl
theorem ev_li2 {k : Int} : kLi2 g te D σ (.ref a) (.int k) H1 = ∃ xs v, H1 a = some (.lst xs) ∧ 0 ≤ k ∧ xs[k.toNat]? = some v ∧ te σ H1 (kLi3 g D σ a k v) :=
  propext ⟨fun ⟨_, xs, _, v, e1, e2, h⟩ => by cases e1; cases e2; exact ⟨xs, v, h⟩, fun ⟨xs, v, h⟩ => ⟨a, xs, k, v, rfl, rfl, h⟩⟩
theorem ev_li3 {k n j : Int} : kLi3 g D σ a k (.int n) (.int j) H1 = ∃ ys, H1 a = some (.lst ys) ∧ k < ys.length ∧ D.nx σ (upd H1 a (.lst (ys.set k.toNat (.int (g n j))))) := by simp [kLi3]
def kMt1 (C : Addr) (m : Str) (sp : Sp) (E : XK) (t : TA) (σ : St) (Q : VK) (x : V) (H1 : Hp) : Prop := isM C H1 m x = true ∧ t σ H1 fun vs H2 => sp (x :: vs) H2 Q E
def kMt2 (sp : Sp) (E : XK) (Q : VK) (x : V) (vs : List V) (H2 : Hp) : Prop := sp (x :: vs) H2 Q E
theorem ev_mt : tMethC C m sp E ta t σ H Q = ta σ H (kMt1 C m sp E t σ Q) := rfl
theorem ev_mt1 : kMt1 C m sp E t σ Q x H1 = (isM C H1 m x = true ∧ t σ H1 (kMt2 sp E Q x)) := rfl
theorem ev_mt2 : kMt2 sp E Q x vs H1 = sp (x :: vs) H1 Q E := rfl
def kMk (C : Addr) (sp : Sp) (E : XK) (Q : VK) (vs : List V) (H1 : Hp) : Prop := ∀ x dx, H1 x = none → H1 dx = none → dx ≠ x → sp (.ref x :: vs) (upd (upd H1 dx (.own x)) x (.ins C dx [])) (fun v H2 => v = .non ∧ Q (.ref x) H2) E
theorem ev_mk : tMakeC C sp E t σ H Q = t σ H (kMk C sp E Q) := rfl
theorem ev_mk1 : kMk C sp E Q vs H1 = ∀ x dx, H1 x = none → H1 dx = none → dx ≠ x → sp (.ref x :: vs) (upd (upd H1 dx (.own x)) x (.ins C dx [])) (fun v H2 => v = .non ∧ Q (.ref x) H2) E := rfl
def kRs (E : XK) (C : Addr) (vs : List V) (H1 : Hp) : Prop := vs.length ≤ sizeLine ∧ E (.ref C) none H1
theorem ev_rs : tRaise E C t D σ H = t σ H (kRs E C) := rfl
theorem ev_rs1 : kRs E C vs H1 = (vs.length ≤ sizeLine ∧ E (.ref C) none H1) := rfl
/-! where the object's state is known -/
theorem kF (h : fd C H1 f x = some v) : kFldC C f Q x H1 = Q v H1 := by simp [kFldC, h]
theorem kFi (h : fd C H1 f x = some v) : kFi1 C g tb f D σ x H1 = tb σ H1 (kFi2 C g f D σ x v) := by simp [ev_fi1, h]
theorem kFi' {i j : Int} {dx : Addr} {fs : List (Str × V)} (h : H1 a = some (.ins C dx fs)) (hl : fs.length < 1000) : kFi2 C g f D σ (.ref a) (.int i) (.int j) H1 = D.nx σ (upd H1 a (.ins C dx (putF f (.int (g i j)) fs))) := by
  rw [ev_fi2]
  exact propext ⟨fun ⟨_, _, e, _, q⟩ => by rw [h] at e; cases e; exact q, fun q => ⟨_, _, h, hl, q⟩⟩
theorem kSf {dx : Addr} {fs : List (Str × V)} (h : H1 a = some (.ins C dx fs)) (hl : fs.length < 1000) : kSf2 C f D σ y (.ref a) H1 = D.nx σ (upd H1 a (.ins C dx (putF f y fs))) := by
  rw [ev_sf2]
  exact propext ⟨fun ⟨_, _, e, _, q⟩ => by rw [h] at e; cases e; exact q, fun q => ⟨_, _, h, hl, q⟩⟩
theorem kL2 {l : List Int} {k n : Int} (h : H1 a = some (.lst (l.map V.int))) (h0 : 0 ≤ k) (e : l[k.toNat]? = some n) : kLi2 g te D σ (.ref a) (.int k) H1 = te σ H1 (kLi3 g D σ a k (.int n)) := by
  have e' : (l.map V.int)[k.toNat]? = some (.int n) := by rw [List.getElem?_map, e]; rfl
  rw [ev_li2]
  exact propext ⟨fun ⟨_, _, e1, _, e2, q⟩ => by rw [h] at e1; cases e1; rw [e'] at e2; cases e2; exact q, fun q => ⟨_, _, h, h0, e', q⟩⟩
theorem kL3 {l : List Int} {k n j : Int} (h : H1 a = some (.lst (l.map V.int))) (h1 : k < l.length) : kLi3 g D σ a k (.int n) (.int j) H1 = D.nx σ (upd H1 a (.lst ((l.set k.toNat (g n j)).map V.int))) := by
  rw [ev_li3, List.map_set]
  exact propext ⟨fun ⟨_, e1, _, q⟩ => by rw [h] at e1; cases e1; exact q, fun q => ⟨_, h, by rw [List.length_map]; exact h1, q⟩⟩
theorem DefX.nox {X : Cx} {N G : List Str} (D : DefX X N G) : DefX X.nox N G := ⟨D.hN, D.nd, D.loc, D.glb, D.dbg, D.cdc, D.nnm, D.fn⟩
theorem DefX.handling {X : Cx} {N G : List Str} (D : DefX X N G) (e : Addr) : DefX (X.handling e) N G := ⟨D.hN, D.nd, D.loc, D.glb, D.dbg, D.cdc, D.nnm, D.fn⟩
theorem ev_try {K : PySem.W.Frag} {tb : XK → TS} {cts : List (Value × TH)} : tTry K tb cts D σ H = tb (fun cls _ H' => catchK K cls D σ H' cts) D σ H := rfl
end
end L2

namespace L2
open PySem PySem.Spec PyProof.Rows
/-! ### readings that reduce by themselves -/
section
variable {X : Cx} {N G : List Str} {σ : St} {H : Hp} {Q : VK} {x y : V} {a b : Expr} {ta tb te : TE} {pos : Pos}
def tVarF (i : Nat) : TE := fun σ H Q => match σ[i]? with
  | some (some v) => Q v H
  | _ => False
theorem pvF (D : DefX X N G) (i : Nat) {x : Str} {pos : Pos} (hi : N[i]? = some x := by rfl) : PE X (.Name x pos) (tVarF i) := fun pins s σ H Q I h => pvD D i hi pins s σ H Q I (by
  unfold tVarF at h
  split at h
  · exact ⟨_, ‹_›, h⟩
  · exact h.elim)
theorem OpR.imp {f : Value → Value → Sem Value} {r r' : R2} (h : OpR X f r) (i : ∀ {x y : V} {H : Hp} {Q : VK}, r' x y H Q → r x y H Q) : OpR X f r' := fun pins s σ H x y v u Q I rx ry q => h pins s σ H x y v u Q I rx ry (i q)
def twoI (x y : V) (k : Int → Int → Prop) : Prop := match x with
  | .int i => match y with
    | .int j => k i j
    | _ => False
  | _ => False
theorem twoI_of {x y : V} {k : Int → Int → Prop} (h : twoI x y k) : ∃ i j, x = .int i ∧ y = .int j ∧ k i j := by
  cases x with
  | int i =>
    cases y with
    | int j => exact ⟨i, j, rfl, rfl, h⟩
    | _ => exact h.elim
  | _ => exact h.elim
def r2F (g : Int → Int → V) : R2 := fun x y H Q => twoI x y fun i j => Q (g i j) H
def r2C (C : Int → Int → Prop) (g : Int → Int → V) : R2 := fun x y H Q => twoI x y fun i j => C i j ∧ Q (g i j) H
theorem op_addF : OpR X (binaryOp .Add) (r2F fun i j => .int (i + j)) := op_add.imp twoI_of
theorem op_subF : OpR X (binaryOp .Sub) (r2F fun i j => .int (i - j)) := op_sub.imp twoI_of
theorem op_mulF : OpR X (binaryOp .Mult) (r2C CMulB fun i j => .int (i * j)) := op_mulB.imp twoI_of
theorem op_fdivF : OpR X (binaryOp .FloorDiv) (r2C CDiv fun i j => .int (i / j)) := op_fdiv.imp twoI_of
theorem op_modF : OpR X (binaryOp .Mod) (r2C (fun _ j => 0 < j) fun i j => .int (i % j)) := op_mod.imp twoI_of
theorem op_powF : OpR X (binaryOp .Pow) (r2C CPow fun i j => .int (i ^ j.toNat)) := op_pow.imp twoI_of
theorem op_ltF : OpR X (compareOp .Lt) (r2F fun i j => .bl (decide (i < j))) := op_lt.imp twoI_of
theorem op_gtF : OpR X (compareOp .Gt) (r2F fun i j => .bl (decide (j < i))) := op_gt.imp twoI_of
theorem op_geF : OpR X (compareOp .GtE) (r2F fun i j => .bl (decide (j ≤ i))) := op_ge.imp twoI_of
def kBF (Q : Bool → Hp → Prop) (x : V) (H1 : Hp) : Prop := match x with
  | .bl k => Q k H1
  | _ => False
def tTestF (t : TE) : TT := fun σ H Q => t σ H (kBF Q)
theorem kBF_of {Q : Bool → Hp → Prop} {x : V} {H1 : Hp} (h : kBF Q x H1) : ∃ k, x = .bl k ∧ Q k H1 := by
  cases x with
  | bl k => exact ⟨k, rfl, h⟩
  | _ => exact h.elim
theorem pt_cmpF {op : CmpOp} {r : R2} (ho : OpR X (compareOp op) r) (ha : PE X a ta) (hb : PE X b tb) (hm : behindInMarks op b = false) : PT X (.Compare a [op] [b] pos) (tTestF (tOp r ta tb)) := by
  intro pins s σ H Q I h
  refine wpAny_isTrue_Compare1 (binT ha hb I h fun v u s2 x y H2 I2 rx ry q => thn (ho pins s2 σ H2 x y v u _ I2 rx ry q) fun c s3 h3 => ?_) hm
  obtain ⟨z, H3, I3, r3, q⟩ := h3
  obtain ⟨k, e, q3⟩ := kBF_of q
  subst e
  cases r3
  exact wpAny_truthy_bool ⟨H3, I3, q3⟩
theorem pt_valF {e : Expr} {t : TE} (h : PE X e t) (he : ∀ whole, isTrue e X.env whole = (do let v ← whole; standAt e.pos; holding [v] (truthy v)) := by intro _; rfl) : PT X e (tTestF t) := by
  intro pins s σ H Q I hw
  refine isTrue_plain (thn (h pins s σ H _ I hw) fun v s1 h3 => ?_) (he _)
  obtain ⟨x, H1, I1, r1, q1⟩ := h3
  obtain ⟨d, rfl, q⟩ := kBF_of q1
  cases r1
  exact wpAny_truthy_bool ⟨H1, I1, q⟩
variable {v : V} {o : Option V} {n : Nat} {i j : Int} {g : Int → Int → V} {C : Int → Int → Prop} {H1 : Hp} {QB : Bool → Hp → Prop} {p : Bool}
theorem ev_vF0 : tVarF 0 (some v :: σ) H Q = Q v H := rfl
theorem ev_vF1 : tVarF (n + 1) (o :: σ) H Q = tVarF n σ H Q := rfl
theorem ev_r2F : r2F g (.int i) (.int j) H Q = Q (g i j) H := rfl
theorem ev_r2C : r2C C g (.int i) (.int j) H Q = (C i j ∧ Q (g i j) H) := rfl
theorem ev_testF : tTestF te σ H QB = te σ H (kBF QB) := rfl
theorem ev_kBF : kBF QB (.bl p) H1 = QB p H1 := rfl
end
end L2

namespace Sb
open PySem L2
def isI : V → Bool
  | .int _ => true
  | _ => false
/-! ### the program's own shop -/
/-- the addresses of its classes -/
structure Cs where
  (shop order sale noKind noOrder noSale noMany tooMany tooFew broke : Addr)
def Cs.w (c : Cs) : W → Addr
  | .noKind => c.noKind | .noOrder => c.noOrder | .noSale => c.noSale | .noMany => c.noMany | .tooMany => c.tooMany | .tooFew => c.tooFew | .broke => c.broke
/-- what the text has of them -/
structure Txt (K : PySem.W.Frag) (mg : Str → Option Value) (c : Cs) : Prop where
  mgShop : mg "Shop" = some (.ref c.shop)
  mgOrder : mg "Order" = some (.ref c.order)
  mgSale : mg "Sale" = some (.ref c.sale)
  mgNoKind : mg "NoKind" = some (.ref c.noKind)
  mgNoOrder : mg "NoOrder" = some (.ref c.noOrder)
  mgNoSale : mg "NoSale" = some (.ref c.noSale)
  mgNoMany : mg "NoMany" = some (.ref c.noMany)
  mgTooMany : mg "TooMany" = some (.ref c.tooMany)
  mgTooFew : mg "TooFew" = some (.ref c.tooFew)
  mgBroke : mg "Broke" = some (.ref c.broke)
  exNoKind : excVE K c.noKind
  exNoOrder : excVE K c.noOrder
  exNoSale : excVE K c.noSale
  exNoMany : excVE K c.noMany
  exTooMany : excVE K c.tooMany
  exTooFew : excVE K c.tooFew
  exBroke : excVE K c.broke
  clShop : Cls K c.shop
  clOrder : Cls K c.order
  clSale : Cls K c.sale
  na_Shop_till : NoAttr K c.shop "till"
  na_Shop_prices : NoAttr K c.shop "prices"
  na_Shop_shelf : NoAttr K c.shop "shelf"
  na_Shop_owed : NoAttr K c.shop "owed"
  na_Shop_orders : NoAttr K c.shop "orders"
  na_Shop_sales : NoAttr K c.shop "sales"
  na_Shop_entries : NoAttr K c.shop "entries"
  na_Order_kind : NoAttr K c.order "kind"
  na_Order_price : NoAttr K c.order "price"
  na_Order_owed : NoAttr K c.order "owed"
  na_Sale_kind : NoAttr K c.sale "kind"
  na_Sale_out : NoAttr K c.sale "out"
def shopF (t : Int) (pr sh ow od sl en : Addr) : List (Str × V) := [("till", .int t), ("prices", .ref pr), ("shelf", .ref sh), ("owed", .ref ow), ("orders", .ref od), ("sales", .ref sl), ("entries", .ref en)]
def ordF (r : Int × Int × Int) : List (Str × V) := [("kind", .int r.1), ("price", .int r.2.2), ("owed", .int r.2.1)]
def saleF (r : Int × Int × Int) : List (Str × V) := [("kind", .int r.1), ("out", .int r.2.1)]
theorem sf_till (t : Int) (pr sh ow od sl en : Addr) : (shopF t pr sh ow od sl en).lookup ("till" : Str) = some (.int t) := by kernel_rfl
theorem sf_prices (t : Int) (pr sh ow od sl en : Addr) : (shopF t pr sh ow od sl en).lookup ("prices" : Str) = some (.ref pr) := by kernel_rfl
theorem sf_shelf (t : Int) (pr sh ow od sl en : Addr) : (shopF t pr sh ow od sl en).lookup ("shelf" : Str) = some (.ref sh) := by kernel_rfl
theorem sf_owed (t : Int) (pr sh ow od sl en : Addr) : (shopF t pr sh ow od sl en).lookup ("owed" : Str) = some (.ref ow) := by kernel_rfl
theorem sf_orders (t : Int) (pr sh ow od sl en : Addr) : (shopF t pr sh ow od sl en).lookup ("orders" : Str) = some (.ref od) := by kernel_rfl
theorem sf_sales (t : Int) (pr sh ow od sl en : Addr) : (shopF t pr sh ow od sl en).lookup ("sales" : Str) = some (.ref sl) := by kernel_rfl
theorem sf_entries (t : Int) (pr sh ow od sl en : Addr) : (shopF t pr sh ow od sl en).lookup ("entries" : Str) = some (.ref en) := by kernel_rfl
theorem sf_put (t u : Int) (pr sh ow od sl en : Addr) : putF "till" (.int u) (shopF t pr sh ow od sl en) = shopF u pr sh ow od sl en := by kernel_rfl
theorem sf_len (t : Int) (pr sh ow od sl en : Addr) : (shopF t pr sh ow od sl en).length < 1000 := by show 7 < 1000; decide
theorem sf_m (t : Int) (pr sh ow od sl en : Addr) : (shopF t pr sh ow od sl en).lookup ("check_kind" : Str) = none ∧ (shopF t pr sh ow od sl en).lookup ("find_order" : Str) = none ∧ (shopF t pr sh ow od sl en).lookup ("find_sale" : Str) = none ∧ (shopF t pr sh ow od sl en).lookup ("check_till" : Str) = none ∧
    (shopF t pr sh ow od sl en).lookup ("strike_off" : Str) = none ∧ (shopF t pr sh ow od sl en).lookup ("order" : Str) = none ∧ (shopF t pr sh ow od sl en).lookup ("came" : Str) = none ∧ (shopF t pr sh ow od sl en).lookup ("give_up" : Str) = none ∧ (shopF t pr sh ow od sl en).lookup ("sell" : Str) = none ∧ (shopF t pr sh ow od sl en).lookup ("back" : Str) = none :=
  ⟨by kernel_rfl, by kernel_rfl, by kernel_rfl, by kernel_rfl, by kernel_rfl, by kernel_rfl, by kernel_rfl, by kernel_rfl, by kernel_rfl, by kernel_rfl⟩
theorem of_kind (k o p : Int) : (ordF (k, o, p)).lookup ("kind" : Str) = some (.int k) := by kernel_rfl
theorem of_price (k o p : Int) : (ordF (k, o, p)).lookup ("price" : Str) = some (.int p) := by kernel_rfl
theorem of_owed (k o p : Int) : (ordF (k, o, p)).lookup ("owed" : Str) = some (.int o) := by kernel_rfl
theorem of_put (k o p u : Int) : putF "owed" (.int u) (ordF (k, o, p)) = ordF (k, u, p) := by kernel_rfl
theorem of_new (k o p : Int) : putF "owed" (.int o) (putF "price" (.int p) (putF "kind" (.int k) [])) = ordF (k, o, p) := by kernel_rfl
theorem of_len (r : Int × Int × Int) : (ordF r).length < 1000 := by show 3 < 1000; decide
theorem lf_kind (k o p : Int) : (saleF (k, o, p)).lookup ("kind" : Str) = some (.int k) := by kernel_rfl
theorem lf_out (k o p : Int) : (saleF (k, o, p)).lookup ("out" : Str) = some (.int o) := by kernel_rfl
theorem lf_put (k o p u : Int) : putF "out" (.int u) (saleF (k, o, p)) = saleF (k, u, p) := by kernel_rfl
theorem lf_new (k o p : Int) : putF "out" (.int o) (putF "kind" (.int k) []) = saleF (k, o, p) := by kernel_rfl
theorem lf_len (r : Int × Int × Int) : (saleF r).length < 1000 := by show 2 < 1000; decide
/-- an entry of the book -/
structure Ent where
  w : Str
  n : Int
  p : Int
  c : Int
def Ent.tup (e : Ent) : List V := [.str e.w, .int e.n, .int e.p, .int e.c]
def EntsAt (H : Hp) (es : List V) (bk : List Ent) : Prop := Paired (fun r e => ∃ t, r = V.ref t ∧ H t = some (.tup e.tup)) es bk
/-- a shop's addresses -/
structure Ad where
  (a dx pr sh ow od sl en : Addr)
  os : List Addr
  ss : List Addr
abbrev Ad.own (s : Ad) : List Addr := s.a :: s.pr :: s.sh :: s.ow :: s.od :: s.sl :: s.en :: (s.os ++ s.ss)
abbrev Ad.wo (s : Ad) (os ss : List Addr) : Ad := { s with os := os, ss := ss }
/-- the shop, and what the program keeps beside -/
structure Sx where
  m : Sh
  ow : List Int
  bk : List Ent
structure ShAt (c : Cs) (ps : List Int) (H : Hp) (s : Ad) (x : Sx) : Prop where
  ob : H s.a = some (.ins c.shop s.dx (shopF x.m.till s.pr s.sh s.ow s.od s.sl s.en))
  prices : H s.pr = some (.lst (ps.map V.int))
  shelf : H s.sh = some (.lst (x.m.shelf.map V.int))
  owed : H s.ow = some (.lst (x.ow.map V.int))
  orders : H s.od = some (.lst (s.os.map V.ref))
  sales : H s.sl = some (.lst (s.ss.map V.ref))
  ents : ∃ es, H s.en = some (.lst es) ∧ EntsAt H es x.bk
  rows : Paired (fun a r => ∃ dx, H a = some (.ins c.order dx (ordF r))) s.os x.m.orders
  srows : Paired (fun a r => ∃ dx, H a = some (.ins c.sale dx (saleF r))) s.ss x.m.sales
  nd : s.own.Nodup
section
variable {c : Cs} {ps : List Int} {H H' : Hp} {s : Ad} {x : Sx}
theorem ShAt.same (S : ShAt c ps H s x) (q : Same H H') : ShAt c ps H' s x := by
  obtain ⟨es, e1, e2⟩ := S.ents
  exact ⟨q _ _ S.ob, q _ _ S.prices, q _ _ S.shelf, q _ _ S.owed, q _ _ S.orders, q _ _ S.sales, ⟨es, q _ _ e1, Paired.mapP e2 fun r e ⟨t, h1, h2⟩ => ⟨t, h1, q _ _ h2⟩⟩, Paired.mapP S.rows fun _ _ ⟨dx, h⟩ => ⟨dx, q _ _ h⟩, Paired.mapP S.srows fun _ _ ⟨dx, h⟩ => ⟨dx, q _ _ h⟩, S.nd⟩
theorem ShAt.nds (S : ShAt c ps H s x) : (s.a ≠ s.pr ∧ s.a ≠ s.sh ∧ s.a ≠ s.ow ∧ s.a ≠ s.od ∧ s.a ≠ s.sl ∧ s.a ≠ s.en ∧ s.a ∉ s.os ∧ s.a ∉ s.ss) ∧ (s.pr ≠ s.sh ∧ s.pr ≠ s.ow ∧ s.pr ≠ s.od ∧ s.pr ≠ s.sl ∧ s.pr ≠ s.en ∧ s.pr ∉ s.os ∧ s.pr ∉ s.ss) ∧
    (s.sh ≠ s.ow ∧ s.sh ≠ s.od ∧ s.sh ≠ s.sl ∧ s.sh ≠ s.en ∧ s.sh ∉ s.os ∧ s.sh ∉ s.ss) ∧ (s.ow ≠ s.od ∧ s.ow ≠ s.sl ∧ s.ow ≠ s.en ∧ s.ow ∉ s.os ∧ s.ow ∉ s.ss) ∧ (s.od ≠ s.sl ∧ s.od ≠ s.en ∧ s.od ∉ s.os ∧ s.od ∉ s.ss) ∧
    (s.sl ≠ s.en ∧ s.sl ∉ s.os ∧ s.sl ∉ s.ss) ∧ (s.en ∉ s.os ∧ s.en ∉ s.ss) ∧ s.os.Nodup ∧ s.ss.Nodup ∧ ∀ a ∈ s.os, a ∉ s.ss := by
  have h := S.nd
  simp only [Ad.own, List.nodup_cons, List.mem_cons, List.mem_append, not_or, List.nodup_append] at h
  obtain ⟨h1, h2, h3, h4, h5, h6, h7, e1, e2, e3⟩ := h
  exact ⟨h1, h2, h3, h4, h5, h6, h7, e1, e2, fun a ha hb => e3 a ha a hb rfl⟩
theorem prow_not {C : Addr} {F : Int × Int × Int → List (Str × V)} {z : Addr} {o : HO} : ∀ {os : List Addr} {rs : List (Int × Int × Int)}, Paired (fun a r => ∃ dx, H a = some (.ins C dx (F r))) os rs → z ∉ os → Paired (fun a r => ∃ dx, upd H z o a = some (.ins C dx (F r))) os rs
  | _, _, .nil, _ => .nil
  | _, _, .cons ⟨dx, h⟩ t, n => .cons ⟨dx, by rw [upd_ne fun z => n (by rw [← z]; exact List.mem_cons_self)]; exact h⟩ (prow_not t fun z => n (List.mem_cons_of_mem _ z))
theorem prow_set {C : Addr} {F : Int × Int × Int → List (Str × V)} {z dz : Addr} {q : Int × Int × Int} : ∀ {os : List Addr} {rs : List (Int × Int × Int)} {i : Nat}, Paired (fun a r => ∃ dx, H a = some (.ins C dx (F r))) os rs → os.Nodup → os[i]? = some z →
    Paired (fun a r => ∃ dx, upd H z (.ins C dz (F q)) a = some (.ins C dx (F r))) os (rs.set i q)
  | _, _, _, .nil, _, e => by simp at e
  | _, _, 0, .cons h t, nd, e => by
    simp at e
    subst e
    exact .cons ⟨dz, upd_same⟩ (prow_not t (List.nodup_cons.mp nd).1)
  | _, _, i + 1, .cons ⟨dx, h⟩ t, nd, e => by
    have e' := (by simpa using e : _ = some z)
    refine .cons ⟨dx, ?_⟩ (prow_set t (List.nodup_cons.mp nd).2 e')
    rw [upd_ne fun z => (List.nodup_cons.mp nd).1 (by rw [z]; exact List.mem_of_getElem? e')]
    exact h
theorem prow_add {C : Addr} {F : Int × Int × Int → List (Str × V)} {z dz : Addr} {r : Int × Int × Int} : ∀ {os : List Addr} {rs : List (Int × Int × Int)}, Paired (fun a r => ∃ dx, H a = some (.ins C dx (F r))) os rs → H z = some (.ins C dz (F r)) → Paired (fun a r => ∃ dx, H a = some (.ins C dx (F r))) (os ++ [z]) (rs ++ [r])
  | _, _, .nil, e => .cons ⟨_, e⟩ .nil
  | _, _, .cons h t, e => .cons h (prow_add t e)
theorem EntsAt.off {es : List V} {bk : List Ent} {z : Addr} {o : HO} (h : EntsAt H es bk) (hz : ∀ xs, H z ≠ some (.tup xs)) : EntsAt (upd H z o) es bk :=
  Paired.mapP h fun r e ⟨t, h1, h2⟩ => ⟨t, h1, by rw [upd_ne fun q => hz _ (by rw [← q]; exact h2)]; exact h2⟩
theorem ents_off {z : Addr} {o u : HO} {bk : List Ent} (h : ∃ es, H s.en = some (.lst es) ∧ EntsAt H es bk) (hz : H z = some u) (hu : ∀ xs, u ≠ .tup xs) (n : s.en ≠ z) : ∃ es, upd H z o s.en = some (.lst es) ∧ EntsAt (upd H z o) es bk := by
  obtain ⟨es, e1, e2⟩ := h
  exact ⟨es, by rw [upd_ne n]; exact e1, e2.off fun xs q => by rw [hz] at q; exact hu xs (Option.some.inj q)⟩
theorem uo {b z : Addr} {o u : HO} (h : H b = some o) (n : b ≠ z) : upd H z u b = some o := (upd_ne n).trans h
theorem ne_mem {b z : Addr} {l : List Addr} (h : b ∉ l) (m : z ∈ l) : b ≠ z := fun e => h (by rw [e]; exact m)
theorem ShAt.setTill (S : ShAt c ps H s x) (u : Int) : ShAt c ps (upd H s.a (.ins c.shop s.dx (shopF u s.pr s.sh s.ow s.od s.sl s.en))) s ⟨{ x.m with till := u }, x.ow, x.bk⟩ := by
  obtain ⟨⟨a1, a2, a3, a4, a5, a6, a7, a8⟩, _⟩ := S.nds
  exact ⟨upd_same, uo S.prices a1.symm, uo S.shelf a2.symm, uo S.owed a3.symm, uo S.orders a4.symm, uo S.sales a5.symm, ents_off S.ents S.ob (fun _ z => nomatch z) a6.symm, prow_not S.rows a7, prow_not S.srows a8, S.nd⟩
theorem ShAt.setShelf (S : ShAt c ps H s x) (l : List Int) : ShAt c ps (upd H s.sh (.lst (l.map V.int))) s ⟨{ x.m with shelf := l }, x.ow, x.bk⟩ := by
  obtain ⟨⟨a1, a2, a3, a4, a5, a6, a7, a8⟩, ⟨b1, b2, b3, b4, b5, b6, b7⟩, ⟨c1, c2, c3, c4, c5, c6⟩, _⟩ := S.nds
  exact ⟨uo S.ob a2, uo S.prices b1, upd_same, uo S.owed c1.symm, uo S.orders c2.symm, uo S.sales c3.symm, ents_off S.ents S.shelf (fun _ z => nomatch z) c4.symm, prow_not S.rows c5, prow_not S.srows c6, S.nd⟩
theorem ShAt.setOwed (S : ShAt c ps H s x) (l : List Int) : ShAt c ps (upd H s.ow (.lst (l.map V.int))) s ⟨x.m, l, x.bk⟩ := by
  obtain ⟨⟨a1, a2, a3, a4, a5, a6, a7, a8⟩, ⟨b1, b2, b3, b4, b5, b6, b7⟩, ⟨c1, c2, c3, c4, c5, c6⟩, ⟨d1, d2, d3, d4, d5⟩, _⟩ := S.nds
  exact ⟨uo S.ob a3, uo S.prices b2, uo S.shelf c1, upd_same, uo S.orders d1.symm, uo S.sales d2.symm, ents_off S.ents S.owed (fun _ z => nomatch z) d3.symm, prow_not S.rows d4, prow_not S.srows d5, S.nd⟩
theorem ShAt.setOrder (S : ShAt c ps H s x) {i : Nat} {z dz : Addr} {o : HO} (h : s.os[i]? = some z) (hz : H z = some o) (ho : ∀ xs, o ≠ .tup xs) (r : Int × Int × Int) : ShAt c ps (upd H z (.ins c.order dz (ordF r))) s ⟨{ x.m with orders := x.m.orders.set i r }, x.ow, x.bk⟩ := by
  obtain ⟨⟨a1, a2, a3, a4, a5, a6, a7, a8⟩, ⟨b1, b2, b3, b4, b5, b6, b7⟩, ⟨c1, c2, c3, c4, c5, c6⟩, ⟨d1, d2, d3, d4, d5⟩, ⟨e1, e2, e3, e4⟩, ⟨f1, f2, f3⟩, ⟨g1, g2⟩, o1, o2, o3⟩ := S.nds
  have m := List.mem_of_getElem? h
  exact ⟨uo S.ob (ne_mem a7 m), uo S.prices (ne_mem b6 m), uo S.shelf (ne_mem c5 m), uo S.owed (ne_mem d4 m), uo S.orders (ne_mem e3 m), uo S.sales (ne_mem f2 m), ents_off S.ents hz ho (ne_mem g1 m), prow_set S.rows o1 h, prow_not S.srows (o3 z m), S.nd⟩
theorem ShAt.setSale (S : ShAt c ps H s x) {i : Nat} {z dz : Addr} {o : HO} (h : s.ss[i]? = some z) (hz : H z = some o) (ho : ∀ xs, o ≠ .tup xs) (r : Int × Int × Int) : ShAt c ps (upd H z (.ins c.sale dz (saleF r))) s ⟨{ x.m with sales := x.m.sales.set i r }, x.ow, x.bk⟩ := by
  obtain ⟨⟨a1, a2, a3, a4, a5, a6, a7, a8⟩, ⟨b1, b2, b3, b4, b5, b6, b7⟩, ⟨c1, c2, c3, c4, c5, c6⟩, ⟨d1, d2, d3, d4, d5⟩, ⟨e1, e2, e3, e4⟩, ⟨f1, f2, f3⟩, ⟨g1, g2⟩, o1, o2, o3⟩ := S.nds
  have m := List.mem_of_getElem? h
  exact ⟨uo S.ob (ne_mem a8 m), uo S.prices (ne_mem b7 m), uo S.shelf (ne_mem c6 m), uo S.owed (ne_mem d5 m), uo S.orders (ne_mem e4 m), uo S.sales (ne_mem f3 m), ents_off S.ents hz ho (ne_mem g2 m), prow_not S.rows (fun q => o3 z q m), prow_set S.srows o2 h, S.nd⟩
theorem nodup_o {p : Addr} (S : s.own.Nodup) (hp : p ∉ s.own) : (s.wo (s.os ++ [p]) s.ss).own.Nodup := by
  have q := nodup_mid (l₁ := s.a :: s.pr :: s.sh :: s.ow :: s.od :: s.sl :: s.en :: s.os) (l₂ := s.ss) (p := p) (by simpa [Ad.own] using S) (by simpa [Ad.own] using hp)
  simpa [Ad.own, Ad.wo] using q
theorem nodup_s {p : Addr} (S : s.own.Nodup) (hp : p ∉ s.own) : (s.wo s.os (s.ss ++ [p])).own.Nodup := by
  have q := nodup_mid (l₁ := s.a :: s.pr :: s.sh :: s.ow :: s.od :: s.sl :: s.en :: (s.os ++ s.ss)) (l₂ := []) (p := p) (by simpa [Ad.own] using S) (by simpa [Ad.own] using hp)
  simpa [Ad.own, Ad.wo] using q
theorem ShAt.newOrder (S : ShAt c ps H s x) {p dp : Addr} {r : Int × Int × Int} (h : H p = some (.ins c.order dp (ordF r))) (hp : p ∉ s.own) : ShAt c ps (upd H s.od (.lst (s.os.map V.ref ++ [.ref p]))) (s.wo (s.os ++ [p]) s.ss) ⟨{ x.m with orders := x.m.orders ++ [r] }, x.ow, x.bk⟩ := by
  obtain ⟨⟨a1, a2, a3, a4, a5, a6, a7, a8⟩, ⟨b1, b2, b3, b4, b5, b6, b7⟩, ⟨c1, c2, c3, c4, c5, c6⟩, ⟨d1, d2, d3, d4, d5⟩, ⟨e1, e2, e3, e4⟩, ⟨f1, f2, f3⟩, ⟨g1, g2⟩, o1, o2, o3⟩ := S.nds
  have n : p ≠ s.od := fun z => hp (by rw [z]; simp [Ad.own])
  exact ⟨uo S.ob a4, uo S.prices b3, uo S.shelf c2, uo S.owed d1, by rw [upd_same]; simp, uo S.sales e1.symm, ents_off S.ents S.orders (fun _ z => nomatch z) e2.symm, prow_add (prow_not S.rows e3) (uo h n), prow_not S.srows e4, nodup_o S.nd hp⟩
theorem ShAt.newSale (S : ShAt c ps H s x) {p dp : Addr} {r : Int × Int × Int} (h : H p = some (.ins c.sale dp (saleF r))) (hp : p ∉ s.own) : ShAt c ps (upd H s.sl (.lst (s.ss.map V.ref ++ [.ref p]))) (s.wo s.os (s.ss ++ [p])) ⟨{ x.m with sales := x.m.sales ++ [r] }, x.ow, x.bk⟩ := by
  obtain ⟨⟨a1, a2, a3, a4, a5, a6, a7, a8⟩, ⟨b1, b2, b3, b4, b5, b6, b7⟩, ⟨c1, c2, c3, c4, c5, c6⟩, ⟨d1, d2, d3, d4, d5⟩, ⟨e1, e2, e3, e4⟩, ⟨f1, f2, f3⟩, ⟨g1, g2⟩, o1, o2, o3⟩ := S.nds
  have n : p ≠ s.sl := fun z => hp (by rw [z]; simp [Ad.own])
  exact ⟨uo S.ob a5, uo S.prices b4, uo S.shelf c3, uo S.owed d2, uo S.orders e1, by rw [upd_same]; simp, ents_off S.ents S.sales (fun _ z => nomatch z) f1.symm, prow_not S.rows f2, prow_add (prow_not S.srows f3) (uo h n), nodup_s S.nd hp⟩
/-- an entry more: its tuple stands at t -/
theorem ShAt.newEnt (S : ShAt c ps H s x) {t : Addr} {e : Ent} (h : H t = some (.tup e.tup)) : ∃ es, H s.en = some (.lst es) ∧ es.length = x.bk.length ∧ ShAt c ps (upd H s.en (.lst (es ++ [.ref t]))) s ⟨x.m, x.ow, x.bk ++ [e]⟩ := by
  obtain ⟨⟨a1, a2, a3, a4, a5, a6, a7, a8⟩, ⟨b1, b2, b3, b4, b5, b6, b7⟩, ⟨c1, c2, c3, c4, c5, c6⟩, ⟨d1, d2, d3, d4, d5⟩, ⟨e1, e2, e3, e4⟩, ⟨f1, f2, f3⟩, ⟨g1, g2⟩, o1, o2, o3⟩ := S.nds
  obtain ⟨es, q1, q2⟩ := S.ents
  refine ⟨es, q1, Paired.length q2, ⟨uo S.ob a6, uo S.prices b5, uo S.shelf c4, uo S.owed d3, uo S.orders e2, uo S.sales f1, ⟨_, upd_same, ?_⟩, prow_not S.rows g1, prow_not S.srows g2, S.nd⟩⟩
  have q3 := EntsAt.off (z := s.en) (o := .lst (es ++ [.ref t])) q2 fun xs z => by rw [q1] at z; cases z
  have q4 : EntsAt (upd H s.en (.lst (es ++ [.ref t]))) [.ref t] [e] := .cons ⟨t, rfl, uo h (ne_of h q1 (fun z => nomatch z))⟩ .nil
  exact EntsAt.app q3 q4
where
  EntsAt.app {H : Hp} : ∀ {rs rs' : List V} {ds ds' : List Ent}, EntsAt H rs ds → EntsAt H rs' ds' → EntsAt H (rs ++ rs') (ds ++ ds')
  | _, _, _, _, .nil, h => h
  | _, _, _, _, .cons e t, h => .cons e (EntsAt.app t h)
theorem prow_there {C : Addr} {F : Int × Int × Int → List (Str × V)} : ∀ {os : List Addr} {rs : List (Int × Int × Int)}, Paired (fun a r => ∃ dx, H a = some (.ins C dx (F r))) os rs → ∀ a ∈ os, ∃ dx fs, H a = some (.ins C dx fs)
  | _, _, .nil, _, h => by simp at h
  | _, _, .cons ⟨dx, e⟩ t, a, h => by
    rcases List.mem_cons.mp h with rfl | h
    · exact ⟨_, _, e⟩
    · exact prow_there t a h
theorem ShAt.there (S : ShAt c ps H s x) : ∀ a ∈ s.own, ∃ o, H a = some o ∧ ∀ xs, o ≠ .tup xs := fun a h => by
  simp only [Ad.own, List.mem_cons, List.mem_append] at h
  obtain ⟨es, q1, _⟩ := S.ents
  rcases h with rfl | rfl | rfl | rfl | rfl | rfl | rfl | h | h
  · exact ⟨_, S.ob, fun _ z => nomatch z⟩
  · exact ⟨_, S.prices, fun _ z => nomatch z⟩
  · exact ⟨_, S.shelf, fun _ z => nomatch z⟩
  · exact ⟨_, S.owed, fun _ z => nomatch z⟩
  · exact ⟨_, S.orders, fun _ z => nomatch z⟩
  · exact ⟨_, S.sales, fun _ z => nomatch z⟩
  · exact ⟨_, q1, fun _ z => nomatch z⟩
  · obtain ⟨dx, fs, e⟩ := prow_there S.rows a h
    exact ⟨_, e, fun _ z => nomatch z⟩
  · obtain ⟨dx, fs, e⟩ := prow_there S.srows a h
    exact ⟨_, e, fun _ z => nomatch z⟩
theorem ShAt.fresh (S : ShAt c ps H s x) {p : Addr} (h : H p = none) : p ∉ s.own := fun z => by
  obtain ⟨o, e, _⟩ := S.there p z
  rw [h] at e
  cases e
theorem ShAt.off (S : ShAt c ps H s x) {z : Addr} {u o : HO} (hz : H z = some u) (hu : ∀ xs, u ≠ .tup xs) (n : z ∉ s.own) : ShAt c ps (upd H z o) s x := by
  simp only [Ad.own, List.mem_cons, List.mem_append, not_or] at n
  obtain ⟨n1, n2, n3, n4, n5, n6, n7, n8, n9⟩ := n
  exact ⟨uo S.ob (Ne.symm n1), uo S.prices (Ne.symm n2), uo S.shelf (Ne.symm n3), uo S.owed (Ne.symm n4), uo S.orders (Ne.symm n5), uo S.sales (Ne.symm n6), ents_off S.ents hz hu (Ne.symm n7), prow_not S.rows n8, prow_not S.srows n9, S.nd⟩
theorem ShAt.order (S : ShAt c ps H s x) {o : Int} {r : Int × Int × Int} (h : at? x.m.orders o = some r) : ∃ a dx, atI (s.os.map V.ref) o = some (.ref a) ∧ H a = some (.ins c.order dx (ordF r)) ∧ s.os[o.toNat]? = some a := by
  obtain ⟨h0, h1, h2⟩ := at?_some h
  obtain ⟨a, e1, dx, e2⟩ := Paired.at S.rows h2
  exact ⟨a, dx, atI_ref h0 e1, e2, e1⟩
theorem ShAt.sale (S : ShAt c ps H s x) {o : Int} {r : Int × Int × Int} (h : at? x.m.sales o = some r) : ∃ a dx, atI (s.ss.map V.ref) o = some (.ref a) ∧ H a = some (.ins c.sale dx (saleF r)) ∧ s.ss[o.toNat]? = some a := by
  obtain ⟨h0, h1, h2⟩ := at?_some h
  obtain ⟨a, e1, dx, e2⟩ := Paired.at S.srows h2
  exact ⟨a, dx, atI_ref h0 e1, e2, e1⟩
theorem ShAt.olen (S : ShAt c ps H s x) : s.os.length = x.m.orders.length := Paired.length S.rows
theorem ShAt.slen (S : ShAt c ps H s x) : s.ss.length = x.m.sales.length := Paired.length S.srows
theorem ShAt.f_till (S : ShAt c ps H s x) : fd c.shop H "till" (.ref s.a) = some (.int x.m.till) := (fd_ins S.ob).trans (sf_till ..)
theorem ShAt.f_prices (S : ShAt c ps H s x) : fd c.shop H "prices" (.ref s.a) = some (.ref s.pr) := (fd_ins S.ob).trans (sf_prices ..)
theorem ShAt.f_shelf (S : ShAt c ps H s x) : fd c.shop H "shelf" (.ref s.a) = some (.ref s.sh) := (fd_ins S.ob).trans (sf_shelf ..)
theorem ShAt.f_owed (S : ShAt c ps H s x) : fd c.shop H "owed" (.ref s.a) = some (.ref s.ow) := (fd_ins S.ob).trans (sf_owed ..)
theorem ShAt.f_orders (S : ShAt c ps H s x) : fd c.shop H "orders" (.ref s.a) = some (.ref s.od) := (fd_ins S.ob).trans (sf_orders ..)
theorem ShAt.f_sales (S : ShAt c ps H s x) : fd c.shop H "sales" (.ref s.a) = some (.ref s.sl) := (fd_ins S.ob).trans (sf_sales ..)
theorem ShAt.f_entries (S : ShAt c ps H s x) : fd c.shop H "entries" (.ref s.a) = some (.ref s.en) := (fd_ins S.ob).trans (sf_entries ..)
theorem ShAt.k_till (S : ShAt c ps H s x) {Q : VK} : kFldC c.shop "till" Q (.ref s.a) H = Q (.int x.m.till) H := kF S.f_till
theorem ShAt.k_prices (S : ShAt c ps H s x) {Q : VK} : kFldC c.shop "prices" Q (.ref s.a) H = Q (.ref s.pr) H := kF S.f_prices
theorem ShAt.k_shelf (S : ShAt c ps H s x) {Q : VK} : kFldC c.shop "shelf" Q (.ref s.a) H = Q (.ref s.sh) H := kF S.f_shelf
theorem ShAt.k_owed (S : ShAt c ps H s x) {Q : VK} : kFldC c.shop "owed" Q (.ref s.a) H = Q (.ref s.ow) H := kF S.f_owed
theorem ShAt.k_orders (S : ShAt c ps H s x) {Q : VK} : kFldC c.shop "orders" Q (.ref s.a) H = Q (.ref s.od) H := kF S.f_orders
theorem ShAt.k_sales (S : ShAt c ps H s x) {Q : VK} : kFldC c.shop "sales" Q (.ref s.a) H = Q (.ref s.sl) H := kF S.f_sales
theorem ShAt.k_entries (S : ShAt c ps H s x) {Q : VK} : kFldC c.shop "entries" Q (.ref s.a) H = Q (.ref s.en) H := kF S.f_entries
theorem ShAt.i_till (S : ShAt c ps H s x) {g : Int → Int → Int} {tb : TE} {D : Ends} {σ : St} : kFi1 c.shop g tb "till" D σ (.ref s.a) H = tb σ H (kFi2 c.shop g "till" D σ (.ref s.a) (.int x.m.till)) := kFi S.f_till
theorem ShAt.s_till (S : ShAt c ps H s x) {g : Int → Int → Int} {D : Ends} {σ : St} {i j : Int} : kFi2 c.shop g "till" D σ (.ref s.a) (.int i) (.int j) H = D.nx σ (upd H s.a (.ins c.shop s.dx (shopF (g i j) s.pr s.sh s.ow s.od s.sl s.en))) := by
  rw [kFi' S.ob (sf_len ..), sf_put]
section
variable {a dx : Addr} {k o p : Int}
theorem o_kind (h : H a = some (.ins c.order dx (ordF (k, o, p)))) {Q : VK} : kFldC c.order "kind" Q (.ref a) H = Q (.int k) H := kF ((fd_ins h).trans (of_kind ..))
theorem o_price (h : H a = some (.ins c.order dx (ordF (k, o, p)))) {Q : VK} : kFldC c.order "price" Q (.ref a) H = Q (.int p) H := kF ((fd_ins h).trans (of_price ..))
theorem o_owed (h : H a = some (.ins c.order dx (ordF (k, o, p)))) {Q : VK} : kFldC c.order "owed" Q (.ref a) H = Q (.int o) H := kF ((fd_ins h).trans (of_owed ..))
theorem o_iowed (h : H a = some (.ins c.order dx (ordF (k, o, p)))) {g : Int → Int → Int} {tb : TE} {D : Ends} {σ : St} : kFi1 c.order g tb "owed" D σ (.ref a) H = tb σ H (kFi2 c.order g "owed" D σ (.ref a) (.int o)) := kFi ((fd_ins h).trans (of_owed ..))
theorem o_sowed (h : H a = some (.ins c.order dx (ordF (k, o, p)))) {g : Int → Int → Int} {D : Ends} {σ : St} {i j : Int} : kFi2 c.order g "owed" D σ (.ref a) (.int i) (.int j) H = D.nx σ (upd H a (.ins c.order dx (ordF (k, g i j, p)))) := by
  rw [kFi' h (of_len _), of_put]
theorem l_kind (h : H a = some (.ins c.sale dx (saleF (k, o, p)))) {Q : VK} : kFldC c.sale "kind" Q (.ref a) H = Q (.int k) H := kF ((fd_ins h).trans (lf_kind k o p))
theorem l_out (h : H a = some (.ins c.sale dx (saleF (k, o, p)))) {Q : VK} : kFldC c.sale "out" Q (.ref a) H = Q (.int o) H := kF ((fd_ins h).trans (lf_out k o p))
theorem l_iout (h : H a = some (.ins c.sale dx (saleF (k, o, p)))) {g : Int → Int → Int} {tb : TE} {D : Ends} {σ : St} : kFi1 c.sale g tb "out" D σ (.ref a) H = tb σ H (kFi2 c.sale g "out" D σ (.ref a) (.int o)) := kFi ((fd_ins h).trans (lf_out k o p))
theorem l_sout (h : H a = some (.ins c.sale dx (saleF (k, o, p)))) {g : Int → Int → Int} {D : Ends} {σ : St} {i j : Int} : kFi2 c.sale g "out" D σ (.ref a) (.int i) (.int j) H = D.nx σ (upd H a (.ins c.sale dx (saleF (k, g i j, p)))) := by
  rw [kFi' h (lf_len _), lf_put k o p]
end
theorem ShAt.m_check_kind (S : ShAt c ps H s x) : isM c.shop H "check_kind" (.ref s.a) = true := isM_ins S.ob (sf_m ..).1
theorem ShAt.m_find_order (S : ShAt c ps H s x) : isM c.shop H "find_order" (.ref s.a) = true := isM_ins S.ob (sf_m ..).2.1
theorem ShAt.m_find_sale (S : ShAt c ps H s x) : isM c.shop H "find_sale" (.ref s.a) = true := isM_ins S.ob (sf_m ..).2.2.1
theorem ShAt.m_check_till (S : ShAt c ps H s x) : isM c.shop H "check_till" (.ref s.a) = true := isM_ins S.ob (sf_m ..).2.2.2.1
theorem ShAt.m_strike_off (S : ShAt c ps H s x) : isM c.shop H "strike_off" (.ref s.a) = true := isM_ins S.ob (sf_m ..).2.2.2.2.1
theorem ShAt.m_order (S : ShAt c ps H s x) : isM c.shop H "order" (.ref s.a) = true := isM_ins S.ob (sf_m ..).2.2.2.2.2.1
theorem ShAt.m_came (S : ShAt c ps H s x) : isM c.shop H "came" (.ref s.a) = true := isM_ins S.ob (sf_m ..).2.2.2.2.2.2.1
theorem ShAt.m_give_up (S : ShAt c ps H s x) : isM c.shop H "give_up" (.ref s.a) = true := isM_ins S.ob (sf_m ..).2.2.2.2.2.2.2.1
theorem ShAt.m_sell (S : ShAt c ps H s x) : isM c.shop H "sell" (.ref s.a) = true := isM_ins S.ob (sf_m ..).2.2.2.2.2.2.2.2.1
theorem ShAt.m_back (S : ShAt c ps H s x) : isM c.shop H "back" (.ref s.a) = true := isM_ins S.ob (sf_m ..).2.2.2.2.2.2.2.2.2
end
/-! ### what a deed does to it -/
def owedAfter (m : Sh) (ow : List Int) : Deed → List Int
  | .order k p _ => addAt ow k p
  | .came o p b => addAt ow (m.orders.getD o.toNat (0, 0, 0)).1 (-(p - b))
  | .giveUp o => addAt ow (m.orders.getD o.toNat (0, 0, 0)).1 (-(m.orders.getD o.toNat (0, 0, 0)).2.1)
  | _ => ow
def entryOf (ps : List Int) (m : Sh) : Deed → Ent
  | .order _ p _ => ⟨"ordered", m.orders.length, p, 0⟩
  | .came o p b => ⟨"came", o, p - b, (p - b) * (m.orders.getD o.toNat (0, 0, 0)).2.2⟩
  | .giveUp o => ⟨"given up", o, (m.orders.getD o.toNat (0, 0, 0)).2.1, 0⟩
  | .sell k p => ⟨"sold", m.sales.length, p, p * ps.getD k.toNat 0⟩
  | .back s p => ⟨"back", s, p, p * (m.sales.getD s.toNat (0, 0, 0)).2.2⟩
def doneX (ps : List Int) (x : Sx) (d : Deed) : Sx := ⟨(did ps x.m d).2, owedAfter x.m x.ow d, x.bk ++ [entryOf ps x.m d]⟩
def stepX (ps : List Int) (x : Sx) (d : Deed) : Sx := match refusal x.m d with
  | some _ => x
  | none => doneX ps x d
def afterX (ps : List Int) : Sx → List Deed → Sx
  | x, [] => x
  | x, d :: r => afterX ps (stepX ps x d) r
def newX (t : Int) (n : Nat) : Sx := ⟨new t n, List.replicate n 0, []⟩
theorem stepX_m (ps : List Int) (x : Sx) (d : Deed) : (stepX ps x d).m = (step ps x.m d).2 := by
  unfold stepX Sb.step
  cases refusal x.m d <;> rfl
theorem afterX_append (ps : List Int) : ∀ (ds es : List Deed) (x : Sx), afterX ps x (ds ++ es) = afterX ps (afterX ps x ds) es
  | [], _, _ => rfl
  | d :: r, es, x => afterX_append ps r es _
theorem afterX_m (ps : List Int) : ∀ (ds : List Deed) (x : Sx), (afterX ps x ds).m = after ps x.m ds
  | [], _ => rfl
  | d :: r, x => by
    show (afterX ps (stepX ps x d) r).m = after ps (step ps x.m d).2 r
    rw [afterX_m ps r, stepX_m]
theorem afterX_bk (ps : List Int) : ∀ (ds : List Deed) (x : Sx), (afterX ps x ds).bk.length ≤ x.bk.length + ds.length
  | [], _ => Nat.le_refl _
  | d :: r, x => by
    have h := afterX_bk ps r (stepX ps x d)
    have h2 : (stepX ps x d).bk.length ≤ x.bk.length + 1 := by
      unfold stepX
      split
      · omega
      · simp [doneX]
    show (afterX ps (stepX ps x d) r).bk.length ≤ _
    rw [List.length_cons]
    omega
/-- what holds of it -/
structure Wx (n : Nat) (ps : List Int) (x : Sx) : Prop where
  wf : Wf n x.m
  ow : x.ow.length = n
  pl : ps.length = n
  psm : ∀ p ∈ ps, Sm p
  sp : ∀ r ∈ x.m.sales, r.2.2 = ps.getD r.1.toNat 0
theorem Wx.new {t : Int} {ps : List Int} (h : ∀ p ∈ ps, Sm p) : Wx ps.length ps (newX t ps.length) := ⟨Wf.new t _, by simp [newX], rfl, h, by simp [newX, Sb.new]⟩
theorem Wx.done {n : Nat} {ps : List Int} {x : Sx} {d : Deed} (w : Wx n ps x) (ok : d.ok) (hr : refusal x.m d = none) : Wx n ps (doneX ps x d) := by
  refine ⟨w.wf.did ok hr w.psm, ?_, w.pl, w.psm, ?_⟩
  · cases d <;> simp [doneX, owedAfter, addAt_length, w.ow]
  · cases d with
    | order k p c => exact w.sp
    | sell k p =>
      intro r hm
      rcases List.mem_append.mp hm with hm | hm
      · exact w.sp r hm
      · rw [List.mem_singleton] at hm
        subst hm
        rfl
    | came o p b => exact w.sp
    | giveUp o => exact w.sp
    | back s p =>
      simp only [refusal] at hr
      split at hr
      · cases hr
      · rename_i k out price e
        obtain ⟨g1, g2⟩ := getD_at (z := (0, 0, 0)) e
        intro r hm
        simp only [doneX, Sb.did, g1] at hm
        rcases mem_set hm with hm | rfl
        · exact w.sp r hm
        · exact w.sp (k, out, price) g2
theorem Wx.step {n : Nat} {ps : List Int} {x : Sx} {d : Deed} (w : Wx n ps x) (ok : d.ok) : Wx n ps (stepX ps x d) := by
  unfold stepX
  split
  · exact w
  · rename_i e
    exact w.done ok e
/-- what a deed asks for -/
structure Pre (c : Cs) (n : Nat) (ps : List Int) (H : Hp) (s : Ad) (x : Sx) (d : Deed) : Prop where
  at_ : ShAt c ps H s x
  wf : Wx n ps x
  ok : d.ok
  lo : x.m.orders.length < 900
  ls : x.m.sales.length < 900
  lb : x.bk.length < 900
/-- done or refused -/
def AfterX (c : Cs) (ps : List Int) (H : Hp) (s : Ad) (x : Sx) (d : Deed) (Q : VK) (E : XK) : Prop := match refusal x.m d with
  | some w => E (.ref (c.w w)) none H
  | none => ∀ (H' : Hp) (os ss : List Addr), ShAt c ps H' (s.wo os ss) (doneX ps x d) → Kept H H' s.own (s.wo os ss).own → Q (.int (did ps x.m d).1) H'
theorem AfterX.no {c : Cs} {ps : List Int} {H : Hp} {s : Ad} {x : Sx} {d : Deed} {Q : VK} {E : XK} {w : W} (h : AfterX c ps H s x d Q E) (e : refusal x.m d = some w) : E (.ref (c.w w)) none H := by
  unfold AfterX at h
  rw [e] at h
  exact h
theorem AfterX.yes {c : Cs} {ps : List Int} {H : Hp} {s : Ad} {x : Sx} {d : Deed} {Q : VK} {E : XK} (h : AfterX c ps H s x d Q E) (e : refusal x.m d = none) :
    ∀ (H' : Hp) (os ss : List Addr), ShAt c ps H' (s.wo os ss) (doneX ps x d) → Kept H H' s.own (s.wo os ss).own → Q (.int (did ps x.m d).1) H' := by
  unfold AfterX at h
  rw [e] at h
  exact h
theorem Kept.same' {H H' : Hp} {o : List Addr} (q : Same H H') : Kept H H' o o := ⟨fun b u e _ => q b u e, fun b h => .inl h⟩
theorem Kept.trans {H H1 H2 : Hp} {o o1 o2 : List Addr} (a : Kept H H1 o o1) (b : Kept H1 H2 o1 o2) : Kept H H2 o o2 :=
  ⟨fun z u e n => b.same z u (a.same z u e n) fun m => (a.new z m).elim n fun q => (by rw [e] at q; cases q), fun z m => (b.new z m).elim (a.new z) fun q => by
    by_cases h : z ∈ o
    · exact .inl h
    · refine .inr ?_
      cases e : H z with
      | none => rfl
      | some u => rw [a.same z u e h] at q; cases q⟩
theorem wo_o {s : Ad} {p : Addr} : ∀ b ∈ (s.wo (s.os ++ [p]) s.ss).own, b ∈ s.own ∨ b = p := fun b h => by
  simp only [Ad.own, Ad.wo, List.mem_cons, List.mem_append, List.not_mem_nil, or_false] at h ⊢
  rcases h with h | h | h | h | h | h | h | (h | h) | h <;> simp [h]
theorem wo_s {s : Ad} {p : Addr} : ∀ b ∈ (s.wo s.os (s.ss ++ [p])).own, b ∈ s.own ∨ b = p := fun b h => by
  simp only [Ad.own, Ad.wo, List.mem_cons, List.mem_append, List.not_mem_nil, or_false] at h ⊢
  rcases h with h | h | h | h | h | h | h | h | h | h <;> simp [h]
theorem after_lens (ps : List Int) : ∀ (ds : List Deed) (m : Sh), (after ps m ds).orders.length ≤ m.orders.length + ds.length ∧ (after ps m ds).sales.length ≤ m.sales.length + ds.length
  | [], _ => ⟨Nat.le_refl _, Nat.le_refl _⟩
  | d :: r, m => by
    have h := after_lens ps r (Sb.step ps m d).2
    have h2 : (Sb.step ps m d).2.orders.length ≤ m.orders.length + 1 ∧ (Sb.step ps m d).2.sales.length ≤ m.sales.length + 1 := by
      unfold Sb.step
      split
      · exact ⟨Nat.le_succ _, Nat.le_succ _⟩
      · exact did_lens ps m d
    rw [List.length_cons]
    show (after ps (Sb.step ps m d).2 r).orders.length ≤ _ ∧ (after ps (Sb.step ps m d).2 r).sales.length ≤ _
    omega
/-- the shop behind some of the deeds, as a day goes on: H0 what was there when the shop was made -/
structure Day (c : Cs) (ps : List Int) (t : Int) (H0 H : Hp) (s : Ad) (ds : List Deed) (i : Nat) : Prop where
  at_ : ShAt c ps H s (afterX ps (newX t ps.length) (ds.take i))
  wf : Wx ps.length ps (afterX ps (newX t ps.length) (ds.take i))
  same : Same H0 H
  new : ∀ b ∈ s.own, H0 b = none
theorem Day.pre {c : Cs} {ps : List Int} {t : Int} {H0 H : Hp} {s : Ad} {ds : List Deed} {i : Nat} {d : Deed} (Y : Day c ps t H0 H s ds i) (ok : d.ok) (hl : ds.length ≤ 71) : Pre c ps.length ps H s (afterX ps (newX t ps.length) (ds.take i)) d := by
  have h1 := after_lens ps (ds.take i) (newX t ps.length).m
  have h2 := afterX_bk ps (ds.take i) (newX t ps.length)
  have h3 : (ds.take i).length ≤ 71 := by rw [List.length_take]; omega
  have e := afterX_m ps (ds.take i) (newX t ps.length)
  have z1 : (newX t ps.length).m.orders.length = 0 := rfl
  have z2 : (newX t ps.length).m.sales.length = 0 := rfl
  have z3 : (newX t ps.length).bk.length = 0 := rfl
  exact ⟨Y.at_, Y.wf, ok, by rw [e]; omega, by rw [e]; omega, by omega⟩
theorem Day.next {c : Cs} {ps : List Int} {t : Int} {H0 H H' : Hp} {s : Ad} {ds : List Deed} {i : Nat} {d : Deed} {os ss : List Addr} (Y : Day c ps t H0 H s ds i) (ok : d.ok) (hd : ds[i]? = some d)
    (S : ShAt c ps H' (s.wo os ss) (stepX ps (afterX ps (newX t ps.length) (ds.take i)) d)) (K : Kept H H' s.own (s.wo os ss).own) : Day c ps t H0 H' (s.wo os ss) ds (i + 1) := by
  have e : afterX ps (newX t ps.length) (ds.take (i + 1)) = stepX ps (afterX ps (newX t ps.length) (ds.take i)) d := by rw [take_at hd, afterX_append]; rfl
  refine ⟨by rw [e]; exact S, by rw [e]; exact Y.wf.step ok, fun b u q => K.same b u (Y.same b u q) fun z => ?_, fun b hb => ?_⟩
  · rw [Y.new b z] at q; cases q
  · rcases K.new b hb with z | z
    · exact Y.new b z
    · exact Y.same.free z
/-! ### the states of a day -/
def runX (ps : List Int) : Sx → List Deed → List Sx
  | _, [] => []
  | x, d :: r => stepX ps x d :: runX ps (stepX ps x d) r
theorem runX_append (ps : List Int) : ∀ (ds es : List Deed) (x : Sx), runX ps x (ds ++ es) = runX ps x ds ++ runX ps (afterX ps x ds) es
  | [], _, _ => rfl
  | d :: r, es, x => by
    show stepX ps x d :: runX ps (stepX ps x d) (r ++ es) = stepX ps x d :: (runX ps (stepX ps x d) r ++ runX ps (afterX ps (stepX ps x d) r) es)
    rw [runX_append ps r es]
theorem runX_length (ps : List Int) : ∀ (ds : List Deed) (x : Sx), (runX ps x ds).length = ds.length
  | [], _ => rfl
  | d :: r, x => by rw [runX, List.length_cons, List.length_cons, runX_length ps r]
theorem runX_take {ps : List Int} {ds : List Deed} {i : Nat} {d : Deed} {x : Sx} (h : ds[i]? = some d) : runX ps x (ds.take (i + 1)) = runX ps x (ds.take i) ++ [stepX ps (afterX ps x (ds.take i)) d] := by
  rw [take_at h, runX_append]
  rfl
theorem runX_get {ps : List Int} : ∀ {ds : List Deed} {i : Nat} {d : Deed} {x : Sx}, ds[i]? = some d → (runX ps x ds)[i]? = some (stepX ps (afterX ps x (ds.take i)) d)
  | [], _, _, _, h => by simp at h
  | d :: r, 0, _, _, h => by simp at h; subst h; rfl
  | d :: r, i + 1, e, x, h => by
    have h' : r[i]? = some e := by simpa using h
    show (runX ps (stepX ps x d) r)[i]? = _
    rw [runX_get h']
    rfl
/-- a state as it is told: a tuple of the till, the shelf and what is owed -/
def StAt (H : Hp) (o : List Addr) (r : V) (x : Sx) : Prop := ∃ p q1 q2, r = .ref p ∧ H p = some (.tup [.int x.m.till, .ref q1, .ref q2]) ∧ H q1 = some (.lst (x.m.shelf.map V.int)) ∧ H q2 = some (.lst (x.ow.map V.int)) ∧ p ∉ o ∧ q1 ∉ o ∧ q2 ∉ o
def StsAt (H : Hp) (o : List Addr) (rs : List V) (xs : List Sx) : Prop := Paired (StAt H o) rs xs
theorem Kept.stay {H H' : Hp} {o o' : List Addr} (k : Kept H H' o o') {b : Addr} {u : HO} (h : H b = some u) (n : b ∉ o) : H' b = some u ∧ b ∉ o' :=
  ⟨k.same b u h n, fun m => (k.new b m).elim n fun q => by rw [h] at q; cases q⟩
theorem StsAt.kept {H H' : Hp} {o o' : List Addr} {rs : List V} {xs : List Sx} (h : StsAt H o rs xs) (k : Kept H H' o o') : StsAt H' o' rs xs :=
  Paired.mapP h fun r x ⟨p, q1, q2, e, h1, h2, h3, n1, n2, n3⟩ => ⟨p, q1, q2, e, (k.stay h1 n1).1, (k.stay h2 n2).1, (k.stay h3 n3).1, (k.stay h1 n1).2, (k.stay h2 n2).2, (k.stay h3 n3).2⟩
theorem StsAt.app {H : Hp} {o : List Addr} : ∀ {rs rs' : List V} {ds ds' : List Sx}, StsAt H o rs ds → StsAt H o rs' ds' → StsAt H o (rs ++ rs') (ds ++ ds')
  | _, _, _, _, .nil, h => h
  | _, _, _, _, .cons e t, h => .cons e (StsAt.app t h)
theorem Kept.cons {H H' : Hp} {o o' : List Addr} (k : Kept H H' o o') (l : Addr) : Kept H H' (l :: o) (l :: o') :=
  ⟨fun b u e n => k.same b u e fun m => n (List.mem_cons_of_mem _ m), fun b m => by
    rcases List.mem_cons.mp m with rfl | m
    · exact .inl (List.mem_cons_self ..)
    · exact (k.new b m).elim (fun q => .inl (List.mem_cons_of_mem _ q)) .inr⟩
theorem StsAt.none {H : Hp} {o : List Addr} {rs : List V} {xs : List Sx} (h : StsAt H o rs xs) : StsAt H [] rs xs :=
  Paired.mapP h fun r x ⟨p, q1, q2, e, h1, h2, h3, n1, n2, n3⟩ => ⟨p, q1, q2, e, h1, h2, h3, by simp, by simp, by simp⟩
def DayPre (H : Hp) (t : Int) (a b : Addr) (ps : List Int) (rs : List V) (ds : List Deed) : Prop := 0 ≤ t ∧ Sm t ∧ H a = some (.lst (ps.map V.int)) ∧ 1 ≤ ps.length ∧ ps.length ≤ 10 ∧ (∀ x ∈ ps, 0 ≤ x ∧ Sm x) ∧ H b = some (.lst rs) ∧ DeedsAt H rs ds ∧ (∀ d ∈ ds, d.ok) ∧ ds.length ≤ 71
/-- the last of a deed: its entry -/
theorem ent_end {c : Cs} {ps : List Int} {H : Hp} {s : Ad} {x : Sx} {t : Addr} (S : ShAt c ps H s x) (ht : H t = none) (e : Ent) (lb : x.bk.length < 900) {o : List Addr} {H0 : Hp} (K : Kept H0 H o s.own) (hs : t ∉ o) {P : Hp → Prop}
    (h : ∀ H', ShAt c ps H' s ⟨x.m, x.ow, x.bk ++ [e]⟩ → Kept H0 H' o s.own → P H') : ∃ es, upd H t (.tup e.tup) s.en = some (.lst es) ∧ es.length < sizeLine ∧ P (upd (upd H t (.tup e.tup)) s.en (.lst (es ++ [.ref t]))) := by
  obtain ⟨es, e1, e2, S2⟩ := (S.same (upd_self (o := .tup e.tup) ht)).newEnt (t := t) (e := e) upd_same
  exact ⟨es, e1, small1000 (by omega), h _ S2 ((K.add (u := .tup e.tup) ht hs fun b hb => .inl hb).upd (a := s.en) (by simp [Ad.own]))⟩
theorem Kept.out {H H' : Hp} {o o' : List Addr} (K : Kept H H' o o') {t : Addr} (h : H' t = none) (hx : ∀ b ∈ o, ∃ u, H' b = some u) : t ∉ o := fun m => by
  obtain ⟨u, e⟩ := hx t m
  rw [h] at e
  cases e
theorem sub_own {s : Ad} {os ss : List Addr} (h1 : ∀ b ∈ s.os, b ∈ os) (h2 : ∀ b ∈ s.ss, b ∈ ss) : ∀ b ∈ s.own, b ∈ (s.wo os ss).own := fun b h => by
  simp only [Ad.own, Ad.wo, List.mem_cons, List.mem_append] at h ⊢
  rcases h with h | h | h | h | h | h | h | h | h
  · simp [h]
  · simp [h]
  · simp [h]
  · simp [h]
  · simp [h]
  · simp [h]
  · simp [h]
  · exact .inr (.inr (.inr (.inr (.inr (.inr (.inr (.inl (h1 b h))))))))
  · exact .inr (.inr (.inr (.inr (.inr (.inr (.inr (.inr (h2 b h))))))))
theorem ShAt.out {c : Cs} {ps : List Int} {H : Hp} {s : Ad} {x : Sx} {os ss : List Addr} (S : ShAt c ps H (s.wo os ss) x) (h1 : ∀ b ∈ s.os, b ∈ os) (h2 : ∀ b ∈ s.ss, b ∈ ss) {t : Addr} (h : H t = none) : t ∉ s.own := fun m => S.fresh h (sub_own h1 h2 t m)
theorem getD_of {l : List Int} {i : Nat} {v : Int} (h : l[i]? = some v) : l.getD i 0 = v := by rw [List.getD, h]; rfl
end Sb

namespace Sb
open PySem L2
/-! ### == and != of data that are alike -/
mutual
def trD : Tr → PyData
  | .int i => .int i
  | .str s => .str s
  | .lst ts => .list (trDs ts)
  | .tup ts => .tuple (trDs ts)
def trDs : List Tr → List PyData
  | [] => []
  | t :: ts => trD t :: trDs ts
end
mutual
def fine : Nat → Tr → Prop
  | _, .int _ => True
  | _, .str s => PyData.strOk s = true
  | 0, .lst _ => False
  | 0, .tup _ => False
  | d + 1, .lst ts => fines d ts
  | d + 1, .tup ts => fines d ts
def fines : Nat → List Tr → Prop
  | _, [] => True
  | d, t :: ts => fine d t ∧ fines d ts
end
mutual
theorem fine_lay : ∀ {d : Nat} {t : Tr}, fine d t → (trD t).canLay0 = true ∧ (trD t).depth ≤ d
  | _, .int _, _ => ⟨rfl, Nat.zero_le _⟩
  | _, .str s, h => ⟨h, Nat.zero_le _⟩
  | 0, .lst _, h => h.elim
  | 0, .tup _, h => h.elim
  | d + 1, .lst ts, h => by
    obtain ⟨h1, h2⟩ := fines_lay (d := d) (ts := ts) h
    exact ⟨h1, Nat.succ_le_succ h2⟩
  | d + 1, .tup ts, h => by
    obtain ⟨h1, h2⟩ := fines_lay (d := d) (ts := ts) h
    exact ⟨h1, Nat.succ_le_succ h2⟩
theorem fines_lay : ∀ {d : Nat} {ts : List Tr}, fines d ts → PyData.canLayAll0 (trDs ts) = true ∧ PyData.depthAll (trDs ts) ≤ d
  | _, [], _ => ⟨rfl, Nat.zero_le _⟩
  | d, t :: ts, h => by
    obtain ⟨h1, h2⟩ := fine_lay (d := d) (t := t) h.1
    obtain ⟨h3, h4⟩ := fines_lay (d := d) (ts := ts) h.2
    refine ⟨?_, Nat.max_le.mpr ⟨h2, h4⟩⟩
    show ((trD t).canLay0 && PyData.canLayAll0 (trDs ts)) = true
    rw [h1, h3]
    rfl
end
section
variable {X : Cx} {pins : List (Addr × Obj)} {σ : St} {H : Hp} {s : Shared}
mutual
theorem Has.reads (I : Inv X pins σ H s) : ∀ {x : V} {t : Tr} {u : Value}, Has H x t → RelV x u → ∃ as, Reads s.heap u (trD t) as
  | _, _, _, .int i, r => by
    obtain ⟨t, rfl⟩ := r
    exact ⟨[], .int i t⟩
  | _, _, _, .str i, r => by
    obtain ⟨t, rfl⟩ := r
    exact ⟨[], .str i t⟩
  | _, _, _, .lst e h, r => by
    cases r
    obtain ⟨its, n, rv, ho, _⟩ := I.lst e
    obtain ⟨as, ra⟩ := HasAll.reads I h rv
    exact ⟨_, .list ho rfl rfl (by simpa using ra)⟩
  | _, _, _, .tup e h, r => by
    cases r
    obtain ⟨_, its, rv, o, e1, e2, n, e3⟩ := I.hok _ _ e
    obtain ⟨as, ra⟩ := HasAll.reads I h rv
    exact ⟨_, .tuple e1 e2 e3 (by simpa using ra)⟩
theorem HasAll.reads (I : Inv X pins σ H s) : ∀ {xs : List V} {ts : List Tr} {us : List Value}, HasAll H xs ts → Vals xs us → ∃ as, ReadsAll s.heap us (trDs ts) as
  | _, _, _, .nil, .nil => ⟨_, .nil⟩
  | _, _, _, .cons h hs, .cons r rs => by
    obtain ⟨as, ra⟩ := Has.reads I h r
    obtain ⟨bs, rb⟩ := HasAll.reads I hs rs
    exact ⟨_, .cons ra rb⟩
end
def rNeS : R2 := fun x y H Q => ∃ t, Has H x t ∧ Has H y t ∧ fine 8 t ∧ Q (.bl false) H
theorem op_neS {k : Nat} (hr : Room k X.A) : OpR X (compareOp .NotEq) rNeS := by
  intro pins s σ H x y v u Q I rx ry h
  obtain ⟨t, h1, h2, h3, q⟩ := h
  obtain ⟨as, ra⟩ := h1.reads I rx
  obtain ⟨bs, rb⟩ := h2.reads I ry
  obtain ⟨c1, c2⟩ := fine_lay h3
  have hu := hr.units
  exact SeqAt.compareNe_reads ra rb c1 c1 (by have := Nat.min_le_left (trD t).depth (trD t).depth; omega) (fin_bl I q (by rw [SeqAt.eqv_refl _ c1]; rfl))
end
/-- a list of whole numbers -/
theorem has_ints {H : Hp} {a : Addr} {l : List Int} (h : H a = some (.lst (l.map V.int))) : Has H (.ref a) (.lst ((l.map V.int).map vTr)) := .lst h (hasFlat (flat_ints l))
theorem fine_ints (d : Nat) : ∀ l : List Int, fines d ((l.map V.int).map vTr)
  | [] => by simp [fines]
  | i :: r => by
    show fines d (Tr.int i :: ((r.map V.int).map vTr))
    exact ⟨by simp [fine], fine_ints d r⟩
theorem fine_lst (d : Nat) (l : List Int) : fine (d + 1) (.lst ((l.map V.int).map vTr)) := fine_ints d l
/-! ### a dict from numbers 0, 1, .. -/
structure NumD (kvs : List (Key × V)) (ks : List Int) : Prop where
  len : kvs.length = ks.length
  val : ∀ j : Int, valV kvs (.inl j) = (at? ks j).map V.int
theorem NumD.nil : NumD [] [] := ⟨rfl, fun j => by unfold at?; split <;> simp [valV_nil]⟩
theorem NumD.put {kvs : List (Key × V)} {ks : List Int} (h : NumD kvs ks) (v : Int) : NumD (putK kvs (.inl (ks.length : Int)) (.int v)) (ks ++ [v]) := by
  have hn : valV kvs (.inl (ks.length : Int)) = none := by rw [h.val, at?_neg (by omega)]; rfl
  refine ⟨by rw [putK_new _ hn]; simp [h.len], fun j => ?_⟩
  rw [valV_put]
  by_cases e : j = (ks.length : Int)
  · rw [if_pos (by rw [e])]
    subst e
    simp [at?]
  · rw [if_neg (fun z => e (by injection z)), h.val]
    by_cases h0 : 0 ≤ j
    · by_cases h1 : j < ks.length
      · simp only [at?, if_pos h0]
        rw [List.getElem?_append_left (by omega)]
      · rw [at?_neg (by omega), at?_neg (by simp; omega)]
    · rw [at?_neg (by omega), at?_neg (by omega)]
theorem NumD.get {kvs : List (Key × V)} {ks : List Int} (h : NumD kvs ks) {j v : Int} (e : at? ks j = some v) : valV kvs (.inl j) = some (.int v) := by rw [h.val, e]; rfl
end Sb

namespace Sb
open PySem L2
/-! ### nothing below nought -/
def sumK (k : Nat) : List (Int × Int × Int) → Int
  | [] => 0
  | r :: rs => (if r.1 = k then r.2.1 else 0) + sumK k rs
theorem sumK_append (k : Nat) (r : Int × Int × Int) : ∀ rs, sumK k (rs ++ [r]) = sumK k rs + if r.1 = k then r.2.1 else 0
  | [] => by simp [sumK]
  | q :: rs => by
    rw [List.cons_append, sumK, sumK, sumK_append k r rs]
    omega
theorem sumK_set (k : Nat) {kd o o' p : Int} : ∀ {rs : List (Int × Int × Int)} {i : Nat}, rs[i]? = some (kd, o, p) → sumK k (rs.set i (kd, o', p)) = sumK k rs + if kd = k then o' - o else 0
  | [], _, e => by simp at e
  | r :: rs, 0, e => by
    simp at e
    subst e
    rw [List.set_cons_zero, sumK, sumK]
    dsimp only
    split <;> omega
  | r :: rs, i + 1, e => by
    have e' : rs[i]? = some (kd, o, p) := by simpa using e
    rw [List.set_cons_succ, sumK, sumK, sumK_set k e']
    omega
theorem sumK_nn (k : Nat) : ∀ {rs : List (Int × Int × Int)}, (∀ r ∈ rs, 0 ≤ r.2.1) → 0 ≤ sumK k rs
  | [], _ => Int.le_refl 0
  | r :: rs, h => by
    have h1 := h r (List.mem_cons_self ..)
    have h2 := sumK_nn k (rs := rs) fun q hq => h q (List.mem_cons_of_mem _ hq)
    rw [sumK]
    split <;> omega
structure Nn (n : Nat) (x : Sx) : Prop where
  till : 0 ≤ x.m.till
  shelf : ∀ p ∈ x.m.shelf, 0 ≤ p
  slen : x.m.shelf.length = n
  orders : ∀ r ∈ x.m.orders, 0 ≤ r.1 ∧ r.1 < n ∧ 0 ≤ r.2.1
  sales : ∀ r ∈ x.m.sales, 0 ≤ r.1 ∧ r.1 < n ∧ 0 ≤ r.2.1 ∧ 0 ≤ r.2.2
  ow : x.ow.length = n
  owk : ∀ k : Nat, k < n → x.ow.getD k 0 = sumK k x.m.orders
theorem Nn.owed {n : Nat} {x : Sx} (h : Nn n x) : ∀ p ∈ x.ow, 0 ≤ p := fun p hp => by
  obtain ⟨k, hk, e⟩ := List.mem_iff_getElem.mp hp
  have h1 := h.owk k (by rw [← h.ow]; exact hk)
  rw [List.getD, List.getElem?_eq_getElem hk, e] at h1
  have h2 : p = sumK k x.m.orders := h1
  rw [h2]
  exact sumK_nn k fun r hr => (h.orders r hr).2.2
theorem addAt_mem {l : List Int} {k d : Int} (h : ∀ p ∈ l, 0 ≤ p) (hd : 0 ≤ l.getD k.toNat 0 + d) : ∀ p ∈ addAt l k d, 0 ≤ p := fun p hp => by
  rcases mem_set hp with q | rfl
  · exact h p q
  · exact hd
theorem addAt_len (l : List Int) (k d : Int) : (addAt l k d).length = l.length := by simp [addAt]
theorem addAt_getD {l : List Int} {k d : Int} (h0 : 0 ≤ k) (h1 : k < l.length) (j : Nat) (hj : j < l.length) : (addAt l k d).getD j 0 = l.getD j 0 + if k = j then d else 0 := by
  unfold addAt
  by_cases e : k = (j : Int)
  · rw [if_pos e]
    have e2 : k.toNat = j := by omega
    rw [e2, List.getD, List.getElem?_set_self hj]
    rfl
  · rw [if_neg e]
    rw [List.getD, List.getElem?_set_ne (by omega), Int.add_zero]
    rfl
theorem getD_mem {l : List Int} {k : Int} (h : ∀ p ∈ l, 0 ≤ p) : 0 ≤ l.getD k.toNat 0 := by
  rw [List.getD]
  cases e : l[k.toNat]? with
  | none => exact Int.le_refl 0
  | some v => exact h v (List.mem_of_getElem? e)
theorem Nn.done {n : Nat} {ps : List Int} {x : Sx} {d : Deed} (h : Nn n x) (hr : refusal x.m d = none) (hp : ∀ p ∈ ps, 0 ≤ p) : Nn n (doneX ps x d) := by
  have hpk : ∀ k : Int, 0 ≤ ps.getD k.toNat 0 := fun k => getD_mem hp
  cases d with
  | order k p c =>
    simp only [refusal] at hr
    split at hr
    · cases hr
    · rename_i v e
      obtain ⟨h0, h1, _⟩ := at?_some e
      rw [h.slen] at h1
      split at hr
      · cases hr
      · rename_i hpc
        refine ⟨h.till, h.shelf, h.slen, fun r hm => ?_, h.sales, by simp only [doneX, owedAfter, addAt_len, h.ow], fun j hj => ?_⟩
        · rcases List.mem_append.mp hm with hm | hm
          · exact h.orders r hm
          · rw [List.mem_singleton] at hm
            subst hm
            exact ⟨h0, h1, by show 0 ≤ p; omega⟩
        · show (addAt x.ow k p).getD j 0 = sumK j (x.m.orders ++ [(k, p, c)])
          rw [addAt_getD h0 (by rw [h.ow]; exact h1) j (by rw [h.ow]; exact hj), sumK_append, h.owk j hj]
  | sell k p =>
    simp only [refusal] at hr
    split at hr
    · cases hr
    · rename_i v e
      obtain ⟨h0, h1, hv⟩ := at?_some e
      rw [h.slen] at h1
      split at hr
      · cases hr
      · split at hr
        · cases hr
        · rename_i z1 z2
          have hg : x.m.shelf.getD k.toNat 0 = v := by rw [List.getD, hv]; rfl
          refine ⟨?_, addAt_mem h.shelf (by rw [hg]; omega), (addAt_len ..).trans h.slen, h.orders, fun r hm => ?_, h.ow, h.owk⟩
          · show 0 ≤ x.m.till + p * ps.getD k.toNat 0
            have := h.till
            have := Int.mul_nonneg (show 0 ≤ p by omega) (hpk k)
            omega
          · rcases List.mem_append.mp hm with hm | hm
            · exact h.sales r hm
            · rw [List.mem_singleton] at hm
              subst hm
              exact ⟨h0, h1, by show 0 ≤ p; omega, hpk k⟩
  | came o p b =>
    simp only [refusal] at hr
    split at hr
    · cases hr
    · rename_i k owed price e
      obtain ⟨e1, e2⟩ := openOrder_some e
      obtain ⟨g1, g2⟩ := getD_at (z := (0, 0, 0)) e1
      obtain ⟨_, _, e4⟩ := at?_some e1
      obtain ⟨q1, q2, q3⟩ := h.orders _ g2
      split at hr
      · cases hr
      · rename_i e3
        obtain ⟨p1, p2, p3, p4⟩ := piecesWord_none e3
        split at hr
        · cases hr
        · rename_i z
          have hs := getD_mem (k := k) h.shelf
          simp only [doneX, did, owedAfter, g1]
          refine ⟨by show 0 ≤ x.m.till - (p - b) * price; omega, addAt_mem h.shelf (by omega), (addAt_len ..).trans h.slen, fun r hm => ?_, h.sales, (addAt_len ..).trans h.ow, fun j hj => ?_⟩
          · rcases mem_set hm with hm | rfl
            · exact h.orders r hm
            · exact ⟨q1, q2, by show 0 ≤ owed - (p - b); omega⟩
          · show (addAt x.ow k (-(p - b))).getD j 0 = sumK j (x.m.orders.set o.toNat (k, owed - (p - b), price))
            rw [addAt_getD q1 (by rw [h.ow]; exact q2) j (by rw [h.ow]; exact hj), sumK_set j e4, h.owk j hj]
            split <;> omega
  | giveUp o =>
    simp only [refusal] at hr
    split at hr
    · cases hr
    · rename_i r0 e
      obtain ⟨k, owed, price⟩ := r0
      obtain ⟨e1, e2⟩ := openOrder_some e
      obtain ⟨g1, g2⟩ := getD_at (z := (0, 0, 0)) e1
      obtain ⟨_, _, e4⟩ := at?_some e1
      obtain ⟨q1, q2, q3⟩ := h.orders _ g2
      simp only [doneX, did, owedAfter, g1]
      refine ⟨h.till, h.shelf, h.slen, fun r hm => ?_, h.sales, (addAt_len ..).trans h.ow, fun j hj => ?_⟩
      · rcases mem_set hm with hm | rfl
        · exact h.orders r hm
        · exact ⟨q1, q2, Int.le_refl 0⟩
      · show (addAt x.ow k (-owed)).getD j 0 = sumK j (x.m.orders.set o.toNat (k, 0, price))
        rw [addAt_getD q1 (by rw [h.ow]; exact q2) j (by rw [h.ow]; exact hj), sumK_set j e4, h.owk j hj]
        split <;> omega
  | back s p =>
    simp only [refusal] at hr
    split at hr
    · cases hr
    · rename_i k out price e
      obtain ⟨g1, g2⟩ := getD_at (z := (0, 0, 0)) e
      obtain ⟨q1, q2, q3, q4⟩ := h.sales _ g2
      split at hr
      · cases hr
      · rename_i e3
        obtain ⟨p1, p2, p3, p4⟩ := piecesWord_none e3
        split at hr
        · cases hr
        · have hs := getD_mem (k := k) h.shelf
          simp only [doneX, did, owedAfter, g1]
          refine ⟨by show 0 ≤ x.m.till - p * price; omega, addAt_mem h.shelf (by omega), (addAt_len ..).trans h.slen, h.orders, fun r hm => ?_, h.ow, h.owk⟩
          rcases mem_set hm with hm | rfl
          · exact h.sales r hm
          · exact ⟨q1, q2, by show 0 ≤ out - p; omega, q4⟩
theorem Nn.step {n : Nat} {ps : List Int} {x : Sx} {d : Deed} (h : Nn n x) (hp : ∀ p ∈ ps, 0 ≤ p) : Nn n (stepX ps x d) := by
  unfold stepX
  split
  · exact h
  · exact h.done ‹_› hp
theorem Nn.new {t : Int} (n : Nat) (h : 0 ≤ t) : Nn n (newX t n) where
  till := h
  shelf := fun p hp => by rw [(List.mem_replicate.mp hp).2]; exact Int.le_refl 0
  slen := List.length_replicate
  orders := fun r hr => by cases hr
  sales := fun r hr => by cases hr
  ow := List.length_replicate
  owk := fun k hk => by
    show (List.replicate n (0 : Int)).getD k 0 = 0
    rw [List.getD, List.getElem?_replicate]
    split <;> rfl
theorem Nn.after {n : Nat} {ps : List Int} (hp : ∀ p ∈ ps, 0 ≤ p) : ∀ {ds : List Deed} {x : Sx}, Nn n x → Nn n (afterX ps x ds)
  | [], _, h => h
  | d :: r, _, h => Nn.after hp (ds := r) (h.step (d := d) hp)
theorem Nn.run {n : Nat} {ps : List Int} (hp : ∀ p ∈ ps, 0 ≤ p) : ∀ {ds : List Deed} {x : Sx}, Nn n x → ∀ y ∈ runX ps x ds, Nn n y
  | [], _, _, y, hy => by cases hy
  | d :: r, x, h, y, hy => by
    rcases List.mem_cons.mp hy with rfl | hy
    · exact h.step hp
    · exact Nn.run hp (ds := r) (h.step (d := d) hp) y hy
end Sb

namespace Sb
open PySem L2
/-! ### what a law counts beside -/
structure Cnt (H8 H : Hp) (sh ow od sl : Addr) (l1 l2 k1 k2 : List Int) : Prop where
  shelf : H sh = some (.lst (l1.map V.int))
  owed : H ow = some (.lst (l2.map V.int))
  ordered : ∃ kvs, H od = some (.dK kvs) ∧ NumD kvs k1
  sold : ∃ kvs, H sl = some (.dK kvs) ∧ NumD kvs k2
  same : Same H8 H
  new : H8 sh = none ∧ H8 ow = none ∧ H8 od = none ∧ H8 sl = none
  ne : sh ≠ ow ∧ od ≠ sl
section
variable {H8 H : Hp} {sh ow od sl : Addr} {l1 l2 k1 k2 : List Int}
theorem Cnt.n1 (c : Cnt H8 H sh ow od sl l1 l2 k1 k2) : sh ≠ od := by
  obtain ⟨_, e, _⟩ := c.ordered
  exact ne_of c.shelf e (fun z => nomatch z)
theorem Cnt.n2 (c : Cnt H8 H sh ow od sl l1 l2 k1 k2) : sh ≠ sl := by
  obtain ⟨_, e, _⟩ := c.sold
  exact ne_of c.shelf e (fun z => nomatch z)
theorem Cnt.n3 (c : Cnt H8 H sh ow od sl l1 l2 k1 k2) : ow ≠ od := by
  obtain ⟨_, e, _⟩ := c.ordered
  exact ne_of c.owed e (fun z => nomatch z)
theorem Cnt.n4 (c : Cnt H8 H sh ow od sl l1 l2 k1 k2) : ow ≠ sl := by
  obtain ⟨_, e, _⟩ := c.sold
  exact ne_of c.owed e (fun z => nomatch z)
theorem same_upd {H8 H : Hp} {z : Addr} {o : HO} (s : Same H8 H) (n : H8 z = none) : Same H8 (upd H z o) := fun b u e => uo (s b u e) (ne_of_none e n)
theorem Cnt.setShelf (c : Cnt H8 H sh ow od sl l1 l2 k1 k2) (l : List Int) : Cnt H8 (upd H sh (.lst (l.map V.int))) sh ow od sl l l2 k1 k2 := by
  obtain ⟨a, e1, e2⟩ := c.ordered
  obtain ⟨b, e3, e4⟩ := c.sold
  exact ⟨upd_same, uo c.owed c.ne.1.symm, ⟨a, uo e1 c.n1.symm, e2⟩, ⟨b, uo e3 c.n2.symm, e4⟩, same_upd c.same c.new.1, c.new, c.ne⟩
theorem Cnt.setOwed (c : Cnt H8 H sh ow od sl l1 l2 k1 k2) (l : List Int) : Cnt H8 (upd H ow (.lst (l.map V.int))) sh ow od sl l1 l k1 k2 := by
  obtain ⟨a, e1, e2⟩ := c.ordered
  obtain ⟨b, e3, e4⟩ := c.sold
  exact ⟨uo c.shelf c.ne.1, upd_same, ⟨a, uo e1 c.n3.symm, e2⟩, ⟨b, uo e3 c.n4.symm, e4⟩, same_upd c.same c.new.2.1, c.new, c.ne⟩
theorem Cnt.addOrder (c : Cnt H8 H sh ow od sl l1 l2 k1 k2) (v : Int) : ∃ kvs, H od = some (.dK kvs) ∧ kvs.length = k1.length ∧ Cnt H8 (upd H od (.dK (putK kvs (.inl (k1.length : Int)) (.int v)))) sh ow od sl l1 l2 (k1 ++ [v]) k2 := by
  obtain ⟨a, e1, e2⟩ := c.ordered
  obtain ⟨b, e3, e4⟩ := c.sold
  exact ⟨a, e1, e2.len, ⟨uo c.shelf c.n1, uo c.owed c.n3, ⟨_, upd_same, e2.put v⟩, ⟨b, uo e3 c.ne.2.symm, e4⟩, same_upd c.same c.new.2.2.1, c.new, c.ne⟩⟩
theorem Cnt.addSale (c : Cnt H8 H sh ow od sl l1 l2 k1 k2) (v : Int) : ∃ kvs, H sl = some (.dK kvs) ∧ kvs.length = k2.length ∧ Cnt H8 (upd H sl (.dK (putK kvs (.inl (k2.length : Int)) (.int v)))) sh ow od sl l1 l2 k1 (k2 ++ [v]) := by
  obtain ⟨a, e1, e2⟩ := c.ordered
  obtain ⟨b, e3, e4⟩ := c.sold
  exact ⟨b, e3, e4.len, ⟨uo c.shelf c.n2, uo c.owed c.n4, ⟨a, uo e1 c.ne.2, e2⟩, ⟨_, upd_same, e4.put v⟩, same_upd c.same c.new.2.2.2, c.new, c.ne⟩⟩
end
theorem at?_map {α β : Type} {xs : List α} {i : Int} {x : α} (f : α → β) (h : at? xs i = some x) : at? (xs.map f) i = some (f x) := by
  obtain ⟨h0, _, h2⟩ := at?_some h
  unfold at?
  rw [if_pos h0, List.getElem?_map, h2]
  rfl
theorem map_set_same {α β : Type} {xs : List α} {i : Nat} {x y : α} (f : α → β) (h : xs[i]? = some x) (e : f y = f x) : (xs.set i y).map f = xs.map f := by
  rw [List.map_set, e]
  refine List.ext_getElem? fun j => ?_
  by_cases hj : i = j
  · subst hj
    have h1 : i < xs.length := (List.getElem?_eq_some_iff.mp h).1
    rw [List.getElem?_set_self (by rw [List.length_map]; exact h1), List.getElem?_map, h]
    rfl
  · rw [List.getElem?_set_ne hj]
theorem answers_get {ps : List Int} : ∀ {ds : List Deed} {m : Sh} {i : Nat} {d : Deed}, ds[i]? = some d → (answers ps m ds)[i]? = some (Sb.step ps (after ps m (ds.take i)) d).1
  | [], _, _, _, h => by simp at h
  | d :: r, m, 0, _, h => by simp at h; subst h; rfl
  | d :: r, m, i + 1, e, h => by
    have h' : r[i]? = some e := by simpa using h
    show (answers ps (Sb.step ps m d).2 r)[i]? = _
    rw [answers_get h']
    rfl
theorem told_at {ps : List Int} {ds : List Deed} {m : Sh} {i : Nat} {d : Deed} (h : ds[i]? = some d) : atI ((answers ps m ds).map Ans.v) (i : Int) = some (Sb.step ps (after ps m (ds.take i)) d).1.v :=
  atI_nat (by rw [List.getElem?_map, answers_get h]; rfl)
theorem ixN_nat {n : Nat} {k : Int} (h0 : 0 ≤ k) (h1 : k < n) : ixN n k = some k.toNat := ixN_of h0 h1
theorem set_int (l : List Int) (i : Nat) (v : Int) : (l.map V.int).set i (.int v) = (l.set i v).map V.int := by rw [List.map_set]
theorem at_get {l : List Int} {k : Int} (h0 : 0 ≤ k) (h1 : k < l.length) : atI (l.map V.int) k = some (.int (l.getD k.toNat 0)) := by
  have h : k.toNat < l.length := by omega
  exact atI_ints h0 (by rw [List.getD, List.getElem?_eq_getElem h]; rfl)
theorem addAt_eq (l : List Int) (k d : Int) : l.set k.toNat (l.getD k.toNat 0 + d) = addAt l k d := rfl
theorem addAt_sub (l : List Int) (k d : Int) : l.set k.toNat (l.getD k.toNat 0 - d) = addAt l k (-d) := rfl
theorem ev_dnew {H : Hp} {Q : VK} {σ : St} : tDNewK σ H Q = ∀ p, H p = none → Q (.ref p) (upd H p (.dK [])) := rfl
end Sb
namespace Sb
open PySem L2
structure Cn2 (H8 H : Hp) (od sl : Addr) (k1 k2 : List Int) : Prop where
  ordered : ∃ kvs, H od = some (.dK kvs) ∧ NumD kvs k1
  sold : ∃ kvs, H sl = some (.dK kvs) ∧ NumD kvs k2
  same : Same H8 H
  new : H8 od = none ∧ H8 sl = none
  ne : od ≠ sl
section
variable {H8 H : Hp} {od sl : Addr} {k1 k2 : List Int}
theorem Cn2.addOrder (c : Cn2 H8 H od sl k1 k2) (v : Int) : ∃ kvs, H od = some (.dK kvs) ∧ kvs.length = k1.length ∧ Cn2 H8 (upd H od (.dK (putK kvs (.inl (k1.length : Int)) (.int v)))) od sl (k1 ++ [v]) k2 := by
  obtain ⟨a, e1, e2⟩ := c.ordered
  obtain ⟨b, e3, e4⟩ := c.sold
  exact ⟨a, e1, e2.len, ⟨⟨_, upd_same, e2.put v⟩, ⟨b, uo e3 c.ne.symm, e4⟩, same_upd c.same c.new.1, c.new, c.ne⟩⟩
theorem Cn2.addSale (c : Cn2 H8 H od sl k1 k2) (v : Int) : ∃ kvs, H sl = some (.dK kvs) ∧ kvs.length = k2.length ∧ Cn2 H8 (upd H sl (.dK (putK kvs (.inl (k2.length : Int)) (.int v)))) od sl k1 (k2 ++ [v]) := by
  obtain ⟨a, e1, e2⟩ := c.ordered
  obtain ⟨b, e3, e4⟩ := c.sold
  exact ⟨b, e3, e4.len, ⟨⟨a, uo e1 c.ne, e2⟩, ⟨_, upd_same, e4.put v⟩, same_upd c.same c.new.2, c.new, c.ne⟩⟩
end
theorem Wx.after {n : Nat} {ps : List Int} : ∀ {ds : List Deed} {x : Sx}, Wx n ps x → (∀ d ∈ ds, d.ok) → Wx n ps (afterX ps x ds)
  | [], _, h, _ => h
  | d :: r, _, h, ok => Wx.after (ds := r) (h.step (ok d (List.mem_cons_self ..))) fun e he => ok e (List.mem_cons_of_mem _ he)
end Sb

set_option maxHeartbeats 4000000
local macro_rules | `(tactic| simp_arith [$ls,*]) => `(tactic| simp only [↓L2.ev_seq, ↓L2.ev_vF0, ↓L2.ev_vF1, ↓L2.ev_r2F, ↓L2.ev_r2C, ↓L2.ev_testF, ↓L2.ev_kBF, ↓L2.ev_nx, ↓L2.ev_bk, ↓L2.ev_ct, ↓L2.ev_ret, ↓L2.ev_retN, ↓L2.ev_if, ↓L2.ev_brT, ↓L2.ev_brF, ↓L2.ev_brD, ↓L2.ev_brN, ↓L2.ev_asg, ↓L2.ev_asgN, ↓L2.ev_drop, ↓L2.ev_kNx, ↓L2.ev_c, ↓L2.ev_v0, ↓L2.ev_v1, ↓L2.ev_op, ↓L2.ev_op1, ↓L2.ev_op2, ↓L2.ev_un, ↓L2.ev_kUn, ↓L2.ev_rU, ↓L2.ev_rI0, ↓L2.ev_rI, ↓L2.ev_eqI, ↓L2.ev_eqS, ↓L2.ev_eqB, ↓L2.ev_neI, ↓L2.ev_neS, ↓L2.ev_neB, ↓L2.ev_test, ↓L2.ev_tB, ↓L2.ev_kB, ↓L2.ev_and, ↓L2.ev_andT, ↓L2.ev_andF, ↓L2.ev_andD, ↓L2.ev_andN, ↓L2.ev_or, ↓L2.ev_orT, ↓L2.ev_orF, ↓L2.ev_orD, ↓L2.ev_orN, ↓L2.ev_not, ↓L2.ev_kNot, ↓L2.ev_andV, ↓L2.ev_andVD, ↓L2.ev_andVb, ↓L2.ev_orV, ↓L2.ev_orVb, ↓L2.ev_notV, ↓L2.ev_kNotV, ↓L2.ev_nil, ↓L2.ev_cons, ↓L2.ev_cons1, ↓L2.ev_cons2, ↓L2.ev_lst, ↓L2.ev_kLst, ↓L2.ev_tup, ↓L2.ev_kTup, ↓L2.ev_call, ↓L2.ev_kCall, ↓L2.ev_cb, ↓L2.ev_kCB, ↓L2.ev_ix, ↓L2.ev_len, ↓L2.ev_list, ↓L2.ev_inst, ↓L2.ev_dg, ↓L2.ev_dg1, ↓L2.ev_dg2, ↓L2.ev_dp, ↓L2.ev_dp1, ↓L2.ev_dp2, ↓L2.ev_dp3, ↓L2.ev_lp, ↓L2.ev_lp1, ↓L2.ev_lp2, ↓L2.ev_lp3, ↓L2.ev_bm, ↓L2.ev_kBM, ↓L2.ev_kBM2, ↓L2.ev_app, ↓L2.ev_ext, ↓L2.ev_bm0, ↓L2.ev_pop, ↓L2.ev_menu, ↓L2.ev_menu1, ↓L2.ev_menu2, ↓L2.ev_max, ↓L2.ev_for1, ↓L2.ev_kRng1, ↓L2.ev_forL, ↓L2.ev_kForL, ↓L2.ev_rep, ↓L2.ev_cat, ↓L2.ev_int1b, ↓L2.ev_disp, ↓L2.ev_gName, ↓L2.ev_fld, ↓L2.ev_sf, ↓L2.ev_sf1, ↓L2.ev_fi, ↓L2.ev_li, ↓L2.ev_li1, ↓L2.ev_mt, ↓L2.ev_mt1, ↓L2.ev_mt2, ↓L2.ev_mk, ↓L2.ev_mk1, ↓L2.ev_rs, ↓L2.ev_rs1, ↓L2.ev_try, L2.ev_seq, L2.ev_nx, L2.ev_bk, L2.ev_ct, L2.ev_ret, L2.ev_retN, L2.ev_if, L2.ev_brT, L2.ev_brF, L2.ev_brD, L2.ev_brN, L2.ev_asg, L2.ev_asgN, L2.ev_drop, L2.ev_kNx, L2.ev_c, L2.ev_v0, L2.ev_v1, L2.ev_op, L2.ev_op1, L2.ev_op2, L2.ev_un, L2.ev_kUn, L2.ev_rU, L2.ev_rI0, L2.ev_rI, L2.ev_eqI, L2.ev_eqS, L2.ev_eqB, L2.ev_neI, L2.ev_neS, L2.ev_neB, L2.ev_test, L2.ev_tB, L2.ev_kB, L2.ev_and, L2.ev_andT, L2.ev_andF, L2.ev_andD, L2.ev_andN, L2.ev_or, L2.ev_orT, L2.ev_orF, L2.ev_orD, L2.ev_orN, L2.ev_not, L2.ev_kNot, L2.ev_andV, L2.ev_andVD, L2.ev_andVb, L2.ev_orV, L2.ev_orVb, L2.ev_notV, L2.ev_kNotV, L2.ev_nil, L2.ev_cons, L2.ev_cons1, L2.ev_cons2, L2.ev_lst, L2.ev_kLst, L2.ev_tup, L2.ev_kTup, L2.ev_call, L2.ev_kCall, L2.ev_cb, L2.ev_kCB, L2.ev_ix, L2.ev_len, L2.ev_list, L2.ev_inst, L2.ev_dg, L2.ev_dg1, L2.ev_dg2, L2.ev_dp, L2.ev_dp1, L2.ev_dp2, L2.ev_dp3, L2.ev_lp, L2.ev_lp1, L2.ev_lp2, L2.ev_lp3, L2.ev_bm, L2.ev_kBM, L2.ev_kBM2, L2.ev_app, L2.ev_ext, L2.ev_bm0, L2.ev_pop, L2.ev_menu, L2.ev_menu1, L2.ev_menu2, L2.ev_max, L2.ev_for1, L2.ev_kRng1, L2.ev_forL, L2.ev_kForL, L2.ev_rep, L2.ev_cat, L2.ev_int1b, L2.ev_disp, L2.ev_gName, L2.ev_fld, L2.ev_sf, L2.ev_sf1, L2.ev_fi, L2.ev_li, L2.ev_li1, L2.ev_mt, L2.ev_mt1, L2.ev_mt2, L2.ev_mk, L2.ev_mk1, L2.ev_rs, L2.ev_rs1, L2.ev_try, List.map_cons, List.map_nil, List.cons_append, List.nil_append, List.append_nil, List.set_cons_zero, List.set_cons_succ, exists_and_left, exists_eq_left, exists_eq_left', exists_eq_right, and_true, true_and, and_assoc, Option.some.injEq, L2.V.ref.injEq, L2.V.int.injEq, L2.V.bl.injEq, L2.V.str.injEq, List.cons.injEq, decide_true, decide_false, Bool.not_true, Bool.not_false, Bool.false_eq_true, Bool.not_not, List.length_cons, List.length_nil, Nat.reduceAdd, Nat.reduceLT, Nat.reduceLeDiff, Int.reduceLT, Int.reduceLE, Int.reducePow, Int.reduceToNat, Sb.le_size, ↓reduceIte, L2.CDiv, L2.CPow, $ls,*])
local macro_rules | `(tactic| walk_at "ev") => `(tactic| simp_arith [and_true])
seal L2.PSs L2.PS L2.PE L2.PT L2.PW L2.PA L2.PG L2.PGs L2.PI L2.PO
namespace T2
open PySem L2 Sb
def top (i : Nat) : Stmt := PySem.Challenge.pw_shelfbook_k03_whole_pieces.main.body.getD i (.Pass ⟨0, 0, 0, 0⟩)
abbrev s_check_pieces : Stmt := top 10
theorem sc_check_pieces : FnScope ["out", "pieces", "bad"] ["out", "pieces", "bad"] (defScope s_check_pieces) := ⟨rfl, rfl, rfl, by decide +kernel, rfl, by decide +kernel, by decide +kernel⟩
theorem dx_check_pieces {X : Cx} (hN : X.N = (["out", "pieces", "bad"] : List Str)) (hs : X.env.scope = defScope s_check_pieces) (hf : ∀ x, X.fn x = true) : DefX X ["out", "pieces", "bad"] ["NoMany", "TooMany"] :=
  ⟨hN, by decide +kernel, fun x hx => by unfold L2.Loc; rw [hs]; revert x hx; decide +kernel, fun x hx => by unfold Gl Env.kindOf; rw [hs]; revert x hx; decide +kernel, by decide +kernel, by decide +kernel, by decide +kernel, hf⟩
def sp_check_pieces (c : Cs) : Sp := fun vs H Q E => ∃ (o p b : Int), vs = [.int o, .int p, .int b] ∧ (match piecesWord o p b with | some w => E (.ref (c.w w)) none H | none => Q .non H)
theorem rd_check_pieces {X : Cx} {c : Cs} {E : XK} (D : DefX X ["out", "pieces", "bad"] ["NoMany", "TooMany"]) (hc : X.calm = true) (hR : Raises X E) (T : Txt X.K X.mg c) {vs : List V} {H : Hp} {Q : VK} (h : sp_check_pieces c vs H Q E) :
    ∃ t, PSs X (defBody s_check_pieces) t ∧ t { nx := fun _ H' => Q .non H', rt := Q } (start ["out", "pieces", "bad"] vs) H := by
  obtain ⟨o, p, b, rfl, k⟩ := h
  refine ⟨_, (pss_cons (ps_if (PW.pt (pw_or (pt_cmpF op_ltF (pvF D 1) pe_int (nomark _)) (pw_or (pt_cmpF op_ltF (pvF D 2) pe_int (nomark _)) (pw_or1 (pt_cmpF op_gtF (pvF D 2) (pvF D 1) (nomark _)))))) (pss_one (ps_raiseD D 0 hR hc T.mgNoMany T.exNoMany (pa_cons pe_str pa_nil))) pss_nil) (pss_one (ps_if (pt_cmpF op_gtF (pvF D 1) (pvF D 0) (nomark _)) (pss_one (ps_raiseD D 1 hR hc T.mgTooMany T.exTooMany (pa_cons pe_str pa_nil))) pss_nil))), ?_⟩
  show (_ : TS) _ ([some (.int o), some (.int p), some (.int b)] : St) H
  walk_at "ev"
  unfold piecesWord at k
  split
  · rw [if_pos (.inl ‹_›)] at k; exact k
  · split
    · rw [if_pos (.inr (.inl ‹_›))] at k; exact k
    · split
      · rw [if_pos (.inr (.inr ‹_›))] at k; exact k
      · rw [if_neg (by omega)] at k
        split
        · rw [if_pos ‹_›] at k; exact k
        · rw [if_neg ‹_›] at k; exact k
abbrev s_Order___init__ : Stmt := inClass (top 12) 0
theorem sc_Order___init__ : FnScope ["self", "kind", "pieces", "price"] ["self", "kind", "pieces", "price"] (defScope s_Order___init__) := ⟨rfl, rfl, rfl, by decide +kernel, rfl, by decide +kernel, by decide +kernel⟩
theorem dx_Order___init__ {X : Cx} (hN : X.N = (["self", "kind", "pieces", "price"] : List Str)) (hs : X.env.scope = defScope s_Order___init__) (hf : ∀ x, X.fn x = true) : DefX X ["self", "kind", "pieces", "price"] [] :=
  ⟨hN, by decide +kernel, fun x hx => by unfold L2.Loc; rw [hs]; revert x hx; decide +kernel, fun x hx => by unfold Gl Env.kindOf; rw [hs]; revert x hx; decide +kernel, by decide +kernel, by decide +kernel, by decide +kernel, hf⟩
def sp_Order (c : Cs) : Sp := fun vs H Q _ => ∃ (x dx : Addr) (k p q : Int), vs = [.ref x, .int k, .int p, .int q] ∧ H x = some (.ins c.order dx []) ∧ Q .non (upd H x (.ins c.order dx (ordF (k, p, q))))
theorem rd_Order {X : Cx} {c : Cs} {E : XK} (D : DefX X ["self", "kind", "pieces", "price"] []) (T : Txt X.K X.mg c) {vs : List V} {H : Hp} {Q : VK} (h : sp_Order c vs H Q E) :
    ∃ t, PSs X (defBody s_Order___init__) t ∧ t { nx := fun _ H' => Q .non H', rt := Q } (start ["self", "kind", "pieces", "price"] vs) H := by
  obtain ⟨x, dx, k, p, q, rfl, hx, kk⟩ := h
  refine ⟨_, (pss_cons (ps_fldC T.clOrder T.na_Order_kind (pvF D 0) (pvF D 1)) (pss_cons (ps_fldC T.clOrder T.na_Order_price (pvF D 0) (pvF D 3)) (pss_one (ps_fldC T.clOrder T.na_Order_owed (pvF D 0) (pvF D 2))))), ?_⟩
  show (_ : TS) _ ([some (.ref x), some (.int k), some (.int p), some (.int q)] : St) H
  have l1 := length_putF "kind" (V.int k) []
  have l2 := length_putF "price" (V.int q) (putF "kind" (V.int k) [])
  rw [List.length_nil] at l1
  simp_arith [kSf hx (by decide)]
  rw [kSf upd_same (by omega)]
  walk_at "ev"
  rw [kSf upd_same (by omega), upd_upd, upd_upd, of_new]
  exact kk
abbrev s_Sale___init__ : Stmt := inClass (top 13) 0
theorem sc_Sale___init__ : FnScope ["self", "kind", "pieces"] ["self", "kind", "pieces"] (defScope s_Sale___init__) := ⟨rfl, rfl, rfl, by decide +kernel, rfl, by decide +kernel, by decide +kernel⟩
theorem dx_Sale___init__ {X : Cx} (hN : X.N = (["self", "kind", "pieces"] : List Str)) (hs : X.env.scope = defScope s_Sale___init__) (hf : ∀ x, X.fn x = true) : DefX X ["self", "kind", "pieces"] [] :=
  ⟨hN, by decide +kernel, fun x hx => by unfold L2.Loc; rw [hs]; revert x hx; decide +kernel, fun x hx => by unfold Gl Env.kindOf; rw [hs]; revert x hx; decide +kernel, by decide +kernel, by decide +kernel, by decide +kernel, hf⟩
def sp_Sale (c : Cs) : Sp := fun vs H Q _ => ∃ (x dx : Addr) (k p : Int), vs = [.ref x, .int k, .int p] ∧ H x = some (.ins c.sale dx []) ∧ Q .non (upd H x (.ins c.sale dx (saleF (k, p, 0))))
theorem rd_Sale {X : Cx} {c : Cs} {E : XK} (D : DefX X ["self", "kind", "pieces"] []) (T : Txt X.K X.mg c) {vs : List V} {H : Hp} {Q : VK} (h : sp_Sale c vs H Q E) :
    ∃ t, PSs X (defBody s_Sale___init__) t ∧ t { nx := fun _ H' => Q .non H', rt := Q } (start ["self", "kind", "pieces"] vs) H := by
  obtain ⟨x, dx, k, p, rfl, hx, kk⟩ := h
  refine ⟨_, (pss_cons (ps_fldC T.clSale T.na_Sale_kind (pvF D 0) (pvF D 1)) (pss_one (ps_fldC T.clSale T.na_Sale_out (pvF D 0) (pvF D 2)))), ?_⟩
  show (_ : TS) _ ([some (.ref x), some (.int k), some (.int p)] : St) H
  have l1 := length_putF "kind" (V.int k) []
  rw [List.length_nil] at l1
  simp_arith [kSf hx (by decide)]
  rw [kSf upd_same (by omega), upd_upd, lf_new k p 0]
  exact kk
abbrev s_Shop_check_kind : Stmt := inClass (top 14) 6
theorem sc_Shop_check_kind : FnScope ["self", "kind"] ["self", "kind"] (defScope s_Shop_check_kind) := ⟨rfl, rfl, rfl, by decide +kernel, rfl, by decide +kernel, by decide +kernel⟩
theorem dx_Shop_check_kind {X : Cx} (hN : X.N = (["self", "kind"] : List Str)) (hs : X.env.scope = defScope s_Shop_check_kind) (hf : ∀ x, X.fn x = true) : DefX X ["self", "kind"] ["NoKind", "len"] :=
  ⟨hN, by decide +kernel, fun x hx => by unfold L2.Loc; rw [hs]; revert x hx; decide +kernel, fun x hx => by unfold Gl Env.kindOf; rw [hs]; revert x hx; decide +kernel, by decide +kernel, by decide +kernel, by decide +kernel, hf⟩
def sp_check_kind (c : Cs) : Sp := fun vs H Q E => ∃ (s : Ad) (ps : List Int) (x : Sx) (k : Int), vs = [.ref s.a, .int k] ∧ ShAt c ps H s x ∧ (if k < 0 ∨ (ps.length : Int) ≤ k then E (.ref c.noKind) none H else Q .non H)
theorem rd_check_kind {X : Cx} {c : Cs} {E : XK} (D : DefX X ["self", "kind"] ["NoKind", "len"]) (hc : X.calm = true) (hR : Raises X E) (B : Bl X.mg) (T : Txt X.K X.mg c) {vs : List V} {H : Hp} {Q : VK} (h : sp_check_kind c vs H Q E) :
    ∃ t, PSs X (defBody s_Shop_check_kind) t ∧ t { nx := fun _ H' => Q .non H', rt := Q } (start ["self", "kind"] vs) H := by
  obtain ⟨s, ps, x, k, rfl, S, kk⟩ := h
  refine ⟨_, (pss_one (ps_if (PW.pt (pw_or (pt_cmpF op_ltF (pvF D 1) pe_int (nomark _)) (pw_or1 (pt_cmpF op_geF (pvF D 1) (pe_callBD D 1 call_lenF B.len bt_len (pa_cons (pe_fldC T.clShop T.na_Shop_prices (pvF D 0)) pa_nil)) (nomark _))))) (pss_one (ps_raiseD D 0 hR hc T.mgNoKind T.exNoKind (pa_cons pe_str pa_nil))) pss_nil)), ?_⟩
  show (_ : TS) _ ([some (.ref s.a), some (.int k)] : St) H
  simp_arith [S.k_prices, sq_lst S.prices, List.length_map]
  split
  · rw [if_pos (.inl ‹_›)] at kk; exact kk
  · split
    · rw [if_pos (.inr ‹_›)] at kk; exact kk
    · rw [if_neg (by omega)] at kk; exact kk
abbrev s_Shop_find_order : Stmt := inClass (top 14) 7
theorem sc_Shop_find_order : FnScope ["self", "order", "ordered"] ["self", "order"] (defScope s_Shop_find_order) := ⟨rfl, rfl, rfl, by decide +kernel, rfl, by decide +kernel, by decide +kernel⟩
theorem dx_Shop_find_order {X : Cx} (hN : X.N = (["self", "order", "ordered"] : List Str)) (hs : X.env.scope = defScope s_Shop_find_order) (hf : ∀ x, X.fn x = true) : DefX X ["self", "order", "ordered"] ["NoOrder", "len"] :=
  ⟨hN, by decide +kernel, fun x hx => by unfold L2.Loc; rw [hs]; revert x hx; decide +kernel, fun x hx => by unfold Gl Env.kindOf; rw [hs]; revert x hx; decide +kernel, by decide +kernel, by decide +kernel, by decide +kernel, hf⟩
def sp_find_order (c : Cs) : Sp := fun vs H Q E => ∃ (s : Ad) (ps : List Int) (x : Sx) (o : Int), vs = [.ref s.a, .int o] ∧ ShAt c ps H s x ∧
  (match openOrder x.m o with | none => E (.ref c.noOrder) none H | some r => ∀ a dx, H a = some (.ins c.order dx (ordF r)) → s.os[o.toNat]? = some a → Q (.ref a) H)
theorem rd_find_order {X : Cx} {c : Cs} {E : XK} (D : DefX X ["self", "order", "ordered"] ["NoOrder", "len"]) (hc : X.calm = true) (hR : Raises X E) (B : Bl X.mg) (T : Txt X.K X.mg c) {vs : List V} {H : Hp} {Q : VK} (h : sp_find_order c vs H Q E) :
    ∃ t, PSs X (defBody s_Shop_find_order) t ∧ t { nx := fun _ H' => Q .non H', rt := Q } (start ["self", "order", "ordered"] vs) H := by
  obtain ⟨s, ps, x, o, rfl, S, kk⟩ := h
  refine ⟨_, (pss_cons (ps_if (PW.pt (pw_or (pt_cmpF op_ltF (pvF D 1) pe_int (nomark _)) (pw_or1 (pt_cmpF op_geF (pvF D 1) (pe_callBD D 1 call_lenF B.len bt_len (pa_cons (pe_fldC T.clShop T.na_Shop_orders (pvF D 0)) pa_nil)) (nomark _))))) (pss_one (ps_raiseD D 0 hR hc T.mgNoOrder T.exNoOrder (pa_cons pe_str pa_nil))) pss_nil) (pss_cons (ps_setD D 2 (pe_ixF (pe_fldC T.clShop T.na_Shop_orders (pvF D 0)) (pvF D 1))) (pss_cons (ps_if (pt_cmpF op_eq (pe_fldC T.clOrder T.na_Order_owed (pvF D 2)) pe_int (nomark _)) (pss_one (ps_raiseD D 0 hR hc T.mgNoOrder T.exNoOrder (pa_cons pe_str pa_nil))) pss_nil) (pss_one (ps_ret (pvF D 2)))))), ?_⟩
  show (_ : TS) _ ([some (.ref s.a), some (.int o), none] : St) H
  simp_arith [S.k_orders, sq_lst S.orders, List.length_map, S.olen]
  cases h1 : at? x.m.orders o with
  | none =>
    simp only [openOrder, h1] at kk
    have := at?_none h1
    split
    · exact kk
    · rw [if_pos (by omega)]
      exact kk
  | some r =>
    obtain ⟨h0, hlt, _⟩ := at?_some h1
    obtain ⟨kd, ow, pr⟩ := r
    obtain ⟨a, dx, e1, e2, e3⟩ := S.order h1
    rw [if_neg (by omega), if_neg (by omega)]
    simp_arith [e1, o_owed e2]
    simp only [openOrder, h1] at kk
    split
    · rw [if_pos ‹_›] at kk
      exact kk
    · rw [if_neg ‹_›] at kk
      exact kk a dx e2 e3
abbrev s_Shop_find_sale : Stmt := inClass (top 14) 8
theorem sc_Shop_find_sale : FnScope ["self", "sale"] ["self", "sale"] (defScope s_Shop_find_sale) := ⟨rfl, rfl, rfl, by decide +kernel, rfl, by decide +kernel, by decide +kernel⟩
theorem dx_Shop_find_sale {X : Cx} (hN : X.N = (["self", "sale"] : List Str)) (hs : X.env.scope = defScope s_Shop_find_sale) (hf : ∀ x, X.fn x = true) : DefX X ["self", "sale"] ["NoSale", "len"] :=
  ⟨hN, by decide +kernel, fun x hx => by unfold L2.Loc; rw [hs]; revert x hx; decide +kernel, fun x hx => by unfold Gl Env.kindOf; rw [hs]; revert x hx; decide +kernel, by decide +kernel, by decide +kernel, by decide +kernel, hf⟩
def sp_find_sale (c : Cs) : Sp := fun vs H Q E => ∃ (s : Ad) (ps : List Int) (x : Sx) (o : Int), vs = [.ref s.a, .int o] ∧ ShAt c ps H s x ∧
  (match at? x.m.sales o with | none => E (.ref c.noSale) none H | some r => ∀ a dx, H a = some (.ins c.sale dx (saleF r)) → s.ss[o.toNat]? = some a → Q (.ref a) H)
theorem rd_find_sale {X : Cx} {c : Cs} {E : XK} (D : DefX X ["self", "sale"] ["NoSale", "len"]) (hc : X.calm = true) (hR : Raises X E) (B : Bl X.mg) (T : Txt X.K X.mg c) {vs : List V} {H : Hp} {Q : VK} (h : sp_find_sale c vs H Q E) :
    ∃ t, PSs X (defBody s_Shop_find_sale) t ∧ t { nx := fun _ H' => Q .non H', rt := Q } (start ["self", "sale"] vs) H := by
  obtain ⟨s, ps, x, o, rfl, S, kk⟩ := h
  refine ⟨_, (pss_cons (ps_if (PW.pt (pw_or (pt_cmpF op_ltF (pvF D 1) pe_int (nomark _)) (pw_or1 (pt_cmpF op_geF (pvF D 1) (pe_callBD D 1 call_lenF B.len bt_len (pa_cons (pe_fldC T.clShop T.na_Shop_sales (pvF D 0)) pa_nil)) (nomark _))))) (pss_one (ps_raiseD D 0 hR hc T.mgNoSale T.exNoSale (pa_cons pe_str pa_nil))) pss_nil) (pss_one (ps_ret (pe_ixF (pe_fldC T.clShop T.na_Shop_sales (pvF D 0)) (pvF D 1))))), ?_⟩
  show (_ : TS) _ ([some (.ref s.a), some (.int o)] : St) H
  simp_arith [S.k_sales, sq_lst S.sales, List.length_map, S.slen]
  cases h1 : at? x.m.sales o with
  | none =>
    simp only [h1] at kk
    have := at?_none h1
    split
    · exact kk
    · rw [if_pos (by omega)]
      exact kk
  | some r =>
    obtain ⟨h0, hlt, _⟩ := at?_some h1
    obtain ⟨a, dx, e1, e2, e3⟩ := S.sale h1
    rw [if_neg (by omega), if_neg (by omega)]
    simp only [h1] at kk
    exact ⟨_, e1, kk a dx e2 e3⟩
abbrev s_Shop_check_till : Stmt := inClass (top 14) 9
theorem sc_Shop_check_till : FnScope ["self", "coins"] ["self", "coins"] (defScope s_Shop_check_till) := ⟨rfl, rfl, rfl, by decide +kernel, rfl, by decide +kernel, by decide +kernel⟩
theorem dx_Shop_check_till {X : Cx} (hN : X.N = (["self", "coins"] : List Str)) (hs : X.env.scope = defScope s_Shop_check_till) (hf : ∀ x, X.fn x = true) : DefX X ["self", "coins"] ["Broke"] :=
  ⟨hN, by decide +kernel, fun x hx => by unfold L2.Loc; rw [hs]; revert x hx; decide +kernel, fun x hx => by unfold Gl Env.kindOf; rw [hs]; revert x hx; decide +kernel, by decide +kernel, by decide +kernel, by decide +kernel, hf⟩
def sp_check_till (c : Cs) : Sp := fun vs H Q E => ∃ (s : Ad) (ps : List Int) (x : Sx) (k : Int), vs = [.ref s.a, .int k] ∧ ShAt c ps H s x ∧ (if k > x.m.till then E (.ref c.broke) none H else Q .non H)
theorem rd_check_till {X : Cx} {c : Cs} {E : XK} (D : DefX X ["self", "coins"] ["Broke"]) (hc : X.calm = true) (hR : Raises X E) (T : Txt X.K X.mg c) {vs : List V} {H : Hp} {Q : VK} (h : sp_check_till c vs H Q E) :
    ∃ t, PSs X (defBody s_Shop_check_till) t ∧ t { nx := fun _ H' => Q .non H', rt := Q } (start ["self", "coins"] vs) H := by
  obtain ⟨s, ps, x, k, rfl, S, kk⟩ := h
  refine ⟨_, (pss_one (ps_if (pt_cmpF op_gtF (pvF D 1) (pe_fldC T.clShop T.na_Shop_till (pvF D 0)) (nomark _)) (pss_one (ps_raiseD D 0 hR hc T.mgBroke T.exBroke (pa_cons pe_str pa_nil))) pss_nil)), ?_⟩
  show (_ : TS) _ ([some (.ref s.a), some (.int k)] : St) H
  simp_arith [S.k_till]
  exact kk
abbrev s_Shop_strike_off : Stmt := inClass (top 14) 10
theorem sc_Shop_strike_off : FnScope ["self", "ordered", "pieces"] ["self", "ordered", "pieces"] (defScope s_Shop_strike_off) := ⟨rfl, rfl, rfl, by decide +kernel, rfl, by decide +kernel, by decide +kernel⟩
theorem dx_Shop_strike_off {X : Cx} (hN : X.N = (["self", "ordered", "pieces"] : List Str)) (hs : X.env.scope = defScope s_Shop_strike_off) (hf : ∀ x, X.fn x = true) : DefX X ["self", "ordered", "pieces"] [] :=
  ⟨hN, by decide +kernel, fun x hx => by unfold L2.Loc; rw [hs]; revert x hx; decide +kernel, fun x hx => by unfold Gl Env.kindOf; rw [hs]; revert x hx; decide +kernel, by decide +kernel, by decide +kernel, by decide +kernel, hf⟩
def sp_strike_off (c : Cs) : Sp := fun vs H Q E => ∃ (s : Ad) (ps : List Int) (x : Sx) (z : Addr) (p : Int) (i : Nat) (r : Int × Int × Int), vs = [.ref s.a, .ref z, .int p] ∧ ShAt c ps H s x ∧ s.os[i]? = some z ∧ x.m.orders[i]? = some r ∧ 0 ≤ r.1 ∧ r.1 < x.ow.length ∧
  ∀ H', ShAt c ps H' s ⟨{ x.m with orders := x.m.orders.set i (r.1, r.2.1 - p, r.2.2) }, addAt x.ow r.1 (-p), x.bk⟩ → Kept H H' s.own s.own → Q .non H'
theorem rd_strike_off {X : Cx} {c : Cs} {E : XK} (D : DefX X ["self", "ordered", "pieces"] []) (T : Txt X.K X.mg c) {vs : List V} {H : Hp} {Q : VK} (h : sp_strike_off c vs H Q E) :
    ∃ t, PSs X (defBody s_Shop_strike_off) t ∧ t { nx := fun _ H' => Q .non H', rt := Q } (start ["self", "ordered", "pieces"] vs) H := by
  obtain ⟨s, ps, x, z, p, i, r, rfl, S, hz, hr, r0, r1, kk⟩ := h
  obtain ⟨kd, ow, pr⟩ := r
  obtain ⟨z', e1, dz, e2⟩ := Paired.at S.rows hr
  rw [hz] at e1
  cases e1
  refine ⟨_, (pss_cons (ps_fldI ip_sub T.clOrder T.na_Order_owed (pvF D 1) (pvF D 2)) (pss_one (ps_lstI ip_sub (pe_fldC T.clShop T.na_Shop_owed (pvF D 0)) (pe_fldC T.clOrder T.na_Order_kind (pvF D 1)) (pvF D 2)))), ?_⟩
  show (_ : TS) _ ([some (.ref s.a), some (.ref z), some (.int p)] : St) H
  simp_arith [o_iowed e2, o_sowed e2]
  have S1 := S.setOrder (dz := dz) hz e2 (fun _ q => nomatch q) (kd, ow - p, pr)
  have K1 := (Kept.refl H s.own).upd (a := z) (u := .ins c.order dz (ordF (kd, ow - p, pr))) (by simp [Ad.own, List.mem_of_getElem? hz])
  have d1 : upd H z (.ins c.order dz (ordF (kd, ow - p, pr))) z = some (.ins c.order dz (ordF (kd, ow - p, pr))) := upd_same
  generalize upd H z (.ins c.order dz (ordF (kd, ow - p, pr))) = H1 at S1 K1 d1 ⊢
  have hk : kd.toNat < x.ow.length := by have : kd < (x.ow.length : Int) := r1; have : 0 ≤ kd := r0; omega
  have ev : x.ow[kd.toNat]? = some (x.ow[kd.toNat]) := List.getElem?_eq_getElem hk
  have eg : x.ow.getD kd.toNat 0 = x.ow[kd.toNat] := by rw [List.getD, ev]; rfl
  simp_arith [S1.k_owed, o_kind d1, kL2 S1.owed r0 ev, kL3 S1.owed r1]
  refine kk _ ?_ (K1.upd (a := s.ow) (by simp [Ad.own]))
  have S2 := S1.setOwed (x.ow.set kd.toNat (x.ow[kd.toNat] - p))
  simp only [addAt, eg, ← Int.sub_eq_add_neg]
  exact S2
abbrev FnK (X : Cx) (x : Str) (k : Nat) (ps : List Str) (sp : Sp) : Prop := Fn X.prog X.w X.K X.mg X.base (CXK X.prog X.w) x k ps sp
abbrev MtK (X : Cx) (C : Addr) (x : Str) (k : Nat) (ps : List Str) (sp : Sp) : Prop := Mt X.prog X.w X.K X.mg X.base (CXK X.prog X.w) C x k ps sp
abbrev Fn0 (X : Cx) (x : Str) (k : Nat) (ps : List Str) (sp : Sp) : Prop := Fn X.prog X.w X.K X.mg X.base CX0 x k ps sp
abbrev Mc0 (X : Cx) (C : Addr) (k : Nat) (ps : List Str) (sp : Sp) : Prop := Mc X.prog X.w X.K X.mg X.base CX0 C k ps sp
abbrev s_Shop_order : Stmt := inClass (top 14) 1
theorem sc_Shop_order : FnScope ["self", "kind", "pieces", "price", "number"] ["self", "kind", "pieces", "price"] (defScope s_Shop_order) := ⟨rfl, rfl, rfl, by decide +kernel, rfl, by decide +kernel, by decide +kernel⟩
theorem dx_Shop_order {X : Cx} (hN : X.N = (["self", "kind", "pieces", "price", "number"] : List Str)) (hs : X.env.scope = defScope s_Shop_order) (hf : ∀ x, X.fn x = true) : DefX X ["self", "kind", "pieces", "price", "number"] ["len", "NoMany", "Order"] :=
  ⟨hN, by decide +kernel, fun x hx => by unfold L2.Loc; rw [hs]; revert x hx; decide +kernel, fun x hx => by unfold Gl Env.kindOf; rw [hs]; revert x hx; decide +kernel, by decide +kernel, by decide +kernel, by decide +kernel, hf⟩
def sp_order (c : Cs) : Sp := fun vs H Q E => ∃ (s : Ad) (n : Nat) (ps : List Int) (x : Sx) (k p q : Int), vs = [.ref s.a, .int k, .int p, .int q] ∧ Pre c n ps H s x (.order k p q) ∧ AfterX c ps H s x (.order k p q) Q E
theorem rd_order {X : Cx} {c : Cs} {E : XK} (D : DefX X ["self", "kind", "pieces", "price", "number"] ["len", "NoMany", "Order"]) (hc : X.calm = true) (hr : Room 2 X.A) (hR : Raises X E) (hK : Passes (CXK X.prog X.w) X E) (B : Bl X.mg) (T : Txt X.K X.mg c)
    (F_Shop_check_kind : MtK X c.shop "check_kind" 1 ["self", "kind"] (sp_check_kind c)) (F_Order : Mc0 X c.order 1 ["self", "kind", "pieces", "price"] (sp_Order c))
    {vs : List V} {H : Hp} {Q : VK} (h : sp_order c vs H Q E) :
    ∃ t, PSs X (defBody s_Shop_order) t ∧ t { nx := fun _ H' => Q .non H', rt := Q } (start ["self", "kind", "pieces", "price", "number"] vs) H := by
  obtain ⟨s, n, ps, x, kk, pp, q, rfl, ⟨S, w, ok, lo, ls, lb⟩, k⟩ := h
  refine ⟨_, (pss_cons (ps_expr (pe_mt F_Shop_check_kind T.clShop (hr.mono (by decide)) hK (pvF D 0) (pa_cons (pvF D 1) pa_nil))) (pss_cons (ps_if (PW.pt (pw_or (pt_cmpF op_ltF (pvF D 2) pe_int (nomark _)) (pw_or1 (pt_cmpF op_ltF (pvF D 3) pe_int (nomark _))))) (pss_one (ps_raiseD D 1 hR hc T.mgNoMany T.exNoMany (pa_cons pe_str pa_nil))) pss_nil) (pss_cons (ps_setD D 4 (pe_callBD D 0 call_lenF B.len bt_len (pa_cons (pe_fldC T.clShop T.na_Shop_orders (pvF D 0)) pa_nil))) (pss_cons (ps_expr (pe_append (pe_fldC T.clShop T.na_Shop_orders (pvF D 0)) (pe_mc F_Order (hr.mono (by decide)) (D.gl 2) T.mgOrder pass0 (pa_cons (pvF D 1) (pa_cons (pvF D 2) (pa_cons (pvF D 3) pa_nil))) (D.dg 2)))) (pss_cons (ps_lstI ip_add (pe_fldC T.clShop T.na_Shop_owed (pvF D 0)) (pvF D 1) (pvF D 2)) (pss_cons (ps_expr (pe_append (pe_fldC T.clShop T.na_Shop_entries (pvF D 0)) (pe_tup (pa_cons pe_str (pa_cons (pvF D 4) (pa_cons (pvF D 2) (pa_cons pe_int pa_nil))))))) (pss_one (ps_ret (pvF D 4))))))))), ?_⟩
  show (_ : TS) _ ([some (.ref s.a), some (.int kk), some (.int pp), some (.int q), none] : St) H
  simp_arith [S.m_check_kind]
  refine ⟨s, ps, x, kk, rfl, S, ?_⟩
  have hsl := w.wf.shelf
  have hpl := w.pl
  have hol := w.ow
  cases h1 : at? x.m.shelf kk with
  | none =>
    have := at?_none h1
    rw [if_pos (by omega)]
    exact k.no (w := .noKind) (by simp only [refusal, h1])
  | some v =>
    obtain ⟨h0, hlt, _⟩ := at?_some h1
    rw [if_neg (by omega)]
    walk_at "ev"
    by_cases h2 : pp < 1 ∨ q < 0
    · have e : refusal x.m (.order kk pp q) = some .noMany := by simp only [refusal, h1, if_pos h2]
      split
      · exact k.no e
      · rw [if_pos (by omega)]
        exact k.no e
    · have e : refusal x.m (.order kk pp q) = none := by simp only [refusal, h1, if_neg h2]
      have k := k.yes e
      rw [if_neg (by omega), if_neg (by omega)]
      simp_arith [S.k_orders, sq_lst S.orders, List.length_map, S.olen]
      refine ⟨tyV_lst S.orders, fun p dp hp hdp ne => ⟨p, dp, kk, pp, q, rfl, upd_same, rfl, ?_⟩⟩
      rw [upd_upd]
      have hp1 : upd H dp (.own p) p = none := by rw [upd_ne (Ne.symm ne)]; exact hp
      have S2 := (S.same (upd_self (o := .own p) hdp)).same (upd_self (o := .ins c.order dp (ordF (kk, pp, q))) hp1)
      have K2 : Kept H _ s.own (s.wo (s.os ++ [p]) s.ss).own := ((Kept.refl H s.own).add (u := .own p) hdp (S.fresh hdp) (fun b hb => .inl hb)).add (u := .ins c.order dp (ordF (kk, pp, q))) hp1 (S.fresh hp) wo_o
      have d2 : upd (upd H dp (.own p)) p (.ins c.order dp (ordF (kk, pp, q))) p = some (.ins c.order dp (ordF (kk, pp, q))) := upd_same
      generalize upd (upd H dp (.own p)) p (.ins c.order dp (ordF (kk, pp, q))) = H2 at S2 K2 d2 ⊢
      try walk_at "ev"
      refine ⟨_, S2.orders, by rw [List.length_map, S.olen]; exact small1000 (by omega), ?_⟩
      have S3 := S2.newOrder d2 (S.fresh hp)
      have K3 := K2.upd (a := s.od) (u := .lst (s.os.map V.ref ++ [.ref p])) (by simp [Ad.own, Ad.wo])
      generalize upd H2 s.od (.lst (s.os.map V.ref ++ [.ref p])) = H3 at S3 K3 ⊢
      have hk : kk.toNat < x.ow.length := by omega
      have ev : x.ow[kk.toNat]? = some (x.ow[kk.toNat]) := List.getElem?_eq_getElem hk
      have r1 : kk < (x.ow.length : Int) := by omega
      have f3 : ∀ {Q : VK}, kFldC c.shop "owed" Q (.ref s.a) H3 = Q (.ref s.ow) H3 := S3.k_owed
      simp_arith [f3, kL2 S3.owed h0 ev, kL3 S3.owed r1]
      have S4 := S3.setOwed (x.ow.set kk.toNat (x.ow[kk.toNat] + pp))
      have K4 := K3.upd (a := s.ow) (u := .lst ((x.ow.set kk.toNat (x.ow[kk.toNat] + pp)).map V.int)) (by simp [Ad.own, Ad.wo])
      generalize upd H3 s.ow (.lst ((x.ow.set kk.toNat (x.ow[kk.toNat] + pp)).map V.int)) = H4 at S4 K4 ⊢
      have f4 : ∀ {Q : VK}, kFldC c.shop "entries" Q (.ref s.a) H4 = Q (.ref s.en) H4 := S4.k_entries
      obtain ⟨es0, ee0, _⟩ := S4.ents
      simp_arith [f4]
      refine ⟨tyV_lst ee0, fun t ht => ?_⟩
      refine ent_end S4 ht ⟨"ordered", x.m.orders.length, pp, 0⟩ lb K4 (S4.out (fun b hb => List.mem_append_left _ hb) (fun b hb => hb) ht) fun H5 S5 K5 => ?_
      refine k H5 _ _ ?_ K5
      simp only [doneX, did, owedAfter, addAt, getD_of ev, entryOf]
      exact S5
abbrev s_Shop_came : Stmt := inClass (top 14) 2
theorem sc_Shop_came : FnScope ["self", "order", "pieces", "bad", "ordered", "good", "coins"] ["self", "order", "pieces", "bad"] (defScope s_Shop_came) := ⟨rfl, rfl, rfl, by decide +kernel, rfl, by decide +kernel, by decide +kernel⟩
theorem dx_Shop_came {X : Cx} (hN : X.N = (["self", "order", "pieces", "bad", "ordered", "good", "coins"] : List Str)) (hs : X.env.scope = defScope s_Shop_came) (hf : ∀ x, X.fn x = true) : DefX X ["self", "order", "pieces", "bad", "ordered", "good", "coins"] ["check_pieces"] :=
  ⟨hN, by decide +kernel, fun x hx => by unfold L2.Loc; rw [hs]; revert x hx; decide +kernel, fun x hx => by unfold Gl Env.kindOf; rw [hs]; revert x hx; decide +kernel, by decide +kernel, by decide +kernel, by decide +kernel, hf⟩
def sp_came (c : Cs) : Sp := fun vs H Q E => ∃ (s : Ad) (n : Nat) (ps : List Int) (x : Sx) (o p b : Int), vs = [.ref s.a, .int o, .int p, .int b] ∧ Pre c n ps H s x (.came o p b) ∧ AfterX c ps H s x (.came o p b) Q E
theorem rd_came {X : Cx} {c : Cs} {E : XK} (D : DefX X ["self", "order", "pieces", "bad", "ordered", "good", "coins"] ["check_pieces"]) (hc : X.calm = true) (hr : Room 2 X.A) (hK : Passes (CXK X.prog X.w) X E) (B : Bl X.mg) (T : Txt X.K X.mg c)
    (F_Shop_find_order : MtK X c.shop "find_order" 1 ["self", "order"] (sp_find_order c)) (F_check_pieces : FnK X "check_pieces" 1 ["out", "pieces", "bad"] (sp_check_pieces c))
    (F_Shop_check_till : MtK X c.shop "check_till" 1 ["self", "coins"] (sp_check_till c)) (F_Shop_strike_off : MtK X c.shop "strike_off" 1 ["self", "ordered", "pieces"] (sp_strike_off c))
    {vs : List V} {H : Hp} {Q : VK} (h : sp_came c vs H Q E) :
    ∃ t, PSs X (defBody s_Shop_came) t ∧ t { nx := fun _ H' => Q .non H', rt := Q } (start ["self", "order", "pieces", "bad", "ordered", "good", "coins"] vs) H := by
  obtain ⟨s, n, ps, x, o, p, b, rfl, ⟨S, w, ok, lo, ls, lb⟩, k⟩ := h
  refine ⟨_, (pss_cons (ps_setD D 4 (pe_mt F_Shop_find_order T.clShop (hr.mono (by decide)) hK (pvF D 0) (pa_cons (pvF D 1) pa_nil))) (pss_cons (ps_expr (pe_fnD D 0 F_check_pieces (hr.mono (by decide)) hK (pa_cons (pe_fldC T.clOrder T.na_Order_owed (pvF D 4)) (pa_cons (pvF D 2) (pa_cons (pvF D 3) pa_nil))))) (pss_cons (ps_setD D 5 (pe_op op_subF (pvF D 2) (pvF D 3))) (pss_cons (ps_setD D 6 (pe_op op_mulF (pvF D 5) (pe_fldC T.clOrder T.na_Order_price (pvF D 4)))) (pss_cons (ps_expr (pe_mt F_Shop_check_till T.clShop (hr.mono (by decide)) hK (pvF D 0) (pa_cons (pvF D 6) pa_nil))) (pss_cons (ps_fldI ip_sub T.clShop T.na_Shop_till (pvF D 0) (pvF D 6)) (pss_cons (ps_lstI ip_add (pe_fldC T.clShop T.na_Shop_shelf (pvF D 0)) (pe_fldC T.clOrder T.na_Order_kind (pvF D 4)) (pvF D 5)) (pss_cons (ps_expr (pe_mt F_Shop_strike_off T.clShop (hr.mono (by decide)) hK (pvF D 0) (pa_cons (pvF D 4) (pa_cons (pvF D 5) pa_nil)))) (pss_cons (ps_expr (pe_append (pe_fldC T.clShop T.na_Shop_entries (pvF D 0)) (pe_tup (pa_cons pe_str (pa_cons (pvF D 1) (pa_cons (pvF D 5) (pa_cons (pvF D 6) pa_nil))))))) (pss_one (ps_ret (pvF D 5)))))))))))), ?_⟩
  show (_ : TS) _ ([some (.ref s.a), some (.int o), some (.int p), some (.int b), none, none, none] : St) H
  simp_arith [S.m_find_order]
  refine ⟨s, ps, x, o, rfl, S, ?_⟩
  have hsl := w.wf.shelf
  have hol := w.ow
  cases h1 : openOrder x.m o with
  | none => exact k.no (w := .noOrder) (by simp only [refusal, h1])
  | some r =>
  obtain ⟨kd, ow, pr⟩ := r
  obtain ⟨h2, h3⟩ := openOrder_some h1
  obtain ⟨g1, g2⟩ := getD_at (z := (0, 0, 0)) h2
  obtain ⟨q1, q2, q3, q4⟩ := w.wf.orders _ g2
  obtain ⟨_, _, ho⟩ := at?_some h2
  intro a dx ha hos
  simp_arith [o_owed ha]
  refine ⟨_, _, _, rfl, ?_⟩
  cases h4 : piecesWord ow p b with
  | some v => exact k.no (w := v) (by simp only [refusal, h1, h4])
  | none =>
  obtain ⟨p1, p2, p3, p4⟩ := piecesWord_none h4
  simp_arith [o_price ha, S.m_check_till]
  refine ⟨(q3.le (show 0 ≤ p - b by omega) (show p - b ≤ ow by omega)).mul q4, s, ps, x, _, rfl, S, ?_⟩
  by_cases h5 : (p - b) * pr > x.m.till
  · rw [if_pos h5]
    exact k.no (w := .broke) (by simp only [refusal, h1, h4, if_pos h5])
  rw [if_neg h5]
  have k := k.yes (by simp only [refusal, h1, h4, if_neg h5])
  simp_arith [S.i_till, S.s_till]
  have S1 := S.setTill (x.m.till - (p - b) * pr)
  have K1 := (Kept.refl H s.own).upd (a := s.a) (u := .ins c.shop s.dx (shopF (x.m.till - (p - b) * pr) s.pr s.sh s.ow s.od s.sl s.en)) (by simp [Ad.own])
  generalize upd H s.a (.ins c.shop s.dx (shopF (x.m.till - (p - b) * pr) s.pr s.sh s.ow s.od s.sl s.en)) = H1 at S1 K1 ⊢
  obtain ⟨a1, dx1, _, ha1, hos1⟩ := S1.order (o := o) (r := (kd, ow, pr)) h2
  rw [hos] at hos1
  cases hos1
  have hk : kd.toNat < x.m.shelf.length := by omega
  have ev : x.m.shelf[kd.toNat]? = some (x.m.shelf[kd.toNat]) := List.getElem?_eq_getElem hk
  have r1 : kd < (x.m.shelf.length : Int) := by omega
  simp_arith [S1.k_shelf, o_kind ha1, kL2 S1.shelf q1 ev, kL3 S1.shelf r1]
  have S2 := S1.setShelf (x.m.shelf.set kd.toNat (x.m.shelf[kd.toNat] + (p - b)))
  have K2 := K1.upd (a := s.sh) (u := .lst ((x.m.shelf.set kd.toNat (x.m.shelf[kd.toNat] + (p - b))).map V.int)) (by simp [Ad.own])
  generalize upd H1 s.sh (.lst ((x.m.shelf.set kd.toNat (x.m.shelf[kd.toNat] + (p - b))).map V.int)) = H2 at S2 K2 ⊢
  simp_arith [S2.m_strike_off]
  refine ⟨s, ps, _, a, p - b, o.toNat, (kd, ow, pr), rfl, S2, hos, ho, q1, by show kd < (x.ow.length : Int); omega, fun H3 S3 K3 => ?_⟩
  obtain ⟨es0, ee0, _⟩ := S3.ents
  simp_arith [S3.k_entries]
  refine ⟨tyV_lst ee0, fun t ht => ?_⟩
  refine ent_end S3 ht ⟨"came", o, p - b, (p - b) * pr⟩ lb (K2.trans K3) (S3.fresh ht) fun H5 S5 K5 => ?_
  have k' := k H5 s.os s.ss
  simp only [doneX, did, owedAfter, addAt, getD_of ev, g1, entryOf] at k'
  exact k' S5 K5
abbrev s_Shop_give_up : Stmt := inClass (top 14) 3
theorem sc_Shop_give_up : FnScope ["self", "order", "ordered", "pieces"] ["self", "order"] (defScope s_Shop_give_up) := ⟨rfl, rfl, rfl, by decide +kernel, rfl, by decide +kernel, by decide +kernel⟩
theorem dx_Shop_give_up {X : Cx} (hN : X.N = (["self", "order", "ordered", "pieces"] : List Str)) (hs : X.env.scope = defScope s_Shop_give_up) (hf : ∀ x, X.fn x = true) : DefX X ["self", "order", "ordered", "pieces"] [] :=
  ⟨hN, by decide +kernel, fun x hx => by unfold L2.Loc; rw [hs]; revert x hx; decide +kernel, fun x hx => by unfold Gl Env.kindOf; rw [hs]; revert x hx; decide +kernel, by decide +kernel, by decide +kernel, by decide +kernel, hf⟩
def sp_give_up (c : Cs) : Sp := fun vs H Q E => ∃ (s : Ad) (n : Nat) (ps : List Int) (x : Sx) (o : Int), vs = [.ref s.a, .int o] ∧ Pre c n ps H s x (.giveUp o) ∧ AfterX c ps H s x (.giveUp o) Q E
theorem rd_give_up {X : Cx} {c : Cs} {E : XK} (D : DefX X ["self", "order", "ordered", "pieces"] []) (hc : X.calm = true) (hr : Room 2 X.A) (hK : Passes (CXK X.prog X.w) X E) (B : Bl X.mg) (T : Txt X.K X.mg c)
    (F_Shop_find_order : MtK X c.shop "find_order" 1 ["self", "order"] (sp_find_order c)) (F_Shop_strike_off : MtK X c.shop "strike_off" 1 ["self", "ordered", "pieces"] (sp_strike_off c))
    {vs : List V} {H : Hp} {Q : VK} (h : sp_give_up c vs H Q E) :
    ∃ t, PSs X (defBody s_Shop_give_up) t ∧ t { nx := fun _ H' => Q .non H', rt := Q } (start ["self", "order", "ordered", "pieces"] vs) H := by
  obtain ⟨s, n, ps, x, o, rfl, ⟨S, w, ok, lo, ls, lb⟩, k⟩ := h
  refine ⟨_, (pss_cons (ps_setD D 2 (pe_mt F_Shop_find_order T.clShop (hr.mono (by decide)) hK (pvF D 0) (pa_cons (pvF D 1) pa_nil))) (pss_cons (ps_setD D 3 (pe_fldC T.clOrder T.na_Order_owed (pvF D 2))) (pss_cons (ps_expr (pe_mt F_Shop_strike_off T.clShop (hr.mono (by decide)) hK (pvF D 0) (pa_cons (pvF D 2) (pa_cons (pvF D 3) pa_nil)))) (pss_cons (ps_expr (pe_append (pe_fldC T.clShop T.na_Shop_entries (pvF D 0)) (pe_tup (pa_cons pe_str (pa_cons (pvF D 1) (pa_cons (pvF D 3) (pa_cons pe_int pa_nil))))))) (pss_one (ps_ret (pvF D 3))))))), ?_⟩
  show (_ : TS) _ ([some (.ref s.a), some (.int o), none, none] : St) H
  simp_arith [S.m_find_order]
  refine ⟨s, ps, x, o, rfl, S, ?_⟩
  have hol := w.ow
  cases h1 : openOrder x.m o with
  | none => exact k.no (w := .noOrder) (by simp only [refusal, h1])
  | some r =>
  obtain ⟨kd, ow, pr⟩ := r
  obtain ⟨h2, h3⟩ := openOrder_some h1
  obtain ⟨g1, g2⟩ := getD_at (z := (0, 0, 0)) h2
  obtain ⟨q1, q2, q3, q4⟩ := w.wf.orders _ g2
  obtain ⟨_, _, ho⟩ := at?_some h2
  have k := k.yes (by simp only [refusal, h1])
  intro a dx ha hos
  simp_arith [o_owed ha, S.m_strike_off]
  refine ⟨s, ps, _, a, ow, o.toNat, (kd, ow, pr), rfl, S, hos, ho, q1, by show kd < (x.ow.length : Int); omega, fun H3 S3 K3 => ?_⟩
  obtain ⟨es0, ee0, _⟩ := S3.ents
  simp_arith [S3.k_entries]
  refine ⟨tyV_lst ee0, fun t ht => ?_⟩
  refine ent_end S3 ht ⟨"given up", o, ow, 0⟩ lb K3 (S3.fresh ht) fun H5 S5 K5 => ?_
  have k' := k H5 s.os s.ss
  simp only [doneX, did, owedAfter, g1, entryOf] at k'
  simp only [Int.sub_self] at S5
  exact k' S5 K5
abbrev s_Shop_sell : Stmt := inClass (top 14) 4
theorem sc_Shop_sell : FnScope ["self", "kind", "pieces", "number", "coins"] ["self", "kind", "pieces"] (defScope s_Shop_sell) := ⟨rfl, rfl, rfl, by decide +kernel, rfl, by decide +kernel, by decide +kernel⟩
theorem dx_Shop_sell {X : Cx} (hN : X.N = (["self", "kind", "pieces", "number", "coins"] : List Str)) (hs : X.env.scope = defScope s_Shop_sell) (hf : ∀ x, X.fn x = true) : DefX X ["self", "kind", "pieces", "number", "coins"] ["len", "NoMany", "TooFew", "Sale"] :=
  ⟨hN, by decide +kernel, fun x hx => by unfold L2.Loc; rw [hs]; revert x hx; decide +kernel, fun x hx => by unfold Gl Env.kindOf; rw [hs]; revert x hx; decide +kernel, by decide +kernel, by decide +kernel, by decide +kernel, hf⟩
def sp_sell (c : Cs) : Sp := fun vs H Q E => ∃ (s : Ad) (n : Nat) (ps : List Int) (x : Sx) (k p : Int), vs = [.ref s.a, .int k, .int p] ∧ Pre c n ps H s x (.sell k p) ∧ AfterX c ps H s x (.sell k p) Q E
theorem rd_sell {X : Cx} {c : Cs} {E : XK} (D : DefX X ["self", "kind", "pieces", "number", "coins"] ["len", "NoMany", "TooFew", "Sale"]) (hc : X.calm = true) (hr : Room 2 X.A) (hR : Raises X E) (hK : Passes (CXK X.prog X.w) X E) (B : Bl X.mg) (T : Txt X.K X.mg c)
    (F_Shop_check_kind : MtK X c.shop "check_kind" 1 ["self", "kind"] (sp_check_kind c)) (F_Sale : Mc0 X c.sale 1 ["self", "kind", "pieces"] (sp_Sale c))
    {vs : List V} {H : Hp} {Q : VK} (h : sp_sell c vs H Q E) :
    ∃ t, PSs X (defBody s_Shop_sell) t ∧ t { nx := fun _ H' => Q .non H', rt := Q } (start ["self", "kind", "pieces", "number", "coins"] vs) H := by
  obtain ⟨s, n, ps, x, kk, pp, rfl, ⟨S, w, ok, lo, ls, lb⟩, k⟩ := h
  refine ⟨_, (pss_cons (ps_expr (pe_mt F_Shop_check_kind T.clShop (hr.mono (by decide)) hK (pvF D 0) (pa_cons (pvF D 1) pa_nil))) (pss_cons (ps_if (pt_cmpF op_ltF (pvF D 2) pe_int (nomark _)) (pss_one (ps_raiseD D 1 hR hc T.mgNoMany T.exNoMany (pa_cons pe_str pa_nil))) pss_nil) (pss_cons (ps_if (pt_cmpF op_gtF (pvF D 2) (pe_ixF (pe_fldC T.clShop T.na_Shop_shelf (pvF D 0)) (pvF D 1)) (nomark _)) (pss_one (ps_raiseD D 2 hR hc T.mgTooFew T.exTooFew (pa_cons pe_str pa_nil))) pss_nil) (pss_cons (ps_setD D 3 (pe_callBD D 0 call_lenF B.len bt_len (pa_cons (pe_fldC T.clShop T.na_Shop_sales (pvF D 0)) pa_nil))) (pss_cons (ps_setD D 4 (pe_op op_mulF (pvF D 2) (pe_ixF (pe_fldC T.clShop T.na_Shop_prices (pvF D 0)) (pvF D 1)))) (pss_cons (ps_expr (pe_append (pe_fldC T.clShop T.na_Shop_sales (pvF D 0)) (pe_mc F_Sale (hr.mono (by decide)) (D.gl 3) T.mgSale pass0 (pa_cons (pvF D 1) (pa_cons (pvF D 2) pa_nil)) (D.dg 3)))) (pss_cons (ps_lstI ip_sub (pe_fldC T.clShop T.na_Shop_shelf (pvF D 0)) (pvF D 1) (pvF D 2)) (pss_cons (ps_fldI ip_add T.clShop T.na_Shop_till (pvF D 0) (pvF D 4)) (pss_cons (ps_expr (pe_append (pe_fldC T.clShop T.na_Shop_entries (pvF D 0)) (pe_tup (pa_cons pe_str (pa_cons (pvF D 3) (pa_cons (pvF D 2) (pa_cons (pvF D 4) pa_nil))))))) (pss_one (ps_ret (pvF D 3)))))))))))), ?_⟩
  show (_ : TS) _ ([some (.ref s.a), some (.int kk), some (.int pp), none, none] : St) H
  simp_arith [S.m_check_kind]
  refine ⟨s, ps, x, kk, rfl, S, ?_⟩
  have hsl := w.wf.shelf
  have hpl := w.pl
  cases h1 : at? x.m.shelf kk with
  | none =>
    have := at?_none h1
    rw [if_pos (by omega)]
    exact k.no (w := .noKind) (by simp only [refusal, h1])
  | some v =>
  obtain ⟨h0, hlt, hv⟩ := at?_some h1
  rw [if_neg (by omega)]
  simp_arith [S.k_shelf, sq_lst S.shelf, atI_ints h0 hv]
  by_cases h2 : pp < 1
  · rw [if_pos h2]
    exact k.no (w := .noMany) (by simp only [refusal, h1, if_pos h2])
  rw [if_neg h2]
  by_cases h3 : pp > v
  · rw [if_pos h3]
    exact k.no (w := .tooFew) (by simp only [refusal, h1, if_neg h2, if_pos h3])
  rw [if_neg h3]
  have k := k.yes (by simp only [refusal, h1, if_neg h2, if_neg h3])
  have hkp : kk.toNat < ps.length := by omega
  have ep : ps[kk.toNat]? = some (ps[kk.toNat]) := List.getElem?_eq_getElem hkp
  have spr : Sm (ps[kk.toNat]) := w.psm _ (List.getElem_mem hkp)
  simp_arith [S.k_sales, sq_lst S.sales, List.length_map, S.slen, S.k_prices, sq_lst S.prices, atI_ints h0 ep]
  refine ⟨Sm.mul ok spr, tyV_lst S.sales, fun p dp hp hdp ne => ⟨p, dp, kk, pp, rfl, upd_same, rfl, ?_⟩⟩
  rw [upd_upd]
  have hp1 : upd H dp (.own p) p = none := by rw [upd_ne (Ne.symm ne)]; exact hp
  have S2 := (S.same (upd_self (o := .own p) hdp)).same (upd_self (o := .ins c.sale dp (saleF (kk, pp, 0))) hp1)
  have K2 : Kept H _ s.own (s.wo s.os (s.ss ++ [p])).own := ((Kept.refl H s.own).add (u := .own p) hdp (S.fresh hdp) (fun b hb => .inl hb)).add (u := .ins c.sale dp (saleF (kk, pp, 0))) hp1 (S.fresh hp) wo_s
  have d2 : upd (upd H dp (.own p)) p (.ins c.sale dp (saleF (kk, pp, 0))) p = some (.ins c.sale dp (saleF (kk, pp, ps[kk.toNat]))) := upd_same
  generalize upd (upd H dp (.own p)) p (.ins c.sale dp (saleF (kk, pp, 0))) = H2 at S2 K2 d2 ⊢
  try walk_at "ev"
  refine ⟨_, S2.sales, by rw [List.length_map, S.slen]; exact small1000 (by omega), ?_⟩
  have S3 := S2.newSale d2 (S.fresh hp)
  have K3 := K2.upd (a := s.sl) (u := .lst (s.ss.map V.ref ++ [.ref p])) (by simp [Ad.own, Ad.wo])
  generalize upd H2 s.sl (.lst (s.ss.map V.ref ++ [.ref p])) = H3 at S3 K3 ⊢
  have f3 : ∀ {Q : VK}, kFldC c.shop "shelf" Q (.ref s.a) H3 = Q (.ref s.sh) H3 := S3.k_shelf
  have r1 : kk < (x.m.shelf.length : Int) := hlt
  simp_arith [f3, kL2 S3.shelf h0 hv, kL3 S3.shelf r1]
  have S4 := S3.setShelf (x.m.shelf.set kk.toNat (v - pp))
  have K4 := K3.upd (a := s.sh) (u := .lst ((x.m.shelf.set kk.toNat (v - pp)).map V.int)) (by simp [Ad.own, Ad.wo])
  generalize upd H3 s.sh (.lst ((x.m.shelf.set kk.toNat (v - pp)).map V.int)) = H4 at S4 K4 ⊢
  have i4 : ∀ {g : Int → Int → Int} {tb : TE} {D : Ends} {σ : St}, kFi1 c.shop g tb "till" D σ (.ref s.a) H4 = tb σ H4 (kFi2 c.shop g "till" D σ (.ref s.a) (.int x.m.till)) := S4.i_till
  have s4 : ∀ {g : Int → Int → Int} {D : Ends} {σ : St} {i j : Int}, kFi2 c.shop g "till" D σ (.ref s.a) (.int i) (.int j) H4 = D.nx σ (upd H4 s.a (.ins c.shop s.dx (shopF (g i j) s.pr s.sh s.ow s.od s.sl s.en))) := S4.s_till
  simp_arith [i4, s4]
  have S5 := S4.setTill (x.m.till + pp * ps[kk.toNat])
  have K5 := K4.upd (a := s.a) (u := .ins c.shop s.dx (shopF (x.m.till + pp * ps[kk.toNat]) s.pr s.sh s.ow s.od s.sl s.en)) (by simp [Ad.own, Ad.wo])
  generalize upd H4 s.a (.ins c.shop s.dx (shopF (x.m.till + pp * ps[kk.toNat]) s.pr s.sh s.ow s.od s.sl s.en)) = H5 at S5 K5 ⊢
  have f5 : ∀ {Q : VK}, kFldC c.shop "entries" Q (.ref s.a) H5 = Q (.ref s.en) H5 := S5.k_entries
  obtain ⟨es0, ee0, _⟩ := S5.ents
  simp_arith [f5]
  refine ⟨tyV_lst ee0, fun t ht => ?_⟩
  refine ent_end S5 ht ⟨"sold", x.m.sales.length, pp, pp * ps[kk.toNat]⟩ lb K5 (S5.out (fun b hb => hb) (fun b hb => List.mem_append_left _ hb) ht) fun H6 S6 K6 => ?_
  refine k H6 _ _ ?_ K6
  simp only [doneX, did, owedAfter, addAt, getD_of ep, getD_of hv, entryOf, ← Int.sub_eq_add_neg]
  exact S6
abbrev s_Shop_back : Stmt := inClass (top 14) 5
theorem sc_Shop_back : FnScope ["self", "sale", "pieces", "sold", "coins"] ["self", "sale", "pieces"] (defScope s_Shop_back) := ⟨rfl, rfl, rfl, by decide +kernel, rfl, by decide +kernel, by decide +kernel⟩
theorem dx_Shop_back {X : Cx} (hN : X.N = (["self", "sale", "pieces", "sold", "coins"] : List Str)) (hs : X.env.scope = defScope s_Shop_back) (hf : ∀ x, X.fn x = true) : DefX X ["self", "sale", "pieces", "sold", "coins"] ["check_pieces"] :=
  ⟨hN, by decide +kernel, fun x hx => by unfold L2.Loc; rw [hs]; revert x hx; decide +kernel, fun x hx => by unfold Gl Env.kindOf; rw [hs]; revert x hx; decide +kernel, by decide +kernel, by decide +kernel, by decide +kernel, hf⟩
def sp_back (c : Cs) : Sp := fun vs H Q E => ∃ (s : Ad) (n : Nat) (ps : List Int) (x : Sx) (o p : Int), vs = [.ref s.a, .int o, .int p] ∧ Pre c n ps H s x (.back o p) ∧ AfterX c ps H s x (.back o p) Q E
theorem rd_back {X : Cx} {c : Cs} {E : XK} (D : DefX X ["self", "sale", "pieces", "sold", "coins"] ["check_pieces"]) (hc : X.calm = true) (hr : Room 2 X.A) (hK : Passes (CXK X.prog X.w) X E) (B : Bl X.mg) (T : Txt X.K X.mg c)
    (F_Shop_find_sale : MtK X c.shop "find_sale" 1 ["self", "sale"] (sp_find_sale c)) (F_check_pieces : FnK X "check_pieces" 1 ["out", "pieces", "bad"] (sp_check_pieces c))
    (F_Shop_check_till : MtK X c.shop "check_till" 1 ["self", "coins"] (sp_check_till c))
    {vs : List V} {H : Hp} {Q : VK} (h : sp_back c vs H Q E) :
    ∃ t, PSs X (defBody s_Shop_back) t ∧ t { nx := fun _ H' => Q .non H', rt := Q } (start ["self", "sale", "pieces", "sold", "coins"] vs) H := by
  obtain ⟨s, n, ps, x, o, p, rfl, ⟨S, w, ok, lo, ls, lb⟩, k⟩ := h
  refine ⟨_, (pss_cons (ps_setD D 3 (pe_mt F_Shop_find_sale T.clShop (hr.mono (by decide)) hK (pvF D 0) (pa_cons (pvF D 1) pa_nil))) (pss_cons (ps_expr (pe_fnD D 0 F_check_pieces (hr.mono (by decide)) hK (pa_cons (pe_fldC T.clSale T.na_Sale_out (pvF D 3)) (pa_cons (pvF D 2) (pa_cons pe_int pa_nil))))) (pss_cons (ps_setD D 4 (pe_op op_mulF (pvF D 2) (pe_ixF (pe_fldC T.clShop T.na_Shop_prices (pvF D 0)) (pe_fldC T.clSale T.na_Sale_kind (pvF D 3))))) (pss_cons (ps_expr (pe_mt F_Shop_check_till T.clShop (hr.mono (by decide)) hK (pvF D 0) (pa_cons (pvF D 4) pa_nil))) (pss_cons (ps_fldI ip_sub T.clShop T.na_Shop_till (pvF D 0) (pvF D 4)) (pss_cons (ps_lstI ip_add (pe_fldC T.clShop T.na_Shop_shelf (pvF D 0)) (pe_fldC T.clSale T.na_Sale_kind (pvF D 3)) (pvF D 2)) (pss_cons (ps_fldI ip_sub T.clSale T.na_Sale_out (pvF D 3) (pvF D 2)) (pss_cons (ps_expr (pe_append (pe_fldC T.clShop T.na_Shop_entries (pvF D 0)) (pe_tup (pa_cons pe_str (pa_cons (pvF D 1) (pa_cons (pvF D 2) (pa_cons (pvF D 4) pa_nil))))))) (pss_one (ps_ret (pvF D 4))))))))))), ?_⟩
  show (_ : TS) _ ([some (.ref s.a), some (.int o), some (.int p), none, none] : St) H
  simp_arith [S.m_find_sale]
  refine ⟨s, ps, x, o, rfl, S, ?_⟩
  have hsl := w.wf.shelf
  have hpl := w.pl
  cases h2 : at? x.m.sales o with
  | none => exact k.no (w := .noSale) (by simp only [refusal, h2])
  | some r =>
  obtain ⟨kd, ou, pr⟩ := r
  obtain ⟨g1, g2⟩ := getD_at (z := (0, 0, 0)) h2
  obtain ⟨q1, q2, q3, q4⟩ := w.wf.sales _ g2
  obtain ⟨_, _, ho⟩ := at?_some h2
  have epr : pr = ps.getD kd.toNat 0 := w.sp _ g2
  have hkp : kd.toNat < ps.length := by have : kd < (n : Int) := q2; have : 0 ≤ kd := q1; omega
  have ep : ps[kd.toNat]? = some pr := by rw [epr, getD_of (List.getElem?_eq_getElem hkp)]; exact List.getElem?_eq_getElem hkp
  intro a dx ha hos
  simp_arith [l_out ha]
  refine ⟨_, _, _, rfl, ?_⟩
  cases h4 : piecesWord ou p 0 with
  | some v => exact k.no (w := v) (by simp only [refusal, h2, h4])
  | none =>
  obtain ⟨p1, p2, p3, p4⟩ := piecesWord_none h4
  simp_arith [S.k_prices, sq_lst S.prices, l_kind ha, atI_ints q1 ep, S.m_check_till]
  refine ⟨(q3.le (show 0 ≤ p by omega) (show p ≤ ou by omega)).mul q4, s, ps, x, _, rfl, S, ?_⟩
  by_cases h5 : p * pr > x.m.till
  · rw [if_pos h5]
    exact k.no (w := .broke) (by simp only [refusal, h2, h4, if_pos h5])
  rw [if_neg h5]
  have k := k.yes (by simp only [refusal, h2, h4, if_neg h5])
  simp_arith [S.i_till, S.s_till]
  have S1 := S.setTill (x.m.till - p * pr)
  have K1 := (Kept.refl H s.own).upd (a := s.a) (u := .ins c.shop s.dx (shopF (x.m.till - p * pr) s.pr s.sh s.ow s.od s.sl s.en)) (by simp [Ad.own])
  generalize upd H s.a (.ins c.shop s.dx (shopF (x.m.till - p * pr) s.pr s.sh s.ow s.od s.sl s.en)) = H1 at S1 K1 ⊢
  obtain ⟨a1, dx1, _, ha1, hos1⟩ := S1.sale (o := o) (r := (kd, ou, pr)) h2
  rw [hos] at hos1
  cases hos1
  have hk : kd.toNat < x.m.shelf.length := by have : kd < (n : Int) := q2; have : 0 ≤ kd := q1; omega
  have ev : x.m.shelf[kd.toNat]? = some (x.m.shelf[kd.toNat]) := List.getElem?_eq_getElem hk
  have r1 : kd < (x.m.shelf.length : Int) := by have : 0 ≤ kd := q1; omega
  simp_arith [S1.k_shelf, l_kind ha1, kL2 S1.shelf q1 ev, kL3 S1.shelf r1]
  have S2 := S1.setShelf (x.m.shelf.set kd.toNat (x.m.shelf[kd.toNat] + p))
  have K2 := K1.upd (a := s.sh) (u := .lst ((x.m.shelf.set kd.toNat (x.m.shelf[kd.toNat] + p)).map V.int)) (by simp [Ad.own])
  generalize upd H1 s.sh (.lst ((x.m.shelf.set kd.toNat (x.m.shelf[kd.toNat] + p)).map V.int)) = H2 at S2 K2 ⊢
  obtain ⟨a2, dx2, _, ha2, hos2⟩ := S2.sale (o := o) (r := (kd, ou, pr)) h2
  rw [hos] at hos2
  cases hos2
  simp_arith [l_iout ha2, l_sout ha2]
  have S3 := S2.setSale (dz := dx2) hos ha2 (fun _ q => nomatch q) (kd, ou - p, pr)
  have K3 := K2.upd (a := a) (u := .ins c.sale dx2 (saleF (kd, ou - p, pr))) (by simp [Ad.own, List.mem_of_getElem? hos])
  generalize upd H2 a (.ins c.sale dx2 (saleF (kd, ou - p, pr))) = H3 at S3 K3 ⊢
  obtain ⟨es0, ee0, _⟩ := S3.ents
  simp_arith [S3.k_entries]
  refine ⟨tyV_lst ee0, fun t ht => ?_⟩
  refine ent_end S3 ht ⟨"back", o, p, p * pr⟩ lb K3 (S3.fresh ht) fun H5 S5 K5 => ?_
  have k' := k H5 s.os s.ss
  simp only [doneX, did, owedAfter, addAt, getD_of ev, g1, entryOf] at k'
  exact k' S5 K5
abbrev s_do_deed : Stmt := top 18
theorem sc_do_deed : FnScope ["shop", "deed", "word"] ["shop", "deed"] (defScope s_do_deed) := ⟨rfl, rfl, rfl, by decide +kernel, rfl, by decide +kernel, by decide +kernel⟩
theorem dx_do_deed {X : Cx} (hN : X.N = (["shop", "deed", "word"] : List Str)) (hs : X.env.scope = defScope s_do_deed) (hf : ∀ x, X.fn x = true) : DefX X ["shop", "deed", "word"] [] :=
  ⟨hN, by decide +kernel, fun x hx => by unfold L2.Loc; rw [hs]; revert x hx; decide +kernel, fun x hx => by unfold Gl Env.kindOf; rw [hs]; revert x hx; decide +kernel, by decide +kernel, by decide +kernel, by decide +kernel, hf⟩
def sp_do_deed (c : Cs) : Sp := fun vs H Q E => ∃ (s : Ad) (t : Addr) (n : Nat) (ps : List Int) (x : Sx) (d : Deed), vs = [.ref s.a, .ref t] ∧ H t = some (.tup d.tup) ∧ Pre c n ps H s x d ∧ AfterX c ps H s x d Q E
theorem rd_do_deed {X : Cx} {c : Cs} {E : XK} (D : DefX X ["shop", "deed", "word"] []) (hr : Room 3 X.A) (hK : Passes (CXK X.prog X.w) X E) (T : Txt X.K X.mg c)
    (F_Shop_order : MtK X c.shop "order" 3 ["self", "kind", "pieces", "price"] (sp_order c)) (F_Shop_came : MtK X c.shop "came" 3 ["self", "order", "pieces", "bad"] (sp_came c)) (F_Shop_give_up : MtK X c.shop "give_up" 3 ["self", "order"] (sp_give_up c))
    (F_Shop_sell : MtK X c.shop "sell" 3 ["self", "kind", "pieces"] (sp_sell c)) (F_Shop_back : MtK X c.shop "back" 3 ["self", "sale", "pieces"] (sp_back c))
    {vs : List V} {H : Hp} {Q : VK} (h : sp_do_deed c vs H Q E) :
    ∃ t, PSs X (defBody s_do_deed) t ∧ t { nx := fun _ H' => Q .non H', rt := Q } (start ["shop", "deed", "word"] vs) H := by
  obtain ⟨s, t, n, ps, x, d, rfl, ht, P, k⟩ := h
  refine ⟨_, (pss_cons (ps_setD D 2 (pe_ixF (pvF D 1) pe_int)) (pss_cons (ps_if (pt_cmpF op_eq (pvF D 2) pe_str (nomark _)) (pss_one (ps_ret (pe_mt F_Shop_order T.clShop (hr.mono (by decide)) hK (pvF D 0) (pa_cons (pe_ixF (pvF D 1) pe_int) (pa_cons (pe_ixF (pvF D 1) pe_int) (pa_cons (pe_ixF (pvF D 1) pe_int) pa_nil)))))) pss_nil) (pss_cons (ps_if (pt_cmpF op_eq (pvF D 2) pe_str (nomark _)) (pss_one (ps_ret (pe_mt F_Shop_came T.clShop (hr.mono (by decide)) hK (pvF D 0) (pa_cons (pe_ixF (pvF D 1) pe_int) (pa_cons (pe_ixF (pvF D 1) pe_int) (pa_cons (pe_ixF (pvF D 1) pe_int) pa_nil)))))) pss_nil) (pss_cons (ps_if (pt_cmpF op_eq (pvF D 2) pe_str (nomark _)) (pss_one (ps_ret (pe_mt F_Shop_give_up T.clShop (hr.mono (by decide)) hK (pvF D 0) (pa_cons (pe_ixF (pvF D 1) pe_int) pa_nil)))) pss_nil) (pss_cons (ps_if (pt_cmpF op_eq (pvF D 2) pe_str (nomark _)) (pss_one (ps_ret (pe_mt F_Shop_sell T.clShop (hr.mono (by decide)) hK (pvF D 0) (pa_cons (pe_ixF (pvF D 1) pe_int) (pa_cons (pe_ixF (pvF D 1) pe_int) pa_nil))))) pss_nil) (pss_one (ps_ret (pe_mt F_Shop_back T.clShop (hr.mono (by decide)) hK (pvF D 0) (pa_cons (pe_ixF (pvF D 1) pe_int) (pa_cons (pe_ixF (pvF D 1) pe_int) pa_nil)))))))))), ?_⟩
  show (_ : TS) _ ([some (.ref s.a), some (.ref t), none] : St) H
  have S := P.at_
  cases d with
  | order kk p q =>
    simp_arith [sq_tup ht, Deed.tup, atI0, atI1, atI2, atI3, S.m_order]
    exact ⟨s, n, ps, x, kk, p, q, rfl, P, k⟩
  | came o p b =>
    simp_arith [sq_tup ht, Deed.tup, atI0, atI1, atI2, atI3, S.m_came, ne_came_order]
    exact ⟨s, n, ps, x, o, p, b, rfl, P, k⟩
  | giveUp o =>
    simp_arith [sq_tup ht, Deed.tup, atI0, atI1, S.m_give_up, ne_give_order, ne_give_came]
    exact ⟨s, n, ps, x, o, rfl, P, k⟩
  | sell kk p =>
    simp_arith [sq_tup ht, Deed.tup, atI0, atI1, atI2, S.m_sell, ne_sell_order, ne_sell_came, ne_sell_give]
    exact ⟨s, n, ps, x, kk, p, rfl, P, k⟩
  | back o p =>
    simp_arith [sq_tup ht, Deed.tup, atI0, atI1, atI2, S.m_back, ne_back_order, ne_back_came, ne_back_give, ne_back_sell]
    exact ⟨s, n, ps, x, o, p, rfl, P, k⟩
/-- which refusal is taken by which class -/
def wi : W → Nat
  | .noKind => 0 | .noOrder => 1 | .noSale => 2 | .noMany => 3 | .tooMany => 4 | .tooFew => 5 | .broke => 6
def Exm (K : PySem.W.Frag) (c : Cs) : Prop := ∀ w v : W, wi v ≤ wi w → PySem.W.exmOne K (.ref (c.w w)) (.ref (c.w v)) = some (decide (w = v))
abbrev s_answer_deed : Stmt := top 17
theorem sc_answer_deed : FnScope ["shop", "deed"] ["shop", "deed"] (defScope s_answer_deed) := ⟨rfl, rfl, rfl, by decide +kernel, rfl, by decide +kernel, by decide +kernel⟩
theorem dx_answer_deed {X : Cx} (hN : X.N = (["shop", "deed"] : List Str)) (hs : X.env.scope = defScope s_answer_deed) (hf : ∀ x, X.fn x = true) : DefX X ["shop", "deed"] ["NoKind", "NoOrder", "NoSale", "NoMany", "TooMany", "TooFew", "Broke", "do_deed"] :=
  ⟨hN, by decide +kernel, fun x hx => by unfold L2.Loc; rw [hs]; revert x hx; decide +kernel, fun x hx => by unfold Gl Env.kindOf; rw [hs]; revert x hx; decide +kernel, by decide +kernel, by decide +kernel, by decide +kernel, hf⟩
def sp_answer_deed (c : Cs) : Sp := fun vs H Q E => ∃ (s : Ad) (t : Addr) (n : Nat) (ps : List Int) (x : Sx) (d : Deed), vs = [.ref s.a, .ref t] ∧ H t = some (.tup d.tup) ∧ Pre c n ps H s x d ∧
  ∀ (H' : Hp) (os ss : List Addr), ShAt c ps H' (s.wo os ss) (stepX ps x d) → Kept H H' s.own (s.wo os ss).own → Q (step ps x.m d).1.v H'
theorem rd_answer_deed {X : Cx} {c : Cs} {E : XK} (D : DefX X ["shop", "deed"] ["NoKind", "NoOrder", "NoSale", "NoMany", "TooMany", "TooFew", "Broke", "do_deed"]) (hr : Room 4 X.A) (hk : X.stack = X.env :: X.outer) (hf : X.env.frame = some X.env.locals) (hx : X.ex = []) (T : Txt X.K X.mg c) (M : Exm X.K c)
    (F_do_deed : FnK X "do_deed" 4 ["shop", "deed"] (sp_do_deed c)) {vs : List V} {H : Hp} {Q : VK} (h : sp_answer_deed c vs H Q E) :
    ∃ t, PSs X (defBody s_answer_deed) t ∧ t { nx := fun _ H' => Q .non H', rt := Q } (start ["shop", "deed"] vs) H := by
  obtain ⟨s, t, n, ps, x, d, rfl, ht, P, k⟩ := h
  refine ⟨_, (pss_one (ps_try hk hf hx (psa_ret (pea_fnD D 7 F_do_deed (hr.mono (by decide)) (pa_cons (pvF D.nox 0) (pa_cons (pvF D.nox 1) pa_nil)))) (.cons (D.gl 0) T.mgNoKind (D.dg 0) (fun _ => (pss_one (ps_ret pe_str))) (.cons (D.gl 1) T.mgNoOrder (D.dg 1) (fun _ => (pss_one (ps_ret pe_str))) (.cons (D.gl 2) T.mgNoSale (D.dg 2) (fun _ => (pss_one (ps_ret pe_str))) (.cons (D.gl 3) T.mgNoMany (D.dg 3) (fun _ => (pss_one (ps_ret pe_str))) (.cons (D.gl 4) T.mgTooMany (D.dg 4) (fun _ => (pss_one (ps_ret pe_str))) (.cons (D.gl 5) T.mgTooFew (D.dg 5) (fun _ => (pss_one (ps_ret pe_str))) (.cons (D.gl 6) T.mgBroke (D.dg 6) (fun _ => (pss_one (ps_ret pe_str))) .nil))))))))), ?_⟩
  show (_ : TS) _ ([some (.ref s.a), some (.ref t)] : St) H
  walk_at "ev"
  refine ⟨s, t, n, ps, x, d, rfl, ht, P, ?_⟩
  unfold AfterX
  cases h1 : refusal x.m d with
  | none =>
    intro H' os ss S' K'
    have e1 : stepX ps x d = doneX ps x d := by unfold stepX; rw [h1]
    have e2 : (step ps x.m d).1.v = .int (did ps x.m d).1 := by unfold Sb.step; rw [h1]; rfl
    have q := k H' os ss (by rw [e1]; exact S') K'
    rw [e2] at q
    exact q
  | some w =>
    have e1 : stepX ps x d = x := by unfold stepX; rw [h1]
    have e2 : (step ps x.m d).1.v = .str w.str := by unfold Sb.step; rw [h1]; rfl
    have q := k H s.os s.ss (by rw [e1]; exact P.at_) (Kept.refl H _)
    rw [e2] at q
    have m := M w
    cases w with
    | noKind => exact .inl ⟨m .noKind (by decide), q⟩
    | noOrder => exact .inr ⟨m .noKind (by decide), .inl ⟨m .noOrder (by decide), q⟩⟩
    | noSale => exact .inr ⟨m .noKind (by decide), .inr ⟨m .noOrder (by decide), .inl ⟨m .noSale (by decide), q⟩⟩⟩
    | noMany => exact .inr ⟨m .noKind (by decide), .inr ⟨m .noOrder (by decide), .inr ⟨m .noSale (by decide), .inl ⟨m .noMany (by decide), q⟩⟩⟩⟩
    | tooMany => exact .inr ⟨m .noKind (by decide), .inr ⟨m .noOrder (by decide), .inr ⟨m .noSale (by decide), .inr ⟨m .noMany (by decide), .inl ⟨m .tooMany (by decide), q⟩⟩⟩⟩⟩
    | tooFew => exact .inr ⟨m .noKind (by decide), .inr ⟨m .noOrder (by decide), .inr ⟨m .noSale (by decide), .inr ⟨m .noMany (by decide), .inr ⟨m .tooMany (by decide), .inl ⟨m .tooFew (by decide), q⟩⟩⟩⟩⟩⟩
    | broke => exact .inr ⟨m .noKind (by decide), .inr ⟨m .noOrder (by decide), .inr ⟨m .noSale (by decide), .inr ⟨m .noMany (by decide), .inr ⟨m .tooMany (by decide), .inr ⟨m .tooFew (by decide), .inl ⟨m .broke (by decide), q⟩⟩⟩⟩⟩⟩⟩
/-- a shop in the making -/
structure In (c : Cs) (z dz : Addr) (H Hk : Hp) (fs : List (Str × V)) (m : Nat) : Prop where
  ob : Hk z = some (.ins c.shop dz fs)
  bx : ∀ b u, H b = some u → b ≠ z → Hk b = some u
  len : fs.length ≤ m
section
variable {c : Cs} {z dz p : Addr} {H Hk : Hp} {fs : List (Str × V)} {m : Nat} {o : HO}
theorem In.tmp (I : In c z dz H Hk fs m) (hp : Hk p = none) : In c z dz H (upd Hk p o) fs m :=
  ⟨uo I.ob (ne_of_none I.ob hp), fun b u e n => uo (I.bx b u e n) (ne_of_none (I.bx b u e n) hp), I.len⟩
theorem In.set (I : In c z dz H Hk fs m) (f : Str) (v : V) : In c z dz H (upd Hk z (.ins c.shop dz (putF f v fs))) (putF f v fs) (m + 1) :=
  ⟨upd_same, fun b u e n => uo (I.bx b u e n) n, by have := length_putF f v fs; have := I.len; omega⟩
theorem In.new (I : In c z dz H Hk fs m) (hp : Hk p = none) : p ≠ z ∧ H p = none := by
  have n : p ≠ z := (ne_of_none I.ob hp).symm
  refine ⟨n, ?_⟩
  cases e : H p with
  | none => rfl
  | some u => rw [I.bx p u e n] at hp; cases hp
/-- what is there stays, beside z -/
theorem stay2 {b : Addr} {u v : HO} (h : Hk b = some u) (n : b ≠ z) (hp : Hk p = none) : upd (upd Hk p o) z v b = some u := uo (uo h (ne_of_none h hp)) n
end
theorem sf_new (t : Int) (pr sh ow od sl en : Addr) : putF "entries" (.ref en) (putF "sales" (.ref sl) (putF "orders" (.ref od) (putF "owed" (.ref ow) (putF "shelf" (.ref sh) (putF "prices" (.ref pr) (putF "till" (.int t) [])))))) = shopF t pr sh ow od sl en := by kernel_rfl
abbrev s_Shop___init__ : Stmt := inClass (top 14) 0
theorem sc_Shop___init__ : FnScope ["self", "till", "prices"] ["self", "till", "prices"] (defScope s_Shop___init__) := ⟨rfl, rfl, rfl, by decide +kernel, rfl, by decide +kernel, by decide +kernel⟩
theorem dx_Shop___init__ {X : Cx} (hN : X.N = (["self", "till", "prices"] : List Str)) (hs : X.env.scope = defScope s_Shop___init__) (hf : ∀ x, X.fn x = true) : DefX X ["self", "till", "prices"] ["list", "len"] :=
  ⟨hN, by decide +kernel, fun x hx => by unfold L2.Loc; rw [hs]; revert x hx; decide +kernel, fun x hx => by unfold Gl Env.kindOf; rw [hs]; revert x hx; decide +kernel, by decide +kernel, by decide +kernel, by decide +kernel, hf⟩
def sp_Shop (c : Cs) : Sp := fun vs H Q _ => ∃ (z dz l : Addr) (t : Int) (ps : List Int), vs = [.ref z, .int t, .ref l] ∧ H z = some (.ins c.shop dz []) ∧ H l = some (.lst (ps.map V.int)) ∧ ps.length ≤ 900 ∧
  ∀ (H' : Hp) (s : Ad), s.a = z → s.os = [] → s.ss = [] → ShAt c ps H' s (newX t ps.length) → (∀ b u, H b = some u → b ≠ z → H' b = some u) → (∀ b ∈ s.own, b = z ∨ H b = none) → Q .non H'
theorem rd_Shop {X : Cx} {c : Cs} {E : XK} (D : DefX X ["self", "till", "prices"] ["list", "len"]) (B : Bl X.mg) (T : Txt X.K X.mg c) {vs : List V} {H : Hp} {Q : VK} (h : sp_Shop c vs H Q E) :
    ∃ t, PSs X (defBody s_Shop___init__) t ∧ t { nx := fun _ H' => Q .non H', rt := Q } (start ["self", "till", "prices"] vs) H := by
  obtain ⟨z, dz, l, t, ps, rfl, hz, hl, hpl, k⟩ := h
  refine ⟨_, (pss_cons (ps_fldC T.clShop T.na_Shop_till (pvF D 0) (pvF D 1)) (pss_cons (ps_fldC T.clShop T.na_Shop_prices (pvF D 0) (pe_callTyD D 0 call_listF B.list bt_list (pa_cons (pvF D 2) pa_nil))) (pss_cons (ps_fldC T.clShop T.na_Shop_shelf (pvF D 0) (pe_op op_rep (pe_lst (pa_cons pe_int pa_nil)) (pe_callBD D 1 call_lenF B.len bt_len (pa_cons (pvF D 2) pa_nil)))) (pss_cons (ps_fldC T.clShop T.na_Shop_owed (pvF D 0) (pe_op op_rep (pe_lst (pa_cons pe_int pa_nil)) (pe_callBD D 1 call_lenF B.len bt_len (pa_cons (pvF D 2) pa_nil)))) (pss_cons (ps_fldC T.clShop T.na_Shop_orders (pvF D 0) (pe_lst pa_nil)) (pss_cons (ps_fldC T.clShop T.na_Shop_sales (pvF D 0) (pe_lst pa_nil)) (pss_one (ps_fldC T.clShop T.na_Shop_entries (pvF D 0) (pe_lst pa_nil))))))))), ?_⟩
  show (_ : TS) _ ([some (.ref z), some (.int t), some (.ref l)] : St) H
  have nl : l ≠ z := ne_of hl hz (fun q => nomatch q)
  have I0 : In c z dz H H [] 0 := ⟨hz, fun _ _ e _ => e, Nat.le_refl _⟩
  have ez : (List.replicate ((List.map V.int ps).length : Int).toNat [V.int 0]).flatten = (List.replicate ps.length (0 : Int)).map V.int := by simp
  simp_arith [kSf hz (show ([] : List (Str × V)).length < 1000 by decide)]
  have I1 := I0.set "till" (.int t)
  generalize upd H z (.ins c.shop dz (putF "till" (.int t) [])) = H1 at I1 ⊢
  refine ⟨_, sq_lst (I1.bx _ _ hl nl), fun pr hpr => ?_⟩
  rw [kSf (I1.tmp hpr).ob (by have := I1.len; omega)]
  have I2 := (I1.tmp (o := .lst (ps.map V.int)) hpr).set "prices" (.ref pr)
  obtain ⟨npr, fpr⟩ := I1.new hpr
  have d2 : upd (upd H1 pr (.lst (ps.map V.int))) z (.ins c.shop dz (putF "prices" (.ref pr) (putF "till" (.int t) []))) pr = some (.lst (ps.map V.int)) := uo upd_same npr
  generalize upd (upd H1 pr (.lst (ps.map V.int))) z (.ins c.shop dz (putF "prices" (.ref pr) (putF "till" (.int t) []))) = H2 at I2 d2 ⊢
  -- shelf
  walk_at "ev"
  intro t1 ht1
  have J2 := I2.tmp (o := .lst [.int 0]) ht1
  have e2 : upd H2 t1 (.lst [.int 0]) t1 = some (.lst [.int 0]) := upd_same
  have p2 := uo (u := .lst [.int 0]) d2 (ne_of_none d2 ht1)
  generalize upd H2 t1 (.lst [.int 0]) = G2 at J2 e2 p2 ⊢
  refine ⟨_, sq_lst (J2.bx _ _ hl nl), _, e2, by omega, by rw [List.length_map]; omega, small_sz (by simp; omega), fun sh hsh => ?_⟩
  rw [ez, kSf (J2.tmp hsh).ob (by have := I2.len; omega)]
  have I3 := (J2.tmp (o := .lst ((List.replicate ps.length (0 : Int)).map V.int)) hsh).set "shelf" (.ref sh)
  obtain ⟨nsh, fsh⟩ := J2.new hsh
  have x1 := ne_of_none p2 hsh
  have p3 := stay2 (z := z) (p := sh) (o := .lst ((List.replicate ps.length (0 : Int)).map V.int)) (v := .ins c.shop dz (putF "shelf" (.ref sh) (putF "prices" (.ref pr) (putF "till" (.int t) [])))) p2 npr hsh
  have s3 : upd (upd G2 sh (.lst ((List.replicate ps.length (0 : Int)).map V.int))) z (.ins c.shop dz (putF "shelf" (.ref sh) (putF "prices" (.ref pr) (putF "till" (.int t) [])))) sh = some (.lst ((List.replicate ps.length (0 : Int)).map V.int)) := uo upd_same nsh
  generalize upd (upd G2 sh (.lst ((List.replicate ps.length (0 : Int)).map V.int))) z (.ins c.shop dz (putF "shelf" (.ref sh) (putF "prices" (.ref pr) (putF "till" (.int t) [])))) = H3 at I3 p3 s3 ⊢
  -- owed
  walk_at "ev"
  intro t2 ht2
  have J3 := I3.tmp (o := .lst [.int 0]) ht2
  have e3 : upd H3 t2 (.lst [.int 0]) t2 = some (.lst [.int 0]) := upd_same
  have p4 := uo (u := .lst [.int 0]) p3 (ne_of_none p3 ht2)
  have s4 := uo (u := .lst [.int 0]) s3 (ne_of_none s3 ht2)
  generalize upd H3 t2 (.lst [.int 0]) = G3 at J3 e3 p4 s4 ⊢
  refine ⟨_, sq_lst (J3.bx _ _ hl nl), _, e3, by omega, by rw [List.length_map]; omega, small_sz (by simp; omega), fun ow how => ?_⟩
  rw [ez, kSf (J3.tmp how).ob (by have := I3.len; omega)]
  generalize hf3 : putF "shelf" (.ref sh) (putF "prices" (.ref pr) (putF "till" (.int t) [])) = f3 at I3 J3 ⊢
  have I4 := (J3.tmp (o := .lst ((List.replicate ps.length (0 : Int)).map V.int)) how).set "owed" (.ref ow)
  obtain ⟨now, fow⟩ := J3.new how
  have x2 := ne_of_none p4 how
  have x3 := ne_of_none s4 how
  have p5 := stay2 (z := z) (p := ow) (o := .lst ((List.replicate ps.length (0 : Int)).map V.int)) (v := .ins c.shop dz (putF "owed" (.ref ow) f3)) p4 npr how
  have s5 := stay2 (z := z) (p := ow) (o := .lst ((List.replicate ps.length (0 : Int)).map V.int)) (v := .ins c.shop dz (putF "owed" (.ref ow) f3)) s4 nsh how
  have w5 : upd (upd G3 ow (.lst ((List.replicate ps.length (0 : Int)).map V.int))) z (.ins c.shop dz (putF "owed" (.ref ow) f3)) ow = some (.lst ((List.replicate ps.length (0 : Int)).map V.int)) := uo upd_same now
  generalize upd (upd G3 ow (.lst ((List.replicate ps.length (0 : Int)).map V.int))) z (.ins c.shop dz (putF "owed" (.ref ow) f3)) = H4 at I4 p5 s5 w5 ⊢
  generalize hf4 : putF "owed" (.ref ow) f3 = f4 at I4 ⊢
  -- orders
  walk_at "ev"
  intro od hod
  rw [kSf (I4.tmp hod).ob (by have := I4.len; omega)]
  have I5 := (I4.tmp (o := .lst []) hod).set "orders" (.ref od)
  obtain ⟨nod, fod⟩ := I4.new hod
  have x4 := ne_of_none p5 hod
  have x5 := ne_of_none s5 hod
  have x6 := ne_of_none w5 hod
  have p6 := stay2 (z := z) (p := od) (o := .lst []) (v := .ins c.shop dz (putF "orders" (.ref od) f4)) p5 npr hod
  have s6 := stay2 (z := z) (p := od) (o := .lst []) (v := .ins c.shop dz (putF "orders" (.ref od) f4)) s5 nsh hod
  have w6 := stay2 (z := z) (p := od) (o := .lst []) (v := .ins c.shop dz (putF "orders" (.ref od) f4)) w5 now hod
  have o6 : upd (upd H4 od (.lst [])) z (.ins c.shop dz (putF "orders" (.ref od) f4)) od = some (.lst []) := uo upd_same nod
  generalize upd (upd H4 od (.lst [])) z (.ins c.shop dz (putF "orders" (.ref od) f4)) = H5 at I5 p6 s6 w6 o6 ⊢
  generalize hf5 : putF "orders" (.ref od) f4 = f5 at I5 ⊢
  -- sales
  walk_at "ev"
  intro sl hsl
  rw [kSf (I5.tmp hsl).ob (by have := I5.len; omega)]
  have I6 := (I5.tmp (o := .lst []) hsl).set "sales" (.ref sl)
  obtain ⟨nsl, fsl⟩ := I5.new hsl
  have x7 := ne_of_none p6 hsl
  have x8 := ne_of_none s6 hsl
  have x9 := ne_of_none w6 hsl
  have x10 := ne_of_none o6 hsl
  have p7 := stay2 (z := z) (p := sl) (o := .lst []) (v := .ins c.shop dz (putF "sales" (.ref sl) f5)) p6 npr hsl
  have s7 := stay2 (z := z) (p := sl) (o := .lst []) (v := .ins c.shop dz (putF "sales" (.ref sl) f5)) s6 nsh hsl
  have w7 := stay2 (z := z) (p := sl) (o := .lst []) (v := .ins c.shop dz (putF "sales" (.ref sl) f5)) w6 now hsl
  have o7 := stay2 (z := z) (p := sl) (o := .lst []) (v := .ins c.shop dz (putF "sales" (.ref sl) f5)) o6 nod hsl
  have l7 : upd (upd H5 sl (.lst [])) z (.ins c.shop dz (putF "sales" (.ref sl) f5)) sl = some (.lst []) := uo upd_same nsl
  generalize upd (upd H5 sl (.lst [])) z (.ins c.shop dz (putF "sales" (.ref sl) f5)) = H6 at I6 p7 s7 w7 o7 l7 ⊢
  generalize hf6 : putF "sales" (.ref sl) f5 = f6 at I6 ⊢
  -- entries
  walk_at "ev"
  intro en hen
  rw [kSf (I6.tmp hen).ob (by have := I6.len; omega)]
  have I7 := (I6.tmp (o := .lst []) hen).set "entries" (.ref en)
  obtain ⟨nen, fen⟩ := I6.new hen
  have x11 := ne_of_none p7 hen
  have x12 := ne_of_none s7 hen
  have x13 := ne_of_none w7 hen
  have x14 := ne_of_none o7 hen
  have x15 := ne_of_none l7 hen
  have p8 := stay2 (z := z) (p := en) (o := .lst []) (v := .ins c.shop dz (putF "entries" (.ref en) f6)) p7 npr hen
  have s8 := stay2 (z := z) (p := en) (o := .lst []) (v := .ins c.shop dz (putF "entries" (.ref en) f6)) s7 nsh hen
  have w8 := stay2 (z := z) (p := en) (o := .lst []) (v := .ins c.shop dz (putF "entries" (.ref en) f6)) w7 now hen
  have o8 := stay2 (z := z) (p := en) (o := .lst []) (v := .ins c.shop dz (putF "entries" (.ref en) f6)) o7 nod hen
  have l8 := stay2 (z := z) (p := en) (o := .lst []) (v := .ins c.shop dz (putF "entries" (.ref en) f6)) l7 nsl hen
  have n8 : upd (upd H6 en (.lst [])) z (.ins c.shop dz (putF "entries" (.ref en) f6)) en = some (.lst []) := uo upd_same nen
  generalize upd (upd H6 en (.lst [])) z (.ins c.shop dz (putF "entries" (.ref en) f6)) = H7 at I7 p8 s8 w8 o8 l8 n8 ⊢
  subst hf6 hf5 hf4 hf3
  have ob := I7.ob
  rw [sf_new] at ob
  refine k H7 ⟨z, dz, pr, sh, ow, od, sl, en, [], []⟩ rfl rfl rfl ⟨ob, p8, s8, w8, o8, l8, ⟨[], n8, .nil⟩, .nil, .nil, ?_⟩ I7.bx fun b hb => ?_
  · simp [Ad.own, npr.symm, nsh.symm, now.symm, nod.symm, nsl.symm, nen.symm, x1, x2, x3, x4, x5, x6, x7, x8, x9, x10, x11, x12, x13, x14, x15]
  · simp only [Ad.own, List.append_nil, List.mem_cons, List.not_mem_nil, or_false] at hb
    rcases hb with rfl | rfl | rfl | rfl | rfl | rfl | rfl
    · exact .inl rfl
    · exact .inr fpr
    · exact .inr fsh
    · exact .inr fow
    · exact .inr fod
    · exact .inr fsl
    · exact .inr fen
abbrev s_states : Stmt := top 16
theorem sc_states : FnScope ["till", "prices", "deeds", "shop", "told", "deed"] ["till", "prices", "deeds"] (defScope s_states) := ⟨rfl, rfl, rfl, by decide +kernel, rfl, by decide +kernel, by decide +kernel⟩
theorem dx_states {X : Cx} (hN : X.N = (["till", "prices", "deeds", "shop", "told", "deed"] : List Str)) (hs : X.env.scope = defScope s_states) (hf : ∀ x, X.fn x = true) : DefX X ["till", "prices", "deeds", "shop", "told", "deed"] ["Shop", "answer_deed", "list"] :=
  ⟨hN, by decide +kernel, fun x hx => by unfold L2.Loc; rw [hs]; revert x hx; decide +kernel, fun x hx => by unfold Gl Env.kindOf; rw [hs]; revert x hx; decide +kernel, by decide +kernel, by decide +kernel, by decide +kernel, hf⟩
def sp_states : Sp := fun vs H Q _ => ∃ (t : Int) (a b : Addr) (ps : List Int) (rs : List V) (ds : List Deed), vs = [.int t, .ref a, .ref b] ∧ DayPre H t a b ps rs ds ∧
  ∀ (H' : Hp) (l : Addr) (es : List V), Same H H' → H l = none → H' l = some (.lst es) → StsAt H' [] es (runX ps (newX t ps.length) ds) → Q (.ref l) H'
theorem rd_states {X : Cx} {c : Cs} {E : XK} (D : DefX X ["till", "prices", "deeds", "shop", "told", "deed"] ["Shop", "answer_deed", "list"]) (hc : X.calm = true) (hp : PassesOwn (model X.prog X.w) X.A X.env X.xe) (hr : Room 14 X.A) (B : Bl X.mg) (T : Txt X.K X.mg c)
    (F_Shop : Mc0 X c.shop 1 ["self", "till", "prices"] (sp_Shop c)) (F_answer_deed : Fn0 X "answer_deed" 5 ["shop", "deed"] (sp_answer_deed c))
    {vs : List V} {H : Hp} {Q : VK} (h : sp_states vs H Q E) :
    ∃ t, PSs X (defBody s_states) t ∧ t { nx := fun _ H' => Q .non H', rt := Q } (start ["till", "prices", "deeds", "shop", "told", "deed"] vs) H := by
  obtain ⟨t, a, b, ps, rs, ds, rfl, ⟨t0, ts, ha, pl1, pl2, psm, hb, hds, ok, hdl⟩, k⟩ := h
  refine ⟨_, (pss_cons (ps_setD D 3 (pe_mc F_Shop (hr.mono (by decide)) (D.gl 0) T.mgShop pass0 (pa_cons (pvF D 0) (pa_cons (pvF D 1) pa_nil)) (D.dg 0))) (pss_cons (ps_setD D 4 (pe_lst pa_nil)) (pss_cons (ps_for hp hc (pi_list (pvF D 2)) (pg_nameD D 5) (pss_cons (ps_expr (pe_fnD D 1 F_answer_deed (hr.mono (by decide)) pass0 (pa_cons (pvF D 3) (pa_cons (pvF D 5) pa_nil)))) (pss_one (ps_expr (pe_append (pvF D 4) (pe_tup (pa_cons (pe_fldC T.clShop T.na_Shop_till (pvF D 3)) (pa_cons (pe_callTyD D 2 call_listF B.list bt_list (pa_cons (pe_fldC T.clShop T.na_Shop_shelf (pvF D 3)) pa_nil)) (pa_cons (pe_callTyD D 2 call_listF B.list bt_list (pa_cons (pe_fldC T.clShop T.na_Shop_owed (pvF D 3)) pa_nil)) pa_nil))))))))) (pss_one (ps_ret (pvF D 4)))))), ?_⟩
  show (_ : TS) _ ([some (.int t), some (.ref a), some (.ref b), none, none, none] : St) H
  walk_at "ev"
  intro z dz hz hdz ne
  have hz1 : upd H dz (.own z) z = none := by rw [upd_ne (Ne.symm ne)]; exact hz
  have q1 : Same H (upd (upd H dz (.own z)) z (.ins c.shop dz [])) := (upd_self (o := .own z) hdz).trans (upd_self hz1)
  refine ⟨z, dz, a, t, ps, rfl, upd_same, q1 _ _ ha, by omega, fun H1 s e1 e2 e3 S1 bx nw => ⟨rfl, ?_⟩⟩
  have q2 : Same H H1 := fun y u e => bx y u (q1 y u e) (ne_of_none e hz)
  have nw1 : ∀ y ∈ s.own, H y = none := fun y hy => by
    rcases nw y hy with rfl | q
    · exact hz
    · exact q1.free q
  obtain ⟨sa, sdx, spr, ssh, sow, sod, ssl, sen, sos, sss⟩ := s
  dsimp only at e1 e2 e3
  subst e1 e2 e3
  have Y0 : Day c ps t H H1 ⟨sa, sdx, spr, ssh, sow, sod, ssl, sen, [], []⟩ ds 0 := ⟨S1, Wx.new fun p hp => (psm p hp).2, q2, nw1⟩
  try walk_at "ev"
  intro l hl
  have hrl := Paired.length hds
  have ql := Same.upd (o := .lst []) q2 hl
  refine ⟨⟨_, .of (ql _ _ hb)⟩, for_list (xs := rs) (fun i σ' H2 => ∃ os ss v es, σ' = [some (.int t), some (.ref a), some (.ref b), some (.ref sa), some (.ref l), v] ∧ i ≤ ds.length ∧ Day c ps t H H2 (Ad.wo ⟨sa, sdx, spr, ssh, sow, sod, ssl, sen, [], []⟩ os ss) ds i ∧ H2 l = some (.lst es) ∧ H l = none ∧
      l ∉ (Ad.wo ⟨sa, sdx, spr, ssh, sow, sod, ssl, sen, [], []⟩ os ss).own ∧ StsAt H2 (l :: (Ad.wo ⟨sa, sdx, spr, ssh, sow, sod, ssl, sen, [], []⟩ os ss).own) es (runX ps (newX t ps.length) (ds.take i)))
    ⟨[], [], none, [], rfl, Nat.zero_le _, ⟨S1.same (upd_self hl), Y0.wf, ql, nw1⟩, upd_same, q2.free hl, S1.fresh hl, .nil⟩ (fun i σ' H2 _ h => ?_) (fun i x σ' H2 hx h => ?_) (fun σ' H2 h => ?_)⟩
  · obtain ⟨os, ss, v, es, rfl, hi, Y, _⟩ := h
    exact .of (Y.same _ _ hb)
  · obtain ⟨os, ss, v, es, rfl, hi, Y, hl2, hl0, lo, st⟩ := h
    obtain ⟨ad, dd, rfl, hdd, had⟩ := DeedsAt.at hds hx
    have hmem := List.mem_of_getElem? hdd
    have hil : i < ds.length := (List.getElem?_eq_some_iff.mp hdd).1
    walk_at "ev"
    refine ⟨Ad.wo ⟨sa, sdx, spr, ssh, sow, sod, ssl, sen, [], []⟩ os ss, ad, ps.length, ps, _, dd, rfl, Y.same _ _ had, Y.pre (ok dd hmem) hdl, fun H3 os' ss' S3 K3 => ?_⟩
    have Y3 := Y.next (ok dd hmem) hdd S3 K3
    obtain ⟨hl3, lo3⟩ := K3.stay hl2 lo
    have st3 := st.kept (K3.cons l)
    have f1 : ∀ {Q : VK}, kFldC c.shop "till" Q (.ref sa) H3 = Q (.int (stepX ps (afterX ps (newX t ps.length) (ds.take i)) dd).m.till) H3 := S3.k_till
    have f2 : ∀ {Q : VK}, kFldC c.shop "shelf" Q (.ref sa) H3 = Q (.ref ssh) H3 := S3.k_shelf
    have d2 : H3 ssh = some (.lst ((stepX ps (afterX ps (newX t ps.length) (ds.take i)) dd).m.shelf.map V.int)) := S3.shelf
    simp_arith [f1, f2, sq_lst d2]
    refine ⟨tyV_lst hl3, fun g1 hg1 => ?_⟩
    have S4 := S3.same (upd_self (o := .lst ((stepX ps (afterX ps (newX t ps.length) (ds.take i)) dd).m.shelf.map V.int)) hg1)
    have K4 := (Kept.refl H3 (l :: (Ad.wo ⟨sa, sdx, spr, ssh, sow, sod, ssl, sen, [], []⟩ os' ss').own)).add (u := .lst ((stepX ps (afterX ps (newX t ps.length) (ds.take i)) dd).m.shelf.map V.int)) hg1 (fun m => by
      rcases List.mem_cons.mp m with rfl | m
      · rw [hl3] at hg1; cases hg1
      · exact S3.fresh hg1 m) (fun b hb => .inl hb)
    have e4 : upd H3 g1 (.lst ((stepX ps (afterX ps (newX t ps.length) (ds.take i)) dd).m.shelf.map V.int)) g1 = _ := upd_same
    have g1o : g1 ∉ l :: (Ad.wo ⟨sa, sdx, spr, ssh, sow, sod, ssl, sen, [], []⟩ os' ss').own := fun m => by
      rcases List.mem_cons.mp m with rfl | m
      · rw [hl3] at hg1; cases hg1
      · exact S3.fresh hg1 m
    have hl4 : upd H3 g1 (.lst ((stepX ps (afterX ps (newX t ps.length) (ds.take i)) dd).m.shelf.map V.int)) l = some (.lst es) := uo hl3 (ne_of_none hl3 hg1)
    have sm4 := Same.upd (o := .lst ((stepX ps (afterX ps (newX t ps.length) (ds.take i)) dd).m.shelf.map V.int)) Y3.same hg1
    generalize upd H3 g1 (.lst ((stepX ps (afterX ps (newX t ps.length) (ds.take i)) dd).m.shelf.map V.int)) = H4 at S4 K4 e4 hl4 sm4 ⊢
    have f3 : ∀ {Q : VK}, kFldC c.shop "owed" Q (.ref sa) H4 = Q (.ref sow) H4 := S4.k_owed
    have d3 : H4 sow = some (.lst ((stepX ps (afterX ps (newX t ps.length) (ds.take i)) dd).ow.map V.int)) := S4.owed
    simp_arith [f3, sq_lst d3]
    intro g2 hg2
    have S5 := S4.same (upd_self (o := .lst ((stepX ps (afterX ps (newX t ps.length) (ds.take i)) dd).ow.map V.int)) hg2)
    have g2o : g2 ∉ l :: (Ad.wo ⟨sa, sdx, spr, ssh, sow, sod, ssl, sen, [], []⟩ os' ss').own := fun m => by
      rcases List.mem_cons.mp m with rfl | m
      · rw [hl4] at hg2; cases hg2
      · exact S4.fresh hg2 m
    have K5 := K4.add (u := .lst ((stepX ps (afterX ps (newX t ps.length) (ds.take i)) dd).ow.map V.int)) hg2 g2o (fun b hb => .inl hb)
    have e5 := uo (u := .lst ((stepX ps (afterX ps (newX t ps.length) (ds.take i)) dd).ow.map V.int)) e4 (ne_of_none e4 hg2)
    have e6 : upd H4 g2 (.lst ((stepX ps (afterX ps (newX t ps.length) (ds.take i)) dd).ow.map V.int)) g2 = _ := upd_same
    have hl5 := uo (u := .lst ((stepX ps (afterX ps (newX t ps.length) (ds.take i)) dd).ow.map V.int)) hl4 (ne_of_none hl4 hg2)
    have sm5 := Same.upd (o := .lst ((stepX ps (afterX ps (newX t ps.length) (ds.take i)) dd).ow.map V.int)) sm4 hg2
    generalize upd H4 g2 (.lst ((stepX ps (afterX ps (newX t ps.length) (ds.take i)) dd).ow.map V.int)) = H5 at S5 K5 e5 e6 hl5 sm5 ⊢
    intro g3 hg3
    have g3o : g3 ∉ l :: (Ad.wo ⟨sa, sdx, spr, ssh, sow, sod, ssl, sen, [], []⟩ os' ss').own := fun m => by
      rcases List.mem_cons.mp m with rfl | m
      · rw [hl5] at hg3; cases hg3
      · exact S5.fresh hg3 m
    have K6 := K5.add (u := .tup [.int (stepX ps (afterX ps (newX t ps.length) (ds.take i)) dd).m.till, .ref g1, .ref g2]) hg3 g3o (fun b hb => .inl hb)
    have S6 := S5.same (upd_self (o := .tup [.int (stepX ps (afterX ps (newX t ps.length) (ds.take i)) dd).m.till, .ref g1, .ref g2]) hg3)
    have h1 := uo (u := .tup [.int (stepX ps (afterX ps (newX t ps.length) (ds.take i)) dd).m.till, .ref g1, .ref g2]) e5 (ne_of_none e5 hg3)
    have h2 := uo (u := .tup [.int (stepX ps (afterX ps (newX t ps.length) (ds.take i)) dd).m.till, .ref g1, .ref g2]) e6 (ne_of_none e6 hg3)
    have h3 : upd H5 g3 (.tup [.int (stepX ps (afterX ps (newX t ps.length) (ds.take i)) dd).m.till, .ref g1, .ref g2]) g3 = _ := upd_same
    have hl6 := uo (u := .tup [.int (stepX ps (afterX ps (newX t ps.length) (ds.take i)) dd).m.till, .ref g1, .ref g2]) hl5 (ne_of_none hl5 hg3)
    have sm6 := Same.upd (o := .tup [.int (stepX ps (afterX ps (newX t ps.length) (ds.take i)) dd).m.till, .ref g1, .ref g2]) sm5 hg3
    generalize upd H5 g3 (.tup [.int (stepX ps (afterX ps (newX t ps.length) (ds.take i)) dd).m.till, .ref g1, .ref g2]) = H6 at S6 K6 h1 h2 h3 hl6 sm6 ⊢
    have st6 : StsAt H6 (l :: (Ad.wo ⟨sa, sdx, spr, ssh, sow, sod, ssl, sen, [], []⟩ os' ss').own) (es ++ [.ref g3]) (runX ps (newX t ps.length) (ds.take (i + 1))) := by
      rw [runX_take hdd]
      exact (st3.kept K6).app (.cons ⟨g3, g1, g2, rfl, h3, h1, h2, g3o, g1o, g2o⟩ .nil)
    have les := Paired.length st
    rw [runX_length, List.length_take] at les
    refine ⟨_, hl6, small1000 (by omega), hil, os', ss', ⟨?_, Y3.wf, fun y u e => uo (sm6 y u e) (ne_of_none e hl0), Y3.new⟩, _, upd_same, hl0, lo3, st6.kept ((Kept.refl H6 _).upd (a := l) (List.mem_cons_self ..))⟩
    exact ShAt.off (by rw [show afterX ps (newX t ps.length) (ds.take (i + 1)) = stepX ps (afterX ps (newX t ps.length) (ds.take i)) dd by rw [take_at hdd, afterX_append]; rfl]; exact S6) hl6 (fun _ q => nomatch q) lo3
  · obtain ⟨os, ss, v, es, rfl, hi, Y, hl2, hl0, lo, st⟩ := h
    rw [hrl, List.take_length] at st
    walk_at "ev"
    exact k H2 l es Y.same hl0 hl2 st.none
abbrev s_came_by : Stmt := top 23
theorem sc_came_by : FnScope ["_law_rest", "_law_salt", "_law_more", "_law_made", "_law_k", "_law_menu", "_law_bad", "_law_late", "_law_odd", "_law_pieces"] ["_law_rest", "_law_salt", "_law_more", "_law_made", "_law_k"] (defScope s_came_by) := ⟨rfl, rfl, rfl, by decide +kernel, rfl, by decide +kernel, by decide +kernel⟩
theorem dx_came_by {X : Cx} (hN : X.N = (["_law_rest", "_law_salt", "_law_more", "_law_made", "_law_k", "_law_menu", "_law_bad", "_law_late", "_law_odd", "_law_pieces"] : List Str)) (hs : X.env.scope = defScope s_came_by) (hf : ∀ x, X.fn x = true) : DefX X ["_law_rest", "_law_salt", "_law_more", "_law_made", "_law_k", "_law_menu", "_law_bad", "_law_late", "_law_odd", "_law_pieces"] ["max"] :=
  ⟨hN, by decide +kernel, fun x hx => by unfold L2.Loc; rw [hs]; revert x hx; decide +kernel, fun x hx => by unfold Gl Env.kindOf; rw [hs]; revert x hx; decide +kernel, by decide +kernel, by decide +kernel, by decide +kernel, hf⟩
def sp_came_by : Sp := fun vs H Q _ => ∃ (a b c d e : Int), vs = [.int a, .int b, .int c, .int d, .int e] ∧ ∀ (H' : Hp) (r : Addr) (o p q : Int), Same H H' → H r = none → H' r = some (.tup (Deed.came o p q).tup) → Q (.ref r) H'
theorem rd_came_by {X : Cx} (D : DefX X ["_law_rest", "_law_salt", "_law_more", "_law_made", "_law_k", "_law_menu", "_law_bad", "_law_late", "_law_odd", "_law_pieces"] ["max"]) (hc : X.calm = true) (hr : Room 0 X.A) (B : Bl X.mg) {vs : List V} {H : Hp} {Q : VK} {E : XK} (h : sp_came_by vs H Q E) :
    ∃ t, PSs X (defBody s_came_by) t ∧ t { nx := fun _ H' => Q .non H', rt := Q } (start ["_law_rest", "_law_salt", "_law_more", "_law_made", "_law_k", "_law_menu", "_law_bad", "_law_late", "_law_odd", "_law_pieces"] vs) H := by
  obtain ⟨a, b, c, d, e, rfl, k⟩ := h
  refine ⟨_, (pss_cons (ps_setD D 5 (pe_lst (pa_ints rfl))) (pss_cons (ps_setD D 6 (pe_menu (pa_cons pe_int (pa_cons pe_int (pa_cons pe_int (pa_cons pe_int (pa_cons pe_int (pa_cons (pe_op op_modF (pe_op op_fdivF (pvF D 1) pe_int) pe_int) (pa_cons pe_int (pa_cons (pe_un un_neg pe_int) pa_nil)))))))) (pe_op op_modF (pe_op op_addF (pe_op op_fdivF (pvF D 1) pe_int) (pvF D 4)) pe_int))) (pss_cons (ps_setD D 7 (pe_op op_subF (pe_op op_subF (pvF D 3) pe_int) (pe_menu (pa_cons (pe_op op_modF (pvF D 0) pe_int) (pa_cons (pe_op op_modF (pvF D 0) (pe_callBD D 0 (call_max2 hc) B.max bt_max (pa_cons pe_int (pa_cons (pvF D 3) pa_nil)))) pa_nil)) (pe_op op_modF (pvF D 1) pe_int)))) (pss_cut (ps_if (pt_cmpF op_eq (pe_op op_modF (pvF D 1) pe_int) pe_int (nomark _)) (pss_cons (ps_setD D 8 (pe_op op_modF (pvF D 0) (pe_op op_powF pe_int pe_int))) (pss_one (ps_setD D 7 (pe_menu (pa_cons (pe_op op_subF (pe_un un_neg pe_int) (pvF D 8)) (pa_cons (pe_op op_addF (pvF D 3) (pvF D 8)) (pa_cons (pe_op op_powF pe_int pe_int) pa_nil))) (pe_op op_modF (pvF D 0) pe_int))))) pss_nil) (pss_cons (ps_setD D 9 (pe_op op_addF (pe_ixF (pvF D 5) (pe_op op_modF (pvF D 1) pe_int)) (pvF D 2))) (pss_cut (ps_if (pt_cmpF op_eq (pe_op op_modF (pvF D 1) pe_int) pe_int (nomark _)) (pss_cons (ps_setD D 9 (pe_op op_addF pe_int (pe_op op_modF (pe_op op_fdivF (pvF D 1) pe_int) pe_int))) (pss_one (ps_setD D 6 (pe_op op_modF (pe_op op_fdivF (pvF D 1) pe_int) (pe_op op_addF (pvF D 9) pe_int))))) pss_nil) (pss_one (ps_ret (pe_tup (pa_cons pe_str (pa_cons (pvF D 7) (pa_cons (pvF D 9) (pa_cons (pvF D 6) pa_nil))))))))))))), ?_⟩
  show (_ : TS) _ ([some (.int a), some (.int b), some (.int c), some (.int d), some (.int e), none, none, none, none, none] : St) H
  walk_at "ev"
  intro m hm
  refine ⟨by first | exact em0 | omega, menu_ex 8 (fun _ => True) rfl (by first | exact em0 | omega) (by first | exact em1 | omega) (by simp) fun bad _ => ?_⟩
  refine ⟨by split <;> omega, by first | exact em0 | omega, menu_ex 2 (fun _ => True) rfl (by first | exact em0 | omega) (by first | exact em1 | omega) (by simp) fun late _ => ?_⟩
  walk_at "ev"
  have s1 : Same H (upd H m (.lst [.int 1, .int 2, .int 3, .int 4, .int 5, .int 1, .int 2, .int 3, .int 4, .int 5, .int 2, .int 3, .int 0, .int 1000000000000])) := upd_self hm
  have l1 : sq (upd H m (.lst [.int 1, .int 2, .int 3, .int 4, .int 5, .int 1, .int 2, .int 3, .int 4, .int 5, .int 2, .int 3, .int 0, .int 1000000000000])) (.ref m) = some [.int 1, .int 2, .int 3, .int 4, .int 5, .int 1, .int 2, .int 3, .int 4, .int 5, .int 2, .int 3, .int 0, .int 1000000000000] := sq_lst upd_same
  generalize upd H m (.lst [.int 1, .int 2, .int 3, .int 4, .int 5, .int 1, .int 2, .int 3, .int 4, .int 5, .int 2, .int 3, .int 0, .int 1000000000000]) = H1 at s1 l1 ⊢
  refine ⟨fun σ' H' => ∃ (late : Int) (od : Option V), σ' = [some (.int a), some (.int b), some (.int c), some (.int d), some (.int e), some (.ref m), some (.int bad), some (.int late), od, none] ∧ H1 = H', ?_, ?_⟩
  · walk_at "ev"
    split
    · refine ⟨by decide, by decide, by first | exact em0 | omega, menu_ex 3 (fun _ => True) rfl (by first | exact em0 | omega) (by first | exact em1 | omega) (by simp) fun late _ => ?_⟩
      simp
    · simp
  rintro _ _ ⟨late, od, rfl, rfl⟩
  walk_at "ev"
  refine ⟨_, l1, menu_at 14 (fun _ => True) rfl (by first | exact em0 | omega) (by first | exact em1 | omega) (by simp) fun pc _ => ?_⟩
  walk_at "ev"
  refine ⟨fun σ' H' => ∃ (bad pc : Int), σ' = [some (.int a), some (.int b), some (.int c), some (.int d), some (.int e), some (.ref m), some (.int bad), some (.int late), od, some (.int pc)] ∧ H1 = H', ?_, ?_⟩
  · walk_at "ev"
    split
    · refine ⟨by omega, ?_⟩
      simp
    · simp
  rintro _ _ ⟨bad, pc, rfl, rfl⟩
  walk_at "ev"
  exact fun r hr => k _ r late pc bad (Same.upd s1 hr) (s1.free hr) upd_same
abbrev s_pieces_word : Stmt := top 28
theorem sc_pieces_word : FnScope ["_law_out", "_law_pieces", "_law_bad"] ["_law_out", "_law_pieces", "_law_bad"] (defScope s_pieces_word) := ⟨rfl, rfl, rfl, by decide +kernel, rfl, by decide +kernel, by decide +kernel⟩
theorem dx_pieces_word {X : Cx} (hN : X.N = (["_law_out", "_law_pieces", "_law_bad"] : List Str)) (hs : X.env.scope = defScope s_pieces_word) (hf : ∀ x, X.fn x = true) : DefX X ["_law_out", "_law_pieces", "_law_bad"] [] :=
  ⟨hN, by decide +kernel, fun x hx => by unfold L2.Loc; rw [hs]; revert x hx; decide +kernel, fun x hx => by unfold Gl Env.kindOf; rw [hs]; revert x hx; decide +kernel, by decide +kernel, by decide +kernel, by decide +kernel, hf⟩
abbrev s_order_word : Stmt := top 29
theorem sc_order_word : FnScope ["_law_shop", "_law_deed", "_law_orders", "_law_one", "_law_word"] ["_law_shop", "_law_deed"] (defScope s_order_word) := ⟨rfl, rfl, rfl, by decide +kernel, rfl, by decide +kernel, by decide +kernel⟩
theorem dx_order_word {X : Cx} (hN : X.N = (["_law_shop", "_law_deed", "_law_orders", "_law_one", "_law_word"] : List Str)) (hs : X.env.scope = defScope s_order_word) (hf : ∀ x, X.fn x = true) : DefX X ["_law_shop", "_law_deed", "_law_orders", "_law_one", "_law_word"] ["_law_pieces_word", "len"] :=
  ⟨hN, by decide +kernel, fun x hx => by unfold L2.Loc; rw [hs]; revert x hx; decide +kernel, fun x hx => by unfold Gl Env.kindOf; rw [hs]; revert x hx; decide +kernel, by decide +kernel, by decide +kernel, by decide +kernel, hf⟩
def sp_pieces_word : Sp := fun vs H Q _ => ∃ (o p b : Int), vs = [.int o, .int p, .int b] ∧ Q (.str (wordS (piecesWord o p b))) H
theorem rd_pieces_word {X : Cx} (D : DefX X ["_law_out", "_law_pieces", "_law_bad"] []) {vs : List V} {H : Hp} {Q : VK} {E : XK} (h : sp_pieces_word vs H Q E) :
    ∃ t, PSs X (defBody s_pieces_word) t ∧ t { nx := fun _ H' => Q .non H', rt := Q } (start ["_law_out", "_law_pieces", "_law_bad"] vs) H := by
  obtain ⟨o, p, b, rfl, k⟩ := h
  refine ⟨_, (pss_cons (ps_if (PW.pt (pw_or (pt_cmpF op_ltF (pvF D 1) pe_int (nomark _)) (pw_or (pt_cmpF op_ltF (pvF D 2) pe_int (nomark _)) (pw_or1 (pt_cmpF op_gtF (pvF D 2) (pvF D 1) (nomark _)))))) (pss_one (ps_ret pe_str)) pss_nil) (pss_cons (ps_if (pt_cmpF op_gtF (pvF D 1) (pvF D 0) (nomark _)) (pss_one (ps_ret pe_str)) pss_nil) (pss_one (ps_ret pe_str)))), ?_⟩
  show (_ : TS) _ ([some (.int o), some (.int p), some (.int b)] : St) H
  walk_at "ev"
  unfold piecesWord at k
  split
  · rw [if_pos (.inl ‹_›)] at k; exact k
  · split
    · rw [if_pos (.inr (.inl ‹_›))] at k; exact k
    · split
      · rw [if_pos (.inr (.inr ‹_›))] at k; exact k
      · rw [if_neg (by omega)] at k
        split
        · rw [if_pos ‹_›] at k; exact k
        · rw [if_neg ‹_›] at k; exact k
/-- a delivery's or a giving up's word -/
def sp_order_word (n : Nat) : Sp := fun vs H Q _ => ∃ (d sh od sl t : Addr) (os ss : List Addr) (m : Sh) (dd : Deed), vs = [.ref d, .ref t] ∧ RefAt H d sh od sl os ss m ∧ Wf n m ∧ H t = some (.tup dd.tup) ∧
  (match dd with | .came _ _ _ => True | .giveUp _ => True | _ => False) ∧ Q (.str (wordS (refusal m dd))) H
theorem rd_order_word {X : Cx} {n : Nat} (D : DefX X ["_law_shop", "_law_deed", "_law_orders", "_law_one", "_law_word"] ["_law_pieces_word", "len"]) (hr : Room 1 X.A) (B : Bl X.mg) (F_pieces_word : Fn X.prog X.w X.K X.mg X.base CX0 "_law_pieces_word" 1 ["_law_out", "_law_pieces", "_law_bad"] sp_pieces_word)
    {vs : List V} {H : Hp} {Q : VK} {E : XK} (h : sp_order_word n vs H Q E) :
    ∃ t, PSs X (defBody s_order_word) t ∧ t { nx := fun _ H' => Q .non H', rt := Q } (start ["_law_shop", "_law_deed", "_law_orders", "_law_one", "_law_word"] vs) H := by
  obtain ⟨d, sh, od, sl, t, os, ss, m, dd, rfl, S, wf, ht, hk, k⟩ := h
  have hu := hu_of hr
  refine ⟨_, (pss_cons (ps_setD D 2 (pe_dgF hu (pvF D 0) pe_str)) (pss_cons (ps_if (PW.pt (pw_or (pt_cmpF op_ltF (pe_ixF (pvF D 1) pe_int) pe_int (nomark _)) (pw_or (pt_cmpF op_geF (pe_ixF (pvF D 1) pe_int) (pe_callBD D 1 call_lenF B.len bt_len (pa_cons (pvF D 2) pa_nil)) (nomark _)) (pw_or1 (pt_cmpF op_eq (pe_ixF (pe_ixF (pvF D 2) (pe_ixF (pvF D 1) pe_int)) pe_int) pe_int (nomark _)))))) (pss_one (ps_ret pe_str)) pss_nil) (pss_cons (ps_if (pt_cmpF op_eq (pe_ixF (pvF D 1) pe_int) pe_str (nomark _)) (pss_one (ps_ret pe_str)) pss_nil) (pss_cons (ps_setD D 3 (pe_ixF (pvF D 2) (pe_ixF (pvF D 1) pe_int))) (pss_cons (ps_setD D 4 (pe_fnD D 0 F_pieces_word (hr.mono (by decide)) pass0 (pa_cons (pe_ixF (pvF D 3) pe_int) (pa_cons (pe_ixF (pvF D 1) pe_int) (pa_cons (pe_ixF (pvF D 1) pe_int) pa_nil))))) (pss_cons (ps_if (PW.pt (pw_and (pt_cmpF op_eq (pvF D 4) pe_str (nomark _)) (pw_and1 (pt_cmpF op_gtF (pe_op op_mulF (pe_op op_subF (pe_ixF (pvF D 1) pe_int) (pe_ixF (pvF D 1) pe_int)) (pe_ixF (pvF D 3) pe_int)) (pe_dgF hu (pvF D 0) pe_str) (nomark _))))) (pss_one (ps_ret pe_str)) pss_nil) (pss_one (ps_ret (pvF D 4))))))))), ?_⟩
  show (_ : TS) _ ([some (.ref d), some (.ref t), none, none, none] : St) H
  cases dd with
  | order _ _ _ => cases hk
  | sell _ _ => cases hk
  | back _ _ => cases hk
  | giveUp o =>
    simp_arith [S.dc, HO.dK.injEq, keyOf, kv_orders, sq_tup ht, Deed.tup, atI0, atI1, sq_lst S.orders, List.length_map, S.olen]
    cases h1 : at? m.orders o with
    | none =>
      simp only [refusal, openOrder, h1] at k
      have := at?_none h1
      split
      · exact k
      · rw [if_pos (by omega)]
        exact k
    | some r =>
      obtain ⟨a, e1, e2, e3⟩ := S.order h1
      obtain ⟨h0, hlt, _⟩ := at?_some h1
      rw [if_neg (by omega), if_neg (by omega)]
      simp_arith [e1, sq_lst e2, rowV, atI0, atI1, sq_tup ht, Deed.tup]
      simp only [refusal, openOrder, h1] at k
      split
      · rw [if_pos ‹_›] at k
        exact k
      · rw [if_neg ‹_›] at k
        exact k
  | came o p b =>
    simp_arith [S.dc, HO.dK.injEq, keyOf, kv_orders, kv_till, sq_tup ht, Deed.tup, atI0, atI1, atI2, atI3, sq_lst S.orders, List.length_map, S.olen, ne_came_give]
    cases h1 : at? m.orders o with
    | none =>
      simp only [refusal, openOrder, h1] at k
      have := at?_none h1
      split
      · exact k
      · rw [if_pos (by omega)]
        exact k
    | some r =>
      obtain ⟨a, e1, e2, e3⟩ := S.order h1
      obtain ⟨h0, hlt, hmem⟩ := at?_some h1
      obtain ⟨_, _, s1, s2⟩ := wf.orders r (List.mem_of_getElem? hmem)
      rw [if_neg (by omega), if_neg (by omega)]
      simp_arith [e1, sq_lst e2, rowV, atI0, atI1, atI2, atI3, sq_tup ht, Deed.tup, sq_lst S.orders, ne_came_give]
      simp only [refusal, openOrder, h1] at k
      split
      · rw [if_pos ‹_›] at k
        exact k
      · rw [if_neg ‹_›] at k
        refine ⟨_, _, _, rfl, ?_⟩
        cases hp : piecesWord r.2.1 p b with
        | some w =>
          simp only [hp] at k
          simp_arith [wordS, W.ne_done]
          exact k
        | none =>
          obtain ⟨q1, q2, q3, q4⟩ := pw_none hp
          simp only [hp] at k
          simp_arith [wordS, sq_tup ht, sq_lst e2, Deed.tup, rowV, atI2, atI3, S.dc, keyOf, kv_till, HO.dK.injEq]
          refine ⟨(s1.le (by omega) (by omega)).mul s2, ?_⟩
          split
          · rw [if_pos ‹_›] at k
            exact k
          · rw [if_neg ‹_›] at k
            exact k
abbrev s_refusal_of : Stmt := top 30
theorem sc_refusal_of : FnScope ["_law_shop", "_law_deed", "_law_one", "_law_word"] ["_law_shop", "_law_deed"] (defScope s_refusal_of) := ⟨rfl, rfl, rfl, by decide +kernel, rfl, by decide +kernel, by decide +kernel⟩
theorem dx_refusal_of {X : Cx} (hN : X.N = (["_law_shop", "_law_deed", "_law_one", "_law_word"] : List Str)) (hs : X.env.scope = defScope s_refusal_of) (hf : ∀ x, X.fn x = true) : DefX X ["_law_shop", "_law_deed", "_law_one", "_law_word"] ["_law_pieces_word", "_law_order_word", "len"] :=
  ⟨hN, by decide +kernel, fun x hx => by unfold L2.Loc; rw [hs]; revert x hx; decide +kernel, fun x hx => by unfold Gl Env.kindOf; rw [hs]; revert x hx; decide +kernel, by decide +kernel, by decide +kernel, by decide +kernel, hf⟩
def sp_refusal_of (n : Nat) : Sp := fun vs H Q _ => ∃ (d sh od sl t : Addr) (os ss : List Addr) (m : Sh) (dd : Deed), vs = [.ref d, .ref t] ∧ RefAt H d sh od sl os ss m ∧ Wf n m ∧ H t = some (.tup dd.tup) ∧ Q (.str (wordS (refusal m dd))) H
theorem rd_refusal_of {X : Cx} {n : Nat} (D : DefX X ["_law_shop", "_law_deed", "_law_one", "_law_word"] ["_law_pieces_word", "_law_order_word", "len"]) (hr : Room 2 X.A) (B : Bl X.mg) (F_pieces_word : Fn X.prog X.w X.K X.mg X.base CX0 "_law_pieces_word" 1 ["_law_out", "_law_pieces", "_law_bad"] sp_pieces_word)
    (F_order_word : Fn X.prog X.w X.K X.mg X.base CX0 "_law_order_word" 2 ["_law_shop", "_law_deed"] (sp_order_word n)) {vs : List V} {H : Hp} {Q : VK} {E : XK} (h : sp_refusal_of n vs H Q E) :
    ∃ t, PSs X (defBody s_refusal_of) t ∧ t { nx := fun _ H' => Q .non H', rt := Q } (start ["_law_shop", "_law_deed", "_law_one", "_law_word"] vs) H := by
  obtain ⟨d, sh, od, sl, t, os, ss, m, dd, rfl, S, wf, ht, k⟩ := h
  have hu := hu_of hr
  refine ⟨_, (pss_cons (ps_if (PW.pt (pw_or (pt_cmpF op_eq (pe_ixF (pvF D 1) pe_int) pe_str (nomark _)) (pw_or1 (pt_cmpF op_eq (pe_ixF (pvF D 1) pe_int) pe_str (nomark _))))) (pss_cons (ps_if (PW.pt (pw_or (pt_cmpF op_ltF (pe_ixF (pvF D 1) pe_int) pe_int (nomark _)) (pw_or1 (pt_cmpF op_geF (pe_ixF (pvF D 1) pe_int) (pe_callBD D 2 call_lenF B.len bt_len (pa_cons (pe_dgF hu (pvF D 0) pe_str) pa_nil)) (nomark _))))) (pss_one (ps_ret pe_str)) pss_nil) (pss_cons (ps_if (PW.pt (pw_or (pt_cmpF op_ltF (pe_ixF (pvF D 1) pe_int) pe_int (nomark _)) (pw_or1 (PW.pt (pw_and (pt_cmpF op_eq (pe_ixF (pvF D 1) pe_int) pe_str (nomark _)) (pw_and1 (pt_cmpF op_ltF (pe_ixF (pvF D 1) pe_int) pe_int (nomark _)))))))) (pss_one (ps_ret pe_str)) pss_nil) (pss_cons (ps_if (PW.pt (pw_and (pt_cmpF op_eq (pe_ixF (pvF D 1) pe_int) pe_str (nomark _)) (pw_and1 (pt_cmpF op_gtF (pe_ixF (pvF D 1) pe_int) (pe_ixF (pe_dgF hu (pvF D 0) pe_str) (pe_ixF (pvF D 1) pe_int)) (nomark _))))) (pss_one (ps_ret pe_str)) pss_nil) (pss_one (ps_ret pe_str))))) pss_nil) (pss_cons (ps_if (pt_cmpF op_ne (pe_ixF (pvF D 1) pe_int) pe_str (nomark _)) (pss_one (ps_ret (pe_fnD D 1 F_order_word (hr.mono (by decide)) pass0 (pa_cons (pvF D 0) (pa_cons (pvF D 1) pa_nil))))) pss_nil) (pss_cons (ps_if (PW.pt (pw_or (pt_cmpF op_ltF (pe_ixF (pvF D 1) pe_int) pe_int (nomark _)) (pw_or1 (pt_cmpF op_geF (pe_ixF (pvF D 1) pe_int) (pe_callBD D 2 call_lenF B.len bt_len (pa_cons (pe_dgF hu (pvF D 0) pe_str) pa_nil)) (nomark _))))) (pss_one (ps_ret pe_str)) pss_nil) (pss_cons (ps_setD D 2 (pe_ixF (pe_dgF hu (pvF D 0) pe_str) (pe_ixF (pvF D 1) pe_int))) (pss_cons (ps_setD D 3 (pe_fnD D 0 F_pieces_word (hr.mono (by decide)) pass0 (pa_cons (pe_ixF (pvF D 2) pe_int) (pa_cons (pe_ixF (pvF D 1) pe_int) (pa_cons pe_int pa_nil))))) (pss_cons (ps_if (PW.pt (pw_and (pt_cmpF op_eq (pvF D 3) pe_str (nomark _)) (pw_and1 (pt_cmpF op_gtF (pe_op op_mulF (pe_ixF (pvF D 1) pe_int) (pe_ixF (pvF D 2) pe_int)) (pe_dgF hu (pvF D 0) pe_str) (nomark _))))) (pss_one (ps_ret pe_str)) pss_nil) (pss_one (ps_ret (pvF D 3))))))))), ?_⟩
  show (_ : TS) _ ([some (.ref d), some (.ref t), none, none] : St) H
  cases dd with
  | order kk p c =>
    simp_arith [S.dc, HO.dK.injEq, keyOf, kv_shelf, sq_tup ht, Deed.tup, atI0, atI1, atI2, atI3, sq_lst S.shelf, List.length_map, ne_order_sell]
    simp only [refusal] at k
    cases h1 : at? m.shelf kk with
    | none =>
      simp only [h1] at k
      have := at?_none h1
      split
      · exact k
      · rw [if_pos (by omega)]
        exact k
    | some x =>
      simp only [h1] at k
      obtain ⟨h0, hlt, _⟩ := at?_some h1
      rw [if_neg (by omega), if_neg (by omega)]
      split
      · rw [if_pos (.inl ‹_›)] at k
        exact k
      · split
        · rw [if_pos (.inr ‹_›)] at k
          exact k
        · rw [if_neg (by omega)] at k
          exact k
  | sell kk p =>
    simp_arith [S.dc, HO.dK.injEq, keyOf, kv_shelf, sq_tup ht, Deed.tup, atI0, atI1, atI2, sq_lst S.shelf, List.length_map, ne_sell_order]
    simp only [refusal] at k
    cases h1 : at? m.shelf kk with
    | none =>
      simp only [h1] at k
      have := at?_none h1
      split
      · exact k
      · rw [if_pos (by omega)]
        exact k
    | some x =>
      simp only [h1] at k
      obtain ⟨h0, hlt, hx⟩ := at?_some h1
      rw [if_neg (by omega), if_neg (by omega)]
      simp_arith [atI_ints h0 hx]
      split
      · rw [if_pos ‹_›] at k
        exact k
      · rw [if_neg ‹_›] at k
        split
        · rw [if_pos ‹_›] at k
          exact k
        · rw [if_neg ‹_›] at k
          exact k
  | came o p b =>
    simp_arith [sq_tup ht, Deed.tup, atI0, ne_came_order, ne_came_sell, ne_came_back]
    exact ⟨d, sh, od, sl, t, os, ss, m, .came o p b, rfl, S, wf, ht, trivial, k⟩
  | giveUp o =>
    simp_arith [sq_tup ht, Deed.tup, atI0, ne_give_order, ne_give_sell, ne_give_back]
    exact ⟨d, sh, od, sl, t, os, ss, m, .giveUp o, rfl, S, wf, ht, trivial, k⟩
  | back s p =>
    simp_arith [S.dc, HO.dK.injEq, keyOf, kv_sales, sq_tup ht, Deed.tup, atI0, atI1, atI2, sq_lst S.sales, List.length_map, S.slen, ne_back_order, ne_back_sell]
    simp only [refusal] at k
    cases h1 : at? m.sales s with
    | none =>
      simp only [h1] at k
      have := at?_none h1
      split
      · exact k
      · rw [if_pos (by omega)]
        exact k
    | some r =>
      obtain ⟨a, e1, e2, e3⟩ := S.sale h1
      obtain ⟨h0, hlt, hmem⟩ := at?_some h1
      obtain ⟨_, _, s1, s2⟩ := wf.sales r (List.mem_of_getElem? hmem)
      rw [if_neg (by omega), if_neg (by omega)]
      simp_arith [e1, sq_lst e2, rowV, atI1, atI2, sq_tup ht, Deed.tup]
      simp only [h1] at k
      refine ⟨_, _, _, rfl, ?_⟩
      cases hp : piecesWord r.2.1 p 0 with
      | some w =>
        simp only [hp] at k
        simp_arith [wordS, W.ne_done]
        exact k
      | none =>
        obtain ⟨q1, q2, q3, q4⟩ := pw_none hp
        simp only [hp] at k
        simp_arith [wordS, sq_tup ht, sq_lst e2, Deed.tup, rowV, atI2, S.dc, keyOf, kv_till, HO.dK.injEq]
        refine ⟨(s1.le (by omega) (by omega)).mul s2, ?_⟩
        split
        · rw [if_pos ‹_›] at k
          exact k
        · rw [if_neg ‹_›] at k
          exact k
abbrev s_did : Stmt := top 31
theorem sc_did : FnScope ["_law_shop", "_law_deed", "_law_prices", "_law_shelf", "_law_one", "_law_good"] ["_law_shop", "_law_deed", "_law_prices"] (defScope s_did) := ⟨rfl, rfl, rfl, by decide +kernel, rfl, by decide +kernel, by decide +kernel⟩
theorem dx_did {X : Cx} (hN : X.N = (["_law_shop", "_law_deed", "_law_prices", "_law_shelf", "_law_one", "_law_good"] : List Str)) (hs : X.env.scope = defScope s_did) (hf : ∀ x, X.fn x = true) : DefX X ["_law_shop", "_law_deed", "_law_prices", "_law_shelf", "_law_one", "_law_good"] ["len"] :=
  ⟨hN, by decide +kernel, fun x hx => by unfold L2.Loc; rw [hs]; revert x hx; decide +kernel, fun x hx => by unfold Gl Env.kindOf; rw [hs]; revert x hx; decide +kernel, by decide +kernel, by decide +kernel, by decide +kernel, hf⟩
/-- a list of prices -/
def PrAt (n : Nat) (H : Hp) (p : Addr) (ps : List Int) : Prop := sq H (.ref p) = some (ps.map V.int) ∧ ps.length = n ∧ ∀ x ∈ ps, Sm x
def sp_did (n : Nat) : Sp := fun vs H Q _ => ∃ (d sh od sl t p : Addr) (os ss : List Addr) (m : Sh) (dd : Deed) (ps : List Int), vs = [.ref d, .ref t, .ref p] ∧ RefAt H d sh od sl os ss m ∧ Wf n m ∧ H t = some (.tup dd.tup) ∧ PrAt n H p ps ∧ p ∉ own d sh od sl os ss ∧
  dd.ok ∧ refusal m dd = none ∧ m.orders.length < 1000 ∧ m.sales.length < 1000 ∧
  ∀ (H' : Hp) (os' ss' : List Addr), RefAt H' d sh od sl os' ss' (did ps m dd).2 → Kept H H' (own d sh od sl os ss) (own d sh od sl os' ss') → Q (.int (did ps m dd).1) H'
theorem rd_did {X : Cx} {n : Nat} (D : DefX X ["_law_shop", "_law_deed", "_law_prices", "_law_shelf", "_law_one", "_law_good"] ["len"]) (hr : Room 0 X.A) (B : Bl X.mg) {vs : List V} {H : Hp} {Q : VK} {E : XK} (h : sp_did n vs H Q E) :
    ∃ t, PSs X (defBody s_did) t ∧ t { nx := fun _ H' => Q .non H', rt := Q } (start ["_law_shop", "_law_deed", "_law_prices", "_law_shelf", "_law_one", "_law_good"] vs) H := by
  obtain ⟨d, sh, od, sl, t, p, os, ss, m, dd, ps, rfl, S, wf, ht, ⟨hp1, hp2, hp3⟩, hpo, ok, rf, lo, ls, k⟩ := h
  have hu := hu_of hr
  refine ⟨_, (pss_cons (ps_setD D 3 (pe_dgF hu (pvF D 0) pe_str)) (pss_cons (ps_if (pt_cmpF op_eq (pe_ixF (pvF D 1) pe_int) pe_str (nomark _)) (pss_cons (ps_expr (pe_append (pe_dgF hu (pvF D 0) pe_str) (pe_lst (pa_cons (pe_ixF (pvF D 1) pe_int) (pa_cons (pe_ixF (pvF D 1) pe_int) (pa_cons (pe_ixF (pvF D 1) pe_int) pa_nil)))))) (pss_one (ps_ret (pe_op op_subF (pe_callBD D 0 call_lenF B.len bt_len (pa_cons (pe_dgF hu (pvF D 0) pe_str) pa_nil)) pe_int)))) pss_nil) (pss_cons (ps_if (pt_cmpF op_eq (pe_ixF (pvF D 1) pe_int) pe_str (nomark _)) (pss_cons (ps_expr (pe_append (pe_dgF hu (pvF D 0) pe_str) (pe_lst (pa_cons (pe_ixF (pvF D 1) pe_int) (pa_cons (pe_ixF (pvF D 1) pe_int) (pa_cons (pe_ixF (pvF D 2) (pe_ixF (pvF D 1) pe_int)) pa_nil)))))) (pss_cons (ps_lpF (pvF D 3) (pe_ixF (pvF D 1) pe_int) (pe_op op_subF (pe_ixF (pvF D 3) (pe_ixF (pvF D 1) pe_int)) (pe_ixF (pvF D 1) pe_int))) (pss_cons (ps_dpF hu (pvF D 0) pe_str (pe_op op_addF (pe_dgF hu (pvF D 0) pe_str) (pe_op op_mulF (pe_ixF (pvF D 1) pe_int) (pe_ixF (pvF D 2) (pe_ixF (pvF D 1) pe_int))))) (pss_one (ps_ret (pe_op op_subF (pe_callBD D 0 call_lenF B.len bt_len (pa_cons (pe_dgF hu (pvF D 0) pe_str) pa_nil)) pe_int)))))) pss_nil) (pss_cons (ps_if (pt_cmpF op_eq (pe_ixF (pvF D 1) pe_int) pe_str (nomark _)) (pss_cons (ps_setD D 4 (pe_ixF (pe_dgF hu (pvF D 0) pe_str) (pe_ixF (pvF D 1) pe_int))) (pss_cons (ps_lpF (pvF D 4) pe_int (pe_op op_subF (pe_ixF (pvF D 4) pe_int) (pe_ixF (pvF D 1) pe_int))) (pss_cons (ps_lpF (pvF D 3) (pe_ixF (pvF D 4) pe_int) (pe_op op_addF (pe_ixF (pvF D 3) (pe_ixF (pvF D 4) pe_int)) (pe_ixF (pvF D 1) pe_int))) (pss_cons (ps_dpF hu (pvF D 0) pe_str (pe_op op_subF (pe_dgF hu (pvF D 0) pe_str) (pe_op op_mulF (pe_ixF (pvF D 1) pe_int) (pe_ixF (pvF D 4) pe_int)))) (pss_one (ps_ret (pe_op op_mulF (pe_ixF (pvF D 1) pe_int) (pe_ixF (pvF D 4) pe_int)))))))) pss_nil) (pss_cons (ps_setD D 4 (pe_ixF (pe_dgF hu (pvF D 0) pe_str) (pe_ixF (pvF D 1) pe_int))) (pss_cons (ps_setD D 5 (pe_ixF (pvF D 4) pe_int)) (pss_cons (ps_if (pt_cmpF op_eq (pe_ixF (pvF D 1) pe_int) pe_str (nomark _)) (pss_cons (ps_setD D 5 (pe_op op_subF (pe_ixF (pvF D 1) pe_int) (pe_ixF (pvF D 1) pe_int))) (pss_cons (ps_lpF (pvF D 3) (pe_ixF (pvF D 4) pe_int) (pe_op op_addF (pe_ixF (pvF D 3) (pe_ixF (pvF D 4) pe_int)) (pvF D 5))) (pss_one (ps_dpF hu (pvF D 0) pe_str (pe_op op_subF (pe_dgF hu (pvF D 0) pe_str) (pe_op op_mulF (pvF D 5) (pe_ixF (pvF D 4) pe_int))))))) pss_nil) (pss_cons (ps_lpF (pvF D 4) pe_int (pe_op op_subF (pe_ixF (pvF D 4) pe_int) (pvF D 5))) (pss_one (ps_ret (pvF D 5))))))))))), ?_⟩
  show (_ : TS) _ ([some (.ref d), some (.ref t), some (.ref p), none, none, none] : St) H
  have np : ∀ a, a ∈ own d sh od sl os ss → p ≠ a := fun a ha z => hpo (by rw [z]; exact ha)
  have nt : ∀ a, a ∈ own d sh od sl os ss → t ≠ a := fun a ha z => by
    subst z
    simp only [own, List.mem_cons, List.mem_append] at ha
    rcases ha with h | h | h | h | h | h
    · rw [h, S.dc] at ht; cases ht
    · rw [h, S.shelf] at ht; cases ht
    · rw [h, S.orders] at ht; cases ht
    · rw [h, S.sales] at ht; cases ht
    · obtain ⟨i, hi, e⟩ := List.mem_iff_getElem.mp h
      obtain ⟨o, e'⟩ := rows_there S.rows t h
      exact rows_ne S.rows h ht
    · exact rows_ne S.srows h ht
  cases dd with
  | order kk q c =>
    simp_arith [keyOf, kv_orders, kv_shelf, HO.dK.injEq, S.dc, sq_tup ht, Deed.tup, atI0, atI1, atI2, atI3]
    refine ⟨tyV_lst S.orders, fun a ha => ⟨_, by rw [upd_ne (ne_of_none S.orders ha)]; exact S.orders, by rw [List.length_map, S.olen]; exact small1000 (by omega), ?_⟩⟩
    have S1 := S.newOrder ha (kk, q, c)
    refine ⟨_, S1.dc, _, kv_orders _ _ _ _, _, sq_lst S1.orders, ?_⟩
    have q1 := k _ _ _ S1 (((Kept.refl H _).add (u := .lst (rowV (kk, q, c))) ha (S.fresh ha) own_o).upd (a := od) (by simp [own]))
    have e : ((List.map V.ref (os ++ [a])).length : Int) - 1 = (m.orders.length : Int) := by
      rw [List.length_map, List.length_append, S.olen]
      simp
    rw [e]
    exact q1
  | sell kk q =>
    simp only [refusal] at rf
    cases h1 : at? m.shelf kk with
    | none => simp only [h1] at rf; cases rf
    | some x =>
    obtain ⟨h0, hlt, hx⟩ := at?_some h1
    obtain ⟨pr, e1, e2⟩ := at?_pos (xs := ps) (i := kk) h0 (by rw [hp2, ← wf.shelf]; exact hlt)
    have hpr : Sm pr := hp3 pr (List.mem_of_getElem? e2)
    have epr : ps.getD kk.toNat 0 = pr := by rw [List.getD, e2]; rfl
    have esh : m.shelf.getD kk.toNat 0 = x := by rw [List.getD, hx]; rfl
    simp_arith [keyOf, kv_orders, kv_shelf, kv_sales, HO.dK.injEq, S.dc, sq_tup ht, Deed.tup, atI0, atI1, atI2, atI3, ne_sell_order, hp1, atI_ints h0 e2]
    refine ⟨tyV_lst S.sales, fun a ha => ⟨_, by rw [upd_ne (ne_of_none S.sales ha)]; exact S.sales, by rw [List.length_map, S.slen]; exact small1000 (by omega), ?_⟩⟩
    have S1 := S.newSale ha (kk, q, pr)
    have K1 := ((Kept.refl H _).add (u := .lst (rowV (kk, q, pr))) ha (S.fresh ha) own_s).upd (a := sl) (u := .lst (ss.map V.ref ++ [.ref a])) (by simp [own])
    have t1 := K1.same t _ ht (fun z => nt t z rfl)
    have p1 : sq (upd (upd H a (.lst (rowV (kk, q, pr)))) sl (.lst (ss.map V.ref ++ [.ref a]))) (.ref p) = some (ps.map V.int) := by
      rw [sq_upd (np sl (by simp [own])), sq_upd fun z => by rw [z] at hp1; simp [sq, ha] at hp1]
      exact hp1
    simp only [rowV] at S1 K1 t1 p1
    generalize upd (upd H a (.lst [.int kk, .int q, .int pr])) sl (.lst (ss.map V.ref ++ [.ref a])) = H1 at S1 K1 t1 p1 ⊢
    simp_arith [sq_tup t1, sq_lst S1.shelf, Deed.tup, atI0, atI1, atI2, atI_ints h0 hx]
    refine ⟨_, S1.shelf, _, ixN_of h0 (by rw [List.length_map]; exact hlt), ?_⟩
    rw [map_set_int]
    have S2 := S1.setShelf (m.shelf.set kk.toNat (x - q))
    have K2 := K1.upd (a := sh) (u := .lst ((m.shelf.set kk.toNat (x - q)).map V.int)) (by simp [own])
    have t2 := K2.same t _ ht (fun z => nt t z rfl)
    have p2 : sq (upd H1 sh (.lst ((m.shelf.set kk.toNat (x - q)).map V.int))) (.ref p) = some (ps.map V.int) := by rw [sq_upd (np sh (by simp [own]))]; exact p1
    generalize upd H1 sh (.lst ((m.shelf.set kk.toNat (x - q)).map V.int)) = H2 at S2 K2 t2 p2 ⊢
    simp_arith [S2.dc, HO.dK.injEq, keyOf, kv_till, kv_put, sq_tup t2, p2, Deed.tup, atI1, atI2, atI_ints h0 e2]
    refine ⟨Sm.mul ok hpr, kv_len _ _ _ _, ?_⟩
    have S3 := S2.setTill (m.till + q * pr)
    have K3 := K2.upd (a := d) (u := .dK (shopKV (m.till + q * pr) sh od sl)) (by simp [own])
    generalize upd H2 d (.dK (shopKV (m.till + q * pr) sh od sl)) = H3 at S3 K3 ⊢
    simp_arith [S3.dc, HO.dK.injEq, keyOf, kv_sales, sq_lst S3.sales]
    have e : ((List.map V.ref (ss ++ [a])).length : Int) - 1 = (m.sales.length : Int) := by
      rw [List.length_map, List.length_append, S.slen]
      simp
    rw [e]
    refine k H3 os (ss ++ [a]) ?_ K3
    simp only [did, epr, addAt, esh]
    rw [show x + -q = x - q by omega]
    exact S3
  | back s q =>
    simp only [refusal] at rf
    cases h1 : at? m.sales s with
    | none => simp only [h1] at rf; cases rf
    | some r =>
    obtain ⟨a, e1, e2, e3⟩ := S.sale h1
    obtain ⟨h0, hlt, hmem⟩ := at?_some h1
    obtain ⟨w1, w2, s1, s2⟩ := wf.sales r (List.mem_of_getElem? hmem)
    simp only [h1] at rf
    cases hp : piecesWord r.2.1 q 0 with
    | some w => simp only [hp] at rf; cases rf
    | none =>
    obtain ⟨q1, q2, q3, q4⟩ := pw_none hp
    obtain ⟨x, x1, x2⟩ := at?_pos (xs := m.shelf) (i := r.1) w1 (by rw [wf.shelf]; exact w2)
    have er : m.sales.getD s.toNat (0, 0, 0) = r := by rw [List.getD, hmem]; rfl
    have esh : m.shelf.getD r.1.toNat 0 = x := by rw [List.getD, x2]; rfl
    have ha : a ∈ own d sh od sl os ss := by simp only [own, List.mem_cons, List.mem_append]; exact .inr (.inr (.inr (.inr (.inr (List.mem_of_getElem? e3)))))
    simp_arith [keyOf, kv_orders, kv_shelf, kv_sales, HO.dK.injEq, S.dc, sq_tup ht, Deed.tup, atI0, atI1, atI2, atI3, ne_back_order, ne_back_sell, sq_lst S.sales, e1, sq_lst e2, rowV]
    refine ⟨_, e2, _, ixN_1 _ _ _, ?_⟩
    have S1 := S.setSale e3 (r.1, r.2.1 - q, r.2.2)
    have K1 := (Kept.refl H (own d sh od sl os ss)).upd (a := a) (u := .lst (rowV (r.1, r.2.1 - q, r.2.2))) ha
    have t1 := K1.same t _ ht (fun z => nt t z rfl)
    have a1 : upd H a (.lst (rowV (r.1, r.2.1 - q, r.2.2))) a = some (.lst (rowV (r.1, r.2.1 - q, r.2.2))) := upd_same
    simp only [rowV, List.set_cons_succ, List.set_cons_zero] at S1 K1 t1 a1 ⊢
    generalize upd H a (.lst [.int r.1, .int (r.2.1 - q), .int r.2.2]) = H1 at S1 K1 t1 a1 ⊢
    simp_arith [sq_tup t1, sq_lst S1.shelf, sq_lst a1, Deed.tup, atI0, atI1, atI2, atI_ints w1 x2]
    refine ⟨_, S1.shelf, _, ixN_of w1 (by rw [List.length_map, wf.shelf]; exact w2), ?_⟩
    rw [map_set_int]
    have S2 := S1.setShelf (m.shelf.set r.1.toNat (x + q))
    have K2 := K1.upd (a := sh) (u := .lst ((m.shelf.set r.1.toNat (x + q)).map V.int)) (by simp [own])
    have t2 := K2.same t _ ht (fun z => nt t z rfl)
    have a2 : upd H1 sh (.lst ((m.shelf.set r.1.toNat (x + q)).map V.int)) a = some (.lst [.int r.1, .int (r.2.1 - q), .int r.2.2]) := by
      rw [upd_ne fun z => S.nds.2.1.2.2.2 (by rw [← z]; exact List.mem_of_getElem? e3)]
      exact a1
    generalize upd H1 sh (.lst ((m.shelf.set r.1.toNat (x + q)).map V.int)) = H2 at S2 K2 t2 a2 ⊢
    simp_arith [S2.dc, HO.dK.injEq, keyOf, kv_till, kv_put, sq_tup t2, sq_lst a2, Deed.tup, atI1, atI2]
    refine ⟨(s1.le (by omega) (by omega)).mul s2, kv_len _ _ _ _, ?_⟩
    have S3 := S2.setTill (m.till - q * r.2.2)
    have K3 := K2.upd (a := d) (u := .dK (shopKV (m.till - q * r.2.2) sh od sl)) (by simp [own])
    have t3 := K3.same t _ ht (fun z => nt t z rfl)
    have a3 : upd H2 d (.dK (shopKV (m.till - q * r.2.2) sh od sl)) a = some (.lst [.int r.1, .int (r.2.1 - q), .int r.2.2]) := by
      rw [upd_ne fun z => S.nds.1.2.2.2.2 (by rw [← z]; exact List.mem_of_getElem? e3)]
      exact a2
    generalize upd H2 d (.dK (shopKV (m.till - q * r.2.2) sh od sl)) = H3 at S3 K3 t3 a3 ⊢
    simp_arith [sq_tup t3, sq_lst a3, Deed.tup, atI2]
    refine ⟨(s1.le (by omega) (by omega)).mul s2, ?_⟩
    have kk := k H3 os ss ?_ K3
    · simp only [did, er] at kk
      exact kk
    · simp only [did, er, addAt, esh]
      exact S3
  | came o q b =>
    simp only [refusal, openOrder] at rf
    cases h1 : at? m.orders o with
    | none => simp only [h1] at rf; cases rf
    | some r =>
    obtain ⟨a, e1, e2, e3⟩ := S.order h1
    obtain ⟨h0, hlt, hmem⟩ := at?_some h1
    obtain ⟨w1, w2, s1, s2⟩ := wf.orders r (List.mem_of_getElem? hmem)
    simp only [h1] at rf
    by_cases hw : r.2.1 = 0
    · rw [if_pos hw] at rf; cases rf
    rw [if_neg hw] at rf
    cases hp : piecesWord r.2.1 q b with
    | some w => simp only [hp] at rf; cases rf
    | none =>
    obtain ⟨q1, q2, q3, q4⟩ := pw_none hp
    obtain ⟨x, x1, x2⟩ := at?_pos (xs := m.shelf) (i := r.1) w1 (by rw [wf.shelf]; exact w2)
    have er : m.orders.getD o.toNat (0, 0, 0) = r := by rw [List.getD, hmem]; rfl
    have esh : m.shelf.getD r.1.toNat 0 = x := by rw [List.getD, x2]; rfl
    have ha : a ∈ own d sh od sl os ss := by simp only [own, List.mem_cons, List.mem_append]; exact .inr (.inr (.inr (.inr (.inl (List.mem_of_getElem? e3)))))
    simp_arith [keyOf, kv_orders, kv_shelf, kv_sales, HO.dK.injEq, S.dc, sq_tup ht, Deed.tup, atI0, atI1, atI2, atI3, ne_came_order, ne_came_sell, ne_came_back, sq_lst S.orders, sq_lst S.shelf, e1, sq_lst e2, rowV, atI_ints w1 x2]
    refine ⟨_, S.shelf, _, ixN_of w1 (by rw [List.length_map, wf.shelf]; exact w2), ?_⟩
    rw [map_set_int]
    have S1 := S.setShelf (m.shelf.set r.1.toNat (x + (q - b)))
    have K1 := (Kept.refl H (own d sh od sl os ss)).upd (a := sh) (u := .lst ((m.shelf.set r.1.toNat (x + (q - b))).map V.int)) (by simp [own])
    have t1 := K1.same t _ ht (fun z => nt t z rfl)
    have a1 : upd H sh (.lst ((m.shelf.set r.1.toNat (x + (q - b))).map V.int)) a = some (.lst [.int r.1, .int r.2.1, .int r.2.2]) := by
      rw [upd_ne fun z => S.nds.2.1.2.2.1 (by rw [← z]; exact List.mem_of_getElem? e3)]
      exact e2
    generalize upd H sh (.lst ((m.shelf.set r.1.toNat (x + (q - b))).map V.int)) = H1 at S1 K1 t1 a1 ⊢
    simp_arith [S1.dc, HO.dK.injEq, keyOf, kv_till, kv_put, sq_lst a1, atI2]
    refine ⟨(s1.le (by omega) (by omega)).mul s2, kv_len _ _ _ _, ?_⟩
    have S2 := S1.setTill (m.till - (q - b) * r.2.2)
    have K2 := K1.upd (a := d) (u := .dK (shopKV (m.till - (q - b) * r.2.2) sh od sl)) (by simp [own])
    have a2 : upd H1 d (.dK (shopKV (m.till - (q - b) * r.2.2) sh od sl)) a = some (.lst [.int r.1, .int r.2.1, .int r.2.2]) := by
      rw [upd_ne fun z => S.nds.1.2.2.2.1 (by rw [← z]; exact List.mem_of_getElem? e3)]
      exact a1
    generalize upd H1 d (.dK (shopKV (m.till - (q - b) * r.2.2) sh od sl)) = H2 at S2 K2 a2 ⊢
    simp_arith [sq_lst a2, atI1]
    refine ⟨_, a2, _, ixN_1 _ _ _, ?_⟩
    have S3 := S2.setOrder e3 (r.1, r.2.1 - (q - b), r.2.2)
    have K3 := K2.upd (a := a) (u := .lst (rowV (r.1, r.2.1 - (q - b), r.2.2))) ha
    simp only [rowV, List.set_cons_succ, List.set_cons_zero] at S3 K3 ⊢
    have kk := k _ os ss ?_ K3
    · simp only [did, er] at kk
      exact kk
    · simp only [did, er, addAt, esh]
      exact S3
  | giveUp o =>
    simp only [refusal, openOrder] at rf
    cases h1 : at? m.orders o with
    | none => simp only [h1] at rf; cases rf
    | some r =>
    obtain ⟨a, e1, e2, e3⟩ := S.order h1
    obtain ⟨h0, hlt, hmem⟩ := at?_some h1
    have er : m.orders.getD o.toNat (0, 0, 0) = r := by rw [List.getD, hmem]; rfl
    have ha : a ∈ own d sh od sl os ss := by simp only [own, List.mem_cons, List.mem_append]; exact .inr (.inr (.inr (.inr (.inl (List.mem_of_getElem? e3)))))
    simp_arith [keyOf, kv_orders, kv_shelf, kv_sales, HO.dK.injEq, S.dc, sq_tup ht, Deed.tup, atI0, atI1, atI2, atI3, ne_give_order, ne_give_sell, ne_give_back, ne_give_came, sq_lst S.orders, e1, sq_lst e2, rowV]
    refine ⟨_, e2, _, ixN_1 _ _ _, ?_⟩
    have S3 := S.setOrder e3 (r.1, 0, r.2.2)
    have K3 := (Kept.refl H (own d sh od sl os ss)).upd (a := a) (u := .lst (rowV (r.1, 0, r.2.2))) ha
    have e0 : r.2.1 - r.2.1 = 0 := by omega
    simp only [rowV, List.set_cons_succ, List.set_cons_zero, e0] at S3 K3 ⊢
    have kk := k _ os ss ?_ K3
    · simp only [did, er] at kk
      exact kk
    · simp only [did, er]
      exact S3
abbrev s_first_deeds : Stmt := top 22
theorem sc_first_deeds : FnScope ["_law_kinds", "_law_early", "_law_kind"] ["_law_kinds"] (defScope s_first_deeds) := ⟨rfl, rfl, rfl, by decide +kernel, rfl, by decide +kernel, by decide +kernel⟩
theorem dx_first_deeds {X : Cx} (hN : X.N = (["_law_kinds", "_law_early", "_law_kind"] : List Str)) (hs : X.env.scope = defScope s_first_deeds) (hf : ∀ x, X.fn x = true) : DefX X ["_law_kinds", "_law_early", "_law_kind"] ["range"] :=
  ⟨hN, by decide +kernel, fun x hx => by unfold L2.Loc; rw [hs]; revert x hx; decide +kernel, fun x hx => by unfold Gl Env.kindOf; rw [hs]; revert x hx; decide +kernel, by decide +kernel, by decide +kernel, by decide +kernel, hf⟩
theorem sm9 : Sm 9 := by unfold Sm; decide +kernel
theorem sm1 : Sm 1 := by unfold Sm; decide +kernel
theorem sm3 : Sm 3 := by unfold Sm; decide +kernel
def sp_first_deeds : Sp := fun vs H Q _ => ∃ n : Nat, vs = [.int n] ∧ n ≤ 10 ∧ ∀ (H' : Hp) (e : Addr) (ds : List Deed), Under H H' e ds → ds.length ≤ 40 → Q (.ref e) H'
theorem rd_first_deeds {X : Cx} (D : DefX X ["_law_kinds", "_law_early", "_law_kind"] ["range"]) (hc : X.calm = true) (hp : PassesOwn (model X.prog X.w) X.A X.env X.xe) (B : Bl X.mg) {vs : List V} {H : Hp} {Q : VK} {E : XK} (h : sp_first_deeds vs H Q E) :
    ∃ t, PSs X (defBody s_first_deeds) t ∧ t { nx := fun _ H' => Q .non H', rt := Q } (start ["_law_kinds", "_law_early", "_law_kind"] vs) H := by
  obtain ⟨n, rfl, hn, k⟩ := h
  refine ⟨_, (pss_cons (ps_setD D 1 (pe_lst pa_nil)) (pss_cons (ps_for hp hc (pi_range1 (D.gl 0) B.range (pa_cons (pvF D 0) pa_nil)) (pg_nameD D 2) (pss_one (ps_expr (pe_extend (pvF D 1) (pe_lst (pa_cons (pe_tup (pa_cons pe_str (pa_cons (pvF D 2) (pa_cons pe_int (pa_cons pe_int pa_nil))))) (pa_cons (pe_tup (pa_cons pe_str (pa_cons (pvF D 2) (pa_cons pe_int (pa_cons pe_int pa_nil))))) pa_nil))))))) (pss_cons (ps_for hp hc (pi_range1 (D.gl 0) B.range (pa_cons (pvF D 0) pa_nil)) (pg_nameD D 2) (pss_one (ps_expr (pe_extend (pvF D 1) (pe_lst (pa_cons (pe_tup (pa_cons pe_str (pa_cons (pvF D 2) (pa_cons pe_int pa_nil)))) (pa_cons (pe_tup (pa_cons pe_str (pa_cons (pvF D 2) (pa_cons pe_int pa_nil)))) pa_nil))))))) (pss_one (ps_ret (pvF D 1)))))), ?_⟩
  show (_ : TS) _ ([some (.int n), none, none] : St) H
  walk_at "ev"
  intro e he
  refine ⟨by omega, by omega, for_range (fun i σ' H' => ∃ (ds : List Deed) (v : Option V), σ' = [some (.int n), some (.ref e), v] ∧ Under H H' e ds ∧ ds.length = 2 * i) ?_ ?_ ?_⟩
  · exact ⟨[], none, rfl, ⟨upd_self he, he, ⟨[], upd_same, .nil⟩, by simp⟩, rfl⟩
  · rintro i _ H2 hi ⟨ds, v, rfl, U, hl⟩
    walk_at "ev"
    obtain ⟨rs, h1, h2⟩ := U.ex
    refine ⟨tyV_lst h1, fun p hp p1 hp1 p2 hp2 => ?_⟩
    have U3 := ((U.tup (o := .tup (Deed.order (0 + i) 9 1).tup) hp).tup (o := .tup (Deed.came (0 + i) 9 0).tup) hp1).tup (o := .lst [.ref p, .ref p1]) hp2
    have n1 : p ≠ p1 := ne_of_none upd_same hp1
    obtain ⟨xs, x1, x2, x3⟩ := U3.extend (rs' := [.ref p, .ref p1]) (ds' := [.order (0 + i) 9 1, .came (0 + i) 9 0])
      (.cons ⟨p, rfl, by rw [upd_ne (ne_of_none (by rw [upd_ne n1]; exact upd_same) hp2), upd_ne n1]; exact upd_same⟩ (.cons ⟨p1, rfl, by rw [upd_ne (ne_of_none upd_same hp2)]; exact upd_same⟩ .nil))
      (by simp [Deed.ok, sm9, sm1])
    refine ⟨xs, x1, _, sq_lst upd_same, small_sz (by simp only [List.length_cons, List.length_nil]; omega), _, x3, by simp; omega⟩
  rintro _ H2 ⟨ds, v, rfl, U, hl⟩
  walk_at "ev"
  refine ⟨by omega, by omega, for_range (fun i σ' H' => ∃ (ds : List Deed) (v : Option V), σ' = [some (.int n), some (.ref e), v] ∧ Under H H' e ds ∧ ds.length = 2 * n + 2 * i) ?_ ?_ ?_⟩
  · exact ⟨ds, v, rfl, U, by simpa using hl⟩
  · rintro i _ H2 hi ⟨ds, v, rfl, U, hl⟩
    walk_at "ev"
    obtain ⟨rs, h1, h2⟩ := U.ex
    refine ⟨tyV_lst h1, fun p hp p1 hp1 p2 hp2 => ?_⟩
    have U3 := ((U.tup (o := .tup (Deed.sell (0 + i) 3).tup) hp).tup (o := .tup (Deed.back (0 + i) 2).tup) hp1).tup (o := .lst [.ref p, .ref p1]) hp2
    have n1 : p ≠ p1 := ne_of_none upd_same hp1
    obtain ⟨xs, x1, x2, x3⟩ := U3.extend (rs' := [.ref p, .ref p1]) (ds' := [.sell (0 + i) 3, .back (0 + i) 2])
      (.cons ⟨p, rfl, by rw [upd_ne (ne_of_none (by rw [upd_ne n1]; exact upd_same) hp2), upd_ne n1]; exact upd_same⟩ (.cons ⟨p1, rfl, by rw [upd_ne (ne_of_none upd_same hp2)]; exact upd_same⟩ .nil))
      (by simp [Deed.ok, sm3])
    refine ⟨xs, x1, _, sq_lst upd_same, small_sz (by simp only [List.length_cons, List.length_nil]; omega), _, x3, by simp; omega⟩
  rintro _ H3 ⟨ds, v, rfl, U, hl⟩
  walk_at "ev"
  exact k H3 e ds U (by omega)
abbrev s_deeds : Stmt := top 24
theorem sc_deeds : FnScope ["_law_cells", "_law_kinds", "_law_words", "_law_asked", "_law_made", "_law_k", "_law_rest", "_law_salt", "_law_word", "_law_kind", "_law_far", "_law_more", "_law_odd", "_law_menu", "_law_coins", "_law_late", "_law_number"] ["_law_cells", "_law_kinds"] (defScope s_deeds) := ⟨rfl, rfl, rfl, by decide +kernel, rfl, by decide +kernel, by decide +kernel⟩
theorem dx_deeds {X : Cx} (hN : X.N = (["_law_cells", "_law_kinds", "_law_words", "_law_asked", "_law_made", "_law_k", "_law_rest", "_law_salt", "_law_word", "_law_kind", "_law_far", "_law_more", "_law_odd", "_law_menu", "_law_coins", "_law_late", "_law_number"] : List Str)) (hs : X.env.scope = defScope s_deeds) (hf : ∀ x, X.fn x = true) : DefX X ["_law_cells", "_law_kinds", "_law_words", "_law_asked", "_law_made", "_law_k", "_law_rest", "_law_salt", "_law_word", "_law_kind", "_law_far", "_law_more", "_law_odd", "_law_menu", "_law_coins", "_law_late", "_law_number"] ["range", "len", "int", "_law_came_by", "max"] :=
  ⟨hN, by decide +kernel, fun x hx => by unfold L2.Loc; rw [hs]; revert x hx; decide +kernel, fun x hx => by unfold Gl Env.kindOf; rw [hs]; revert x hx; decide +kernel, by decide +kernel, by decide +kernel, by decide +kernel, hf⟩
def sp_deeds : Sp := fun vs H Q _ => ∃ (c : Addr) (cells : List Int) (n : Nat), vs = [.ref c, .int n] ∧ H c = some (.lst (cells.map V.int)) ∧ cells.length ≤ 63 ∧ 1 ≤ n ∧ n ≤ 10 ∧ ∀ (H' : Hp) (e : Addr) (ds : List Deed), Under H H' e ds → ds.length ≤ 31 → Q (.ref e) H'
theorem rd_deeds {X : Cx} (D : DefX X ["_law_cells", "_law_kinds", "_law_words", "_law_asked", "_law_made", "_law_k", "_law_rest", "_law_salt", "_law_word", "_law_kind", "_law_far", "_law_more", "_law_odd", "_law_menu", "_law_coins", "_law_late", "_law_number"] ["range", "len", "int", "_law_came_by", "max"]) (hc : X.calm = true) (hp : PassesOwn (model X.prog X.w) X.A X.env X.xe) (hr : Room 1 X.A) (B : Bl X.mg) (F_came_by : Fn X.prog X.w X.K X.mg X.base CX0 "_law_came_by" 1 ["_law_rest", "_law_salt", "_law_more", "_law_made", "_law_k"] sp_came_by)
    {vs : List V} {H : Hp} {Q : VK} {E : XK} (h : sp_deeds vs H Q E) :
    ∃ t, PSs X (defBody s_deeds) t ∧ t { nx := fun _ H' => Q .non H', rt := Q } (start ["_law_cells", "_law_kinds", "_law_words", "_law_asked", "_law_made", "_law_k", "_law_rest", "_law_salt", "_law_word", "_law_kind", "_law_far", "_law_more", "_law_odd", "_law_menu", "_law_coins", "_law_late", "_law_number"] vs) H := by
  obtain ⟨c, cells, n, rfl, hcl, hlen, hn1, hn, k⟩ := h
  refine ⟨_, (pss_cons (ps_setD D 2 (pe_lst (pa_cons pe_str (pa_cons pe_str (pa_cons pe_str (pa_cons pe_str (pa_cons pe_str (pa_cons pe_str (pa_cons pe_str (pa_cons pe_str pa_nil)))))))))) (pss_cons (ps_setD D 3 (pe_lst pa_nil)) (pss_cons (ps_setD D 4 pe_int) (pss_cons (ps_for hp hc (pi_range1 (D.gl 0) B.range (pa_cons (pe_op op_fdivF (pe_callBD D 1 call_lenF B.len bt_len (pa_cons (pvF D 0) pa_nil)) pe_int) pa_nil)) (pg_nameD D 5) (pss_cons (ps_setD D 6 (pe_op op_addF (pe_op op_fdivF (pe_ixF (pvF D 0) (pe_op op_mulF pe_int (pvF D 5))) pe_int) (pvF D 5))) (pss_cons (ps_setD D 7 (pe_op op_addF (pe_ixF (pvF D 0) (pe_op op_addF (pe_op op_mulF pe_int (pvF D 5)) pe_int)) (pvF D 5))) (pss_cons (ps_setD D 8 (pe_ixF (pvF D 2) (pe_op op_modF (pe_op op_addF (pe_ixF (pvF D 0) (pe_op op_mulF pe_int (pvF D 5))) (pe_op op_mulF pe_int (pvF D 5))) pe_int))) (pss_cons (ps_setD D 9 (pe_op op_modF (pvF D 6) (pvF D 1))) (pss_cons (ps_setD D 10 (pe_op op_modF (pe_ixF (pvF D 0) (pe_op op_addF (pe_op op_mulF pe_int (pvF D 5)) pe_int)) (pe_op op_powF pe_int pe_int))) (pss_cons (ps_setD D 11 (pe_menu (pa_cons pe_int (pa_cons pe_int (pa_cons pe_int (pa_cons pe_int (pa_cons (pe_op op_modF (pvF D 10) pe_int) (pa_cons (pvF D 10) pa_nil)))))) (pe_op op_modF (pe_op op_addF (pe_op op_fdivF (pvF D 7) pe_int) (pvF D 6)) pe_int))) (pss_cut (ps_if (pt_cmpF op_eq (pe_op op_modF (pe_op op_addF (pe_op op_fdivF (pvF D 7) pe_int) (pvF D 5)) pe_int) pe_int (nomark _)) (pss_cons (ps_setD D 12 (pe_op op_modF (pvF D 6) (pe_op op_powF pe_int pe_int))) (pss_one (ps_setD D 9 (pe_menu (pa_cons (pe_un un_neg pe_int) (pa_cons (pvF D 1) (pa_cons (pe_op op_subF (pe_un un_neg pe_int) (pvF D 12)) (pa_cons (pe_op op_addF (pvF D 1) (pvF D 12)) (pa_cons (pe_op op_powF pe_int pe_int) pa_nil))))) (pe_op op_modF (pvF D 6) pe_int))))) pss_nil) (pss_cut (ps_if (PW.pt (pw_and (pt_cmpF op_eq (pvF D 4) pe_int (nomark _)) (pw_and1 (pt_cmpF op_ltF (pvF D 5) pe_int (nomark _))))) (pss_one (ps_setD D 8 pe_str)) pss_nil) (pss_one (ps_if (pt_cmpF op_eq (pvF D 8) pe_str (nomark _)) (pss_cons (ps_setD D 13 (pe_lst (pa_cons pe_int (pa_cons pe_int (pa_cons pe_int (pa_cons pe_int (pa_cons pe_int (pa_cons pe_int (pa_cons pe_int (pa_cons pe_int (pa_cons pe_int (pa_cons (pe_un un_neg pe_int) (pa_cons pe_int (pa_cons pe_int (pa_cons pe_int (pa_cons pe_int pa_nil)))))))))))))))) (pss_cons (ps_setD D 14 (pe_menu (pa_cons pe_int (pa_cons pe_int (pa_cons pe_int (pa_cons pe_int (pa_cons pe_int (pa_cons pe_int (pa_cons pe_int (pa_cons (pe_un un_neg pe_int) (pa_cons (pvF D 10) pa_nil))))))))) (pe_op op_modF (pe_op op_addF (pe_op op_fdivF (pvF D 7) pe_int) (pvF D 5)) pe_int))) (pss_cons (ps_expr (pe_append (pvF D 3) (pe_tup (pa_cons (pvF D 8) (pa_cons (pvF D 9) (pa_cons (pe_op op_addF (pe_ixF (pvF D 13) (pe_op op_modF (pvF D 7) pe_int)) (pvF D 11)) (pa_cons (pvF D 14) pa_nil))))))) (pss_one (ps_setD D 4 (pe_op op_addF (pvF D 4) (pe_callTyD D 2 call_int1 B.int bt_int (pa_cons (pe_and (pe_cmpR op_geF (pvF D 9) pe_int (nomark _)) (pe_one (pe_cmpR op_ltF (pvF D 9) (pvF D 1) (nomark _)))) pa_nil)))))))) (pss_one (ps_if (pt_cmpF op_eq (pvF D 8) pe_str (nomark _)) (pss_one (ps_expr (pe_append (pvF D 3) (pe_fnD D 3 F_came_by (hr.mono (by decide)) pass0 (pa_cons (pvF D 6) (pa_cons (pvF D 7) (pa_cons (pvF D 11) (pa_cons (pvF D 4) (pa_cons (pvF D 5) pa_nil))))))))) (pss_one (ps_if (pt_cmpF op_eq (pvF D 8) pe_str (nomark _)) (pss_cons (ps_setD D 15 (pe_op op_subF (pe_op op_subF (pvF D 4) pe_int) (pe_menu (pa_cons (pe_op op_modF (pvF D 7) pe_int) (pa_cons (pe_op op_modF (pvF D 7) (pe_callBD D 4 (call_max2 hc) B.max bt_max (pa_cons pe_int (pa_cons (pvF D 4) pa_nil)))) pa_nil)) (pe_op op_modF (pvF D 6) pe_int)))) (pss_one (ps_expr (pe_append (pvF D 3) (pe_tup (pa_cons (pvF D 8) (pa_cons (pvF D 15) pa_nil))))))) (pss_one (ps_if (pt_cmpF op_eq (pvF D 8) pe_str (nomark _)) (pss_cons (ps_setD D 13 (pe_lst (pa_ints rfl))) (pss_one (ps_expr (pe_append (pvF D 3) (pe_tup (pa_cons (pvF D 8) (pa_cons (pvF D 9) (pa_cons (pe_op op_addF (pe_ixF (pvF D 13) (pe_op op_modF (pvF D 7) pe_int)) (pvF D 11)) pa_nil)))))))) (pss_cons (ps_setD D 13 (pe_lst (pa_ints rfl))) (pss_cons (ps_setD D 16 (pe_menu (pa_cons pe_int (pa_cons pe_int (pa_cons pe_int (pa_cons pe_int (pa_cons pe_int (pa_cons pe_int (pa_cons (pe_op op_subF (pe_un un_neg pe_int) (pe_op op_modF (pvF D 7) (pe_op op_powF pe_int pe_int))) (pa_cons pe_int (pa_cons (pe_op op_modF (pvF D 7) (pe_op op_addF (pvF D 5) pe_int)) pa_nil))))))))) (pe_op op_modF (pvF D 6) pe_int))) (pss_one (ps_expr (pe_append (pvF D 3) (pe_tup (pa_cons (pvF D 8) (pa_cons (pvF D 16) (pa_cons (pe_op op_addF (pe_ixF (pvF D 13) (pe_op op_modF (pvF D 7) pe_int)) (pvF D 11)) pa_nil)))))))))))))))))))))))))) (pss_one (ps_ret (pvF D 3))))))), ?_⟩
  show (_ : TS) _ ([some (.ref c), some (.int n), none, none, none, none, none, none, none, none, none, none, none, none, none, none, none] : St) H
  walk_at "ev"
  intro w hw e he
  have hs := upd_self (o := .lst [.str "order", .str "came", .str "sell", .str "came", .str "back", .str "order", .str "sell", .str "give up"]) hw
  have hww : upd H w (.lst [.str "order", .str "came", .str "sell", .str "came", .str "back", .str "order", .str "sell", .str "give up"]) w = some (.lst [.str "order", .str "came", .str "sell", .str "came", .str "back", .str "order", .str "sell", .str "give up"]) := upd_same
  generalize upd H w (.lst [.str "order", .str "came", .str "sell", .str "came", .str "back", .str "order", .str "sell", .str "give up"]) = Hw at hs hww he ⊢
  have hcw := hs _ _ hcl
  refine ⟨_, sq_lst ((upd_self he) _ _ hcw), by omega, by rw [List.length_map]; omega, for_range (fun i σ' H' => ∃ (ds : List Deed) (made : Int) (v5 v6 v7 v8 v9 v10 v11 v12 v13 v14 v15 v16 : Option V),
    σ' = [some (.ref c), some (.int n), some (.ref w), some (.ref e), some (.int made), v5, v6, v7, v8, v9, v10, v11, v12, v13, v14, v15, v16] ∧ Under Hw H' e ds ∧ ds.length = i ∧ 0 ≤ made) ?_ ?_ ?_⟩
  · exact ⟨[], 0, none, none, none, none, none, none, none, none, none, none, none, none, rfl, ⟨upd_self he, he, ⟨[], upd_same, .nil⟩, by simp⟩, rfl, by omega⟩
  · rintro i _ H2 hi ⟨ds, made, v5, v6, v7, v8, v9, v10, v11, v12, v13, v14, v15, v16, rfl, U, hl, hm⟩
    have hi2 : 2 * i + 1 < cells.length := by rw [List.length_map] at hi; omega
    have c2 := U.same _ _ hcw
    have w2 := U.same _ _ hww
    have ix0 : atI (cells.map V.int) (2 * (0 + (i : Int))) = some (.int (cells.getD (2 * i) 0)) := by
      rw [show (2 * (0 + (i : Int))) = ((2 * i : Nat) : Int) by omega]
      refine atI_ints (by omega) ?_
      rw [Int.toNat_natCast, List.getD, List.getElem?_eq_getElem (by omega)]
      rfl
    have ix1 : atI (cells.map V.int) (2 * (0 + (i : Int)) + 1) = some (.int (cells.getD (2 * i + 1) 0)) := by
      rw [show (2 * (0 + (i : Int)) + 1) = ((2 * i + 1 : Nat) : Int) by omega]
      refine atI_ints (by omega) ?_
      rw [Int.toNat_natCast, List.getD, List.getElem?_eq_getElem (by omega)]
      rfl
    generalize cells.getD (2 * i) 0 = x0 at ix0
    generalize cells.getD (2 * i + 1) 0 = x1 at ix1
    simp_arith [sq_lst c2, sq_lst w2, ix0, ix1]
    have m2 : CMulB 2 (0 + (i : Int)) := cms (by omega) (by omega)
    have m3 : CMulB 3 (0 + (i : Int)) := cms (by omega) (by omega)
    refine ⟨m2, m2, m2, m3, word_at (by first | exact em0 | omega) (by first | exact em1 | omega) fun wd hwd => ⟨by omega, m2, by decide, by first | exact em0 | omega, menu_ex 6 (fun j => 0 ≤ j ∧ j < 1000000000000000000000000000000) rfl (by first | exact em0 | omega) (by first | exact em1 | omega) (by simp; omega) fun more hmore => ?_⟩⟩
    have hfar : 0 ≤ x1 % 1000000000000000000000000000000 ∧ x1 % 1000000000000000000000000000000 < 1000000000000000000000000000000 := by omega
    generalize x1 % 1000000000000000000000000000000 = far at hfar ⊢
    generalize x0 / 8 + (0 + (i : Int)) = rest
    generalize x1 + (0 + (i : Int)) = salt
    refine ⟨fun σ' H' => ∃ (kind : Int) (v12 : Option V), σ' = [some (.ref c), some (.int n), some (.ref w), some (.ref e), some (.int made), some (.int (0 + (i : Int))), some (.int rest), some (.int salt), some (.str wd), some (.int kind), some (.int far), some (.int more), v12, v13, v14, v15, v16] ∧ H2 = H', ?_, ?_⟩
    · walk_at "ev"
      split
      · refine ⟨by decide, by decide, by first | exact em0 | omega, menu_ex 5 (fun _ => True) rfl (by first | exact em0 | omega) (by first | exact em1 | omega) (by simp) fun kd _ => ?_⟩
        simp
      · simp
    rintro _ _ ⟨kind, v12, rfl, rfl⟩
    refine ⟨fun σ' H' => ∃ (wd : Str), σ' = [some (.ref c), some (.int n), some (.ref w), some (.ref e), some (.int made), some (.int (0 + (i : Int))), some (.int rest), some (.int salt), some (.str wd), some (.int kind), some (.int far), some (.int more), v12, v13, v14, v15, v16] ∧ IsWord wd ∧ H2 = H', ?_, ?_⟩
    · walk_at "ev"
      split
      · split
        · simp [IsWord]
        · simpa using hwd
      · simpa using hwd
    rintro _ _ ⟨wd, rfl, hwd, rfl⟩
    rcases hwd with rfl | rfl | rfl | rfl | rfl
    · -- an order
      walk_at "ev"
      obtain ⟨rs, h1, h2⟩ := U.ex
      intro p hpm
      refine ⟨by first | exact em0 | omega, menu_ex 9 (fun j => -1 ≤ j ∧ j < 1000000000000000000000000000000) rfl (by first | exact em0 | omega) (by first | exact em1 | omega) (by simp; omega) fun coins hco => ?_⟩
      refine ⟨tyV_lst (by rw [upd_ne (ne_of_none h1 hpm)]; exact h1), _, sq_lst upd_same, menu_at 14 (fun j => -1 ≤ j ∧ j ≤ 1000000000000) rfl (by first | exact em0 | omega) (by first | exact em1 | omega) (by simp) fun pc hpc => ?_⟩
      walk_at "ev"
      intro t htp
      obtain ⟨xs, x1, x2, x3⟩ := ((U.tup hpm).tup htp).add (d := .order kind (pc + more) coins) upd_same ⟨Sm.of (by omega) (by omega), Sm.of (by omega) (by omega)⟩
      refine ⟨xs, x1, small1000 (by omega), ?_⟩
      split
      · exact ⟨_, x3, by simp; omega, by split <;> omega⟩
      · exact ⟨_, x3, by simp; omega, by omega⟩
    · -- a delivery
      simp_arith [ne_came_order]
      obtain ⟨rs, h1, h2⟩ := U.ex
      refine ⟨tyV_lst h1, rest, salt, more, made, 0 + (i : Int), rfl, fun H3 t o q b s3 f3 t3 => ?_⟩
      walk_at "ev"
      obtain ⟨xs, x1, x2, x3⟩ := (U.on s3).add t3 trivial
      exact ⟨xs, x1, small1000 (by omega), _, x3, by simp; omega, hm⟩
    · -- a sale
      simp_arith [ne_sell_order, ne_sell_came, ne_sell_give]
      obtain ⟨rs, h1, h2⟩ := U.ex
      intro p hpm
      refine ⟨tyV_lst (by rw [upd_ne (ne_of_none h1 hpm)]; exact h1), _, sq_lst upd_same, menu_at 12 (fun j => -1 ≤ j ∧ j ≤ 1000000000000) rfl (by first | exact em0 | omega) (by first | exact em1 | omega) (by simp) fun pc hpc => ?_⟩
      walk_at "ev"
      intro t htp
      obtain ⟨xs, x1, x2, x3⟩ := ((U.tup hpm).tup htp).add (d := .sell kind (pc + more)) upd_same (Sm.of (by omega) (by omega))
      exact ⟨xs, x1, small1000 (by omega), _, x3, by simp; omega, hm⟩
    · -- bringing back
      simp_arith [ne_back_order, ne_back_came, ne_back_give, ne_back_sell]
      obtain ⟨rs, h1, h2⟩ := U.ex
      intro p hpm
      refine ⟨by decide, by omega, by first | exact em0 | omega, menu_ex 9 (fun _ => True) rfl (by first | exact em0 | omega) (by first | exact em1 | omega) (by simp) fun num _ => ?_⟩
      refine ⟨tyV_lst (by rw [upd_ne (ne_of_none h1 hpm)]; exact h1), _, sq_lst upd_same, menu_at 10 (fun j => -1 ≤ j ∧ j ≤ 1000000000000) rfl (by first | exact em0 | omega) (by first | exact em1 | omega) (by simp) fun pc hpc => ?_⟩
      walk_at "ev"
      intro t htp
      obtain ⟨xs, x1, x2, x3⟩ := ((U.tup hpm).tup htp).add (d := .back num (pc + more)) upd_same trivial
      exact ⟨xs, x1, small1000 (by omega), _, x3, by simp; omega, hm⟩
    · -- giving up
      simp_arith [ne_give_order, ne_give_came]
      obtain ⟨rs, h1, h2⟩ := U.ex
      refine ⟨by split <;> omega, by first | exact em0 | omega, menu_ex 2 (fun _ => True) rfl (by first | exact em0 | omega) (by first | exact em1 | omega) (by simp) fun late _ => ?_⟩
      walk_at "ev"
      refine ⟨tyV_lst h1, fun t htp => ?_⟩
      obtain ⟨xs, x1, x2, x3⟩ := (U.tup htp).add (d := .giveUp (made - 1 - late)) upd_same trivial
      exact ⟨xs, x1, small1000 (by omega), _, x3, by simp; omega, hm⟩
  · rintro _ H3 ⟨ds, made, v5, v6, v7, v8, v9, v10, v11, v12, v13, v14, v15, v16, rfl, U, hl, hm⟩
    walk_at "ev"
    exact k H3 e ds (U.down hs) (by rw [hl, List.length_map]; omega)
abbrev s_whole : Stmt := top 20
theorem sc_whole : FnScope ["_law_found"] ["_law_found"] (defScope s_whole) := ⟨rfl, rfl, rfl, by decide +kernel, rfl, by decide +kernel, by decide +kernel⟩
theorem dx_whole {X : Cx} (hN : X.N = (["_law_found"] : List Str)) (hs : X.env.scope = defScope s_whole) (hf : ∀ x, X.fn x = true) : DefX X ["_law_found"] ["isinstance", "int", "bool"] :=
  ⟨hN, by decide +kernel, fun x hx => by unfold L2.Loc; rw [hs]; revert x hx; decide +kernel, fun x hx => by unfold Gl Env.kindOf; rw [hs]; revert x hx; decide +kernel, by decide +kernel, by decide +kernel, by decide +kernel, hf⟩
def sp_whole : Sp := fun vs H Q _ => ∃ x : V, vs = [x] ∧ Sb.flatV x = true ∧ Q (.bl (isI x)) H
theorem rd_whole {X : Cx} (D : DefX X ["_law_found"] ["isinstance", "int", "bool"]) (hc : X.calm = true) (hp : PassesOwn (model X.prog X.w) X.A X.env X.xe) (B : Bl X.mg) {vs : List V} {H : Hp} {Q : VK} {E : XK} (h : sp_whole vs H Q E) :
    ∃ t, PSs X (defBody s_whole) t ∧ t { nx := fun _ H' => Q .non H', rt := Q } (start ["_law_found"] vs) H := by
  obtain ⟨x, rfl, hx, k⟩ := h
  refine ⟨_, (pss_one (ps_ret (pe_and (pe_callBD D 0 call_inst B.isinstance bt_isinstance (pa_cons (pvF D 0) (pa_cons (pe_tyD D 1 B.int bt_int) pa_nil))) (pe_one (pe_not (pe_callBD D 0 call_inst B.isinstance bt_isinstance (pa_cons (pvF D 0) (pa_cons (pe_tyD D 2 B.bool bt_bool) pa_nil)))))))), ?_⟩
  show (_ : TS) _ ([some x] : St) H
  cases x with
  | int i =>
    walk_at "ev"
    refine ⟨_, rfl, by decide +kernel, by decide +kernel, ?_⟩
    rw [if_pos (by decide +kernel)]
    refine ⟨_, rfl, by decide +kernel, by decide +kernel, ?_⟩
    rw [show subT "int" "bool" = false by decide +kernel]
    exact k
  | str i =>
    walk_at "ev"
    refine ⟨_, rfl, by decide +kernel, by decide +kernel, ?_⟩
    rw [if_neg (by decide +kernel)]
    exact k
  | _ => cases hx
abbrev s_at : Stmt := top 21
theorem sc_at : FnScope ["_law_script", "_law_k"] ["_law_script", "_law_k"] (defScope s_at) := ⟨rfl, rfl, rfl, by decide +kernel, rfl, by decide +kernel, by decide +kernel⟩
theorem dx_at {X : Cx} (hN : X.N = (["_law_script", "_law_k"] : List Str)) (hs : X.env.scope = defScope s_at) (hf : ∀ x, X.fn x = true) : DefX X ["_law_script", "_law_k"] ["len"] :=
  ⟨hN, by decide +kernel, fun x hx => by unfold L2.Loc; rw [hs]; revert x hx; decide +kernel, fun x hx => by unfold Gl Env.kindOf; rw [hs]; revert x hx; decide +kernel, by decide +kernel, by decide +kernel, by decide +kernel, hf⟩
def sp_at (K : PySem.W.Frag) : Sp := fun vs H Q _ => ∃ (a : Addr) (k : Int) (ns : List Int), vs = [.ref a, .int k] ∧ SqL K H a (ns.map V.int) ∧ 0 ≤ k ∧ Q (.int (ns.getD k.toNat 0)) H
theorem rd_at {X : Cx} (D : DefX X ["_law_script", "_law_k"] ["len"]) (hc : X.calm = true) (hp : PassesOwn (model X.prog X.w) X.A X.env X.xe) (B : Bl X.mg) {vs : List V} {H : Hp} {Q : VK} {E : XK} (h : sp_at X.K vs H Q E) :
    ∃ t, PSs X (defBody s_at) t ∧ t { nx := fun _ H' => Q .non H', rt := Q } (start ["_law_script", "_law_k"] vs) H := by
  obtain ⟨a, k, ns, rfl, hS, hk, q⟩ := h
  refine ⟨_, (pss_cons (ps_if (pt_cmpF op_ltF (pvF D 1) (pe_callBD D 0 call_len_seq B.len bt_len (pa_cons (pvF D 0) pa_nil)) (nomark _)) (pss_one (ps_ret (pe_ix ix_seq (pvF D 0) (pvF D 1) (fun _ _ => rfl)))) pss_nil) (pss_one (ps_ret pe_int))), ?_⟩
  show (_ : TS) _ ([some (.ref a), some (.int k)] : St) H
  walk_at "ev"
  refine ⟨_, .inl hS, ?_⟩
  rw [List.length_map]
  split
  · have hlt : k.toNat < ns.length := by omega
    exact .inl ⟨a, _, k, _, rfl, rfl, hS, atI_ints hk (by rw [List.getElem?_eq_getElem hlt]), by simpa [List.getD, List.getElem?_eq_getElem hlt] using q⟩
  · have e : ns.getD k.toNat 0 = 0 := by
      rw [List.getD, List.getElem?_eq_none_iff.mpr (by omega)]
      rfl
    rw [e] at q
    exact q
theorem SqL.same {K : PySem.W.Frag} {H H' : Hp} {a : Addr} {xs : List V} (s : Same H H') (h : SqL K H a xs) : SqL K H' a xs :=
  h.elim (fun h => .inl (h.elim (fun e => .inl (s _ _ e)) fun ⟨o, e⟩ => .inr ⟨o, s _ _ e⟩)) .inr
theorem flat1 {α : Type} (n : Nat) (x : α) : (List.replicate n [x]).flatten = List.replicate n x := by
  induction n with
  | zero => rfl
  | succ n ih => rw [List.replicate_succ, List.flatten_cons, ih, List.replicate_succ]; rfl
theorem none_of {H H' : Hp} (s : Same H H') {a : Addr} (h : H' a = none) : H a = none := by
  cases e : H a with
  | none => rfl
  | some u => rw [s a u e] at h; cases h
abbrev s_shop_of : Stmt := top 32
theorem sc_shop_of : FnScope ["_law_till", "_law_kinds"] ["_law_till", "_law_kinds"] (defScope s_shop_of) := ⟨rfl, rfl, rfl, by decide +kernel, rfl, by decide +kernel, by decide +kernel⟩
theorem dx_shop_of {X : Cx} (hN : X.N = (["_law_till", "_law_kinds"] : List Str)) (hs : X.env.scope = defScope s_shop_of) (hf : ∀ x, X.fn x = true) : DefX X ["_law_till", "_law_kinds"] [] :=
  ⟨hN, by decide +kernel, fun x hx => by unfold L2.Loc; rw [hs]; revert x hx; decide +kernel, fun x hx => by unfold Gl Env.kindOf; rw [hs]; revert x hx; decide +kernel, by decide +kernel, by decide +kernel, by decide +kernel, hf⟩
def sp_shop_of : Sp := fun vs H Q _ => ∃ (t : Int) (n : Nat), vs = [.int t, .int n] ∧ n ≤ 10 ∧ ∀ (H' : Hp) (d sh od sl : Addr), Same H H' → RefAt H' d sh od sl [] [] (new t n) → H d = none → H sh = none → H od = none → H sl = none → Q (.ref d) H'
theorem rd_shop_of {X : Cx} (D : DefX X ["_law_till", "_law_kinds"] []) (hc : X.calm = true) (hp : PassesOwn (model X.prog X.w) X.A X.env X.xe) (B : Bl X.mg) {vs : List V} {H : Hp} {Q : VK} {E : XK} (h : sp_shop_of vs H Q E) :
    ∃ t, PSs X (defBody s_shop_of) t ∧ t { nx := fun _ H' => Q .non H', rt := Q } (start ["_law_till", "_law_kinds"] vs) H := by
  obtain ⟨t, n, rfl, hn, k⟩ := h
  refine ⟨_, (pss_one (ps_ret (pe_disp (pps_cons pe_str (pvF D 0) (pps_cons pe_str (pe_op op_rep (pe_lst (pa_cons pe_int pa_nil)) (pvF D 1)) (pps_cons pe_str (pe_lst pa_nil) (pps_cons pe_str (pe_lst pa_nil) pps_nil)))) rfl rfl (by simp) (by simp)))), ?_⟩
  show (_ : TS) _ ([some (.int t), some (.int n)] : St) H
  simp_arith [L2.tPairs]
  intro p hp0
  have s1 : Same H (upd H p (.dK [])) := upd_self hp0
  have d1 : upd H p (.dK []) p = some (.dK []) := upd_same
  generalize upd H p (.dK []) = H1 at s1 d1 ⊢
  intro p1 hp1
  have s2 : Same H1 (upd H1 p1 (.lst [.int 0])) := upd_self hp1
  refine ⟨_, upd_same, by omega, by omega, small_sz (by rw [List.length_singleton]; omega), ?_⟩
  generalize upd H1 p1 (.lst [.int 0]) = H2 at s2 ⊢
  intro p2 hp2
  rw [show (List.replicate (n : Int).toNat [V.int 0]).flatten = ((new t n).shelf.map V.int) by simp [new, flat1]]
  have s3 : Same H2 (upd H2 p2 (.lst ((new t n).shelf.map V.int))) := upd_self hp2
  have d3 : upd H2 p2 (.lst ((new t n).shelf.map V.int)) p2 = _ := upd_same
  generalize upd H2 p2 (.lst ((new t n).shelf.map V.int)) = H3 at s3 d3 ⊢
  intro p3 hp3
  have s4 : Same H3 (upd H3 p3 (.lst [])) := upd_self hp3
  have d4 : upd H3 p3 (.lst []) p3 = _ := upd_same
  generalize upd H3 p3 (.lst []) = H4 at s4 d4 ⊢
  intro p4 hp4
  have s5 : Same H4 (upd H4 p4 (.lst [])) := upd_self hp4
  have d5 : upd H4 p4 (.lst []) p4 = _ := upd_same
  generalize upd H4 p4 (.lst []) = H5 at s5 d5 ⊢
  have f1 := s2 _ _ d1
  have f2 := s3 _ _ f1
  have f3 := s4 _ _ f2
  have f4 := s5 _ _ f3
  have g3 := s4 _ _ d3
  have g4 := s5 _ _ g3
  have h4 := s5 _ _ d4
  have n2 : p ≠ p2 := ne_of_none f1 hp2
  have n3 : p ≠ p3 := ne_of_none f2 hp3
  have n4 : p ≠ p4 := ne_of_none f3 hp4
  have n23 : p2 ≠ p3 := ne_of_none d3 hp3
  have n24 : p2 ≠ p4 := ne_of_none g3 hp4
  have n34 : p3 ≠ p4 := ne_of_none d4 hp4
  have a2 := s1.trans s2
  have a3 := a2.trans s3
  have a4 := a3.trans s4
  have a5 := a4.trans s5
  refine ⟨f4, shopKV t p2 p3 p4, by simp [shopKV, kV], by simp [shopKV], ?_⟩
  rw [show mergeK [] (shopKV t p2 p3 p4) = shopKV t p2 p3 p4 by kernel_rfl]
  refine k _ p p2 p3 p4 (fun b u e => by rw [upd_ne (ne_of_none e hp0)]; exact a5 b u e) ⟨upd_same, ?_, ?_, ?_, .nil, .nil, ?_⟩ hp0 (none_of a2 hp2) (none_of a3 hp3) (none_of a4 hp4)
  · rw [upd_ne n2.symm]; exact g4
  · rw [upd_ne n3.symm]; exact h4
  · rw [upd_ne n4.symm]; exact d5
  · simp [n2, n3, n4, n23, n24, n34]
abbrev s_prices_of : Stmt := top 25
theorem sc_prices_of : FnScope ["_law_cell", "_law_kinds", "_law_more"] ["_law_cell", "_law_kinds"] (defScope s_prices_of) := ⟨rfl, rfl, rfl, by decide +kernel, rfl, by decide +kernel, by decide +kernel⟩
theorem dx_prices_of {X : Cx} (hN : X.N = (["_law_cell", "_law_kinds", "_law_more"] : List Str)) (hs : X.env.scope = defScope s_prices_of) (hf : ∀ x, X.fn x = true) : DefX X ["_law_cell", "_law_kinds", "_law_more"] ["range"] :=
  ⟨hN, by decide +kernel, fun x hx => by unfold L2.Loc; rw [hs]; revert x hx; decide +kernel, fun x hx => by unfold Gl Env.kindOf; rw [hs]; revert x hx; decide +kernel, by decide +kernel, by decide +kernel, by decide +kernel, hf⟩
def sc_pr : Scope := match (defBody s_prices_of).getD 1 (.Pass ⟨0, 0, 0, 0⟩) with
  | .Return (some (.ListComp _ _ s _)) _ => s
  | _ => defScope s_prices_of
theorem pr_names : sc_pr.names = [((".0" : Str), .local), (("_law_k" : Str), .local), (("_law_cell" : Str), .free), (("_law_more" : Str), .free)] := by kernel_rfl
theorem pr_rel {X : Cx} (hs : X.env.scope = defScope s_prices_of) : (relabel sc_pr X.env).names = [((".0" : Str), .local), (("_law_k" : Str), .local), (("_law_cell" : Str), .cell), (("_law_more" : Str), .cell)] := by
  unfold relabel Env.kindOf
  rw [hs]
  kernel_rfl
theorem lk4 {x a b c d : Str} {k1 k2 k3 k4 k : NameKind} (h : [(a, k1), (b, k2), (c, k3), (d, k4)].lookup x = some k) : (x = a ∧ k = k1) ∨ (x = b ∧ k = k2) ∨ (x = c ∧ k = k3) ∨ (x = d ∧ k = k4) := by
  simp only [List.lookup] at h
  split at h
  · rename_i e; exact .inl ⟨by simpa using e, (Option.some.inj h).symm⟩
  · split at h
    · rename_i e; exact .inr (.inl ⟨by simpa using e, (Option.some.inj h).symm⟩)
    · split at h
      · rename_i e; exact .inr (.inr (.inl ⟨by simpa using e, (Option.some.inj h).symm⟩))
      · split at h
        · rename_i e; exact .inr (.inr (.inr ⟨by simpa using e, (Option.some.inj h).symm⟩))
        · cases h
theorem co_prices {X : Cx} {c1 c2 : Addr} (hN : X.N = (["_law_cell", "_law_kinds", "_law_more"] : List Str)) (hs : X.env.scope = defScope s_prices_of) (he : X.env.cells = [(("_law_more" : Str), c2), (("_law_cell" : Str), c1)]) :
    CompOk X sc_pr [(("_law_more" : Str), c2), (("_law_cell" : Str), c1)] "_law_k" ["_law_cell", "_law_more"] [0, 2] where
  kind := by kernel_rfl
  names := by decide +kernel
  nocell := by decide +kernel
  clos := by
    unfold closureFor cellOf
    rw [pr_names, he]
    kernel_rfl
  sub := fun x c h => by rw [he]; exact h
  has := fun x h => by
    rw [pr_rel hs] at h
    rcases h with h | h
    · rcases lk4 h with ⟨_, e⟩ | ⟨_, e⟩ | ⟨rfl, e⟩ | ⟨rfl, e⟩
      · cases e
      · cases e
      · exact ⟨c1, by kernel_rfl⟩
      · exact ⟨c2, by kernel_rfl⟩
    · rcases lk4 h with ⟨_, e⟩ | ⟨_, e⟩ | ⟨_, e⟩ | ⟨_, e⟩ <;> cases e
  frs := fun i x h => by
    rw [hN, hs, pr_rel hs]
    match i, h with
    | 0, h => cases h; exact ⟨0, rfl, rfl, .inl (by kernel_rfl), .inl (by kernel_rfl)⟩
    | 1, h => cases h; exact ⟨2, rfl, rfl, .inl (by kernel_rfl), .inl (by kernel_rfl)⟩
    | (n + 2), h => cases h
  len := rfl
  lc := by rw [pr_names]; kernel_rfl
  nd := by decide +kernel
def sp_prices_of : Sp := fun vs H Q _ => ∃ (c : Int) (n : Nat), vs = [.int c, .int n] ∧ n ≤ 10 ∧ ∀ (H' : Hp) (l : Addr) (ps : List Int), ps.length = n → (∀ p ∈ ps, 0 ≤ p ∧ Sm p) → Same H H' → H l = none → H' l = some (.lst (ps.map V.int)) → Q (.ref l) H'
theorem rd_prices_of {X : Cx} (D : DefX X ["_law_cell", "_law_kinds", "_law_more"] ["range"]) (hc : X.calm = true) (hp : PassesOwn (model X.prog X.w) X.A X.env X.xe) (B : Bl X.mg) {c1 c2 : Addr} (hs : X.env.scope = defScope s_prices_of) (he : X.env.cells = [(("_law_more" : Str), c2), (("_law_cell" : Str), c1)])
    {vs : List V} {H : Hp} {Q : VK} {E : XK} (h : sp_prices_of vs H Q E) :
    ∃ t, PSs X (defBody s_prices_of) t ∧ t { nx := fun _ H' => Q .non H', rt := Q } (start ["_law_cell", "_law_kinds", "_law_more"] vs) H := by
  obtain ⟨c, n, rfl, hn, k⟩ := h
  have v0 : ∀ ex s3 H3 p, PE (cxComp X sc_pr [(("_law_more" : Str), c2), (("_law_cell" : Str), c1)] ["_law_k", "_law_cell", "_law_more"] ex s3 H3) (.Name "_law_k" p) (tVar 0) := fun ex s3 H3 p =>
    pe_var rfl (.inl (show (relabel sc_pr X.env).names.lookup _ = _ by rw [pr_rel hs]; kernel_rfl)) (by decide +kernel) (by decide +kernel)
  have v1 : ∀ ex s3 H3 p, PE (cxComp X sc_pr [(("_law_more" : Str), c2), (("_law_cell" : Str), c1)] ["_law_k", "_law_cell", "_law_more"] ex s3 H3) (.Name "_law_cell" p) (tVar 1) := fun ex s3 H3 p =>
    pe_var rfl (.inr (.inl (show (relabel sc_pr X.env).names.lookup _ = _ by rw [pr_rel hs]; kernel_rfl))) (by decide +kernel) (by decide +kernel)
  have v2 : ∀ ex s3 H3 p, PE (cxComp X sc_pr [(("_law_more" : Str), c2), (("_law_cell" : Str), c1)] ["_law_k", "_law_cell", "_law_more"] ex s3 H3) (.Name "_law_more" p) (tVar 2) := fun ex s3 H3 p =>
    pe_var rfl (.inr (.inl (show (relabel sc_pr X.env).names.lookup _ = _ by rw [pr_rel hs]; kernel_rfl))) (by decide +kernel) (by decide +kernel)
  refine ⟨_, (pss_cons (ps_setD D 2 (pe_lst (pa_cons pe_int (pa_cons pe_int (pa_cons (pe_op op_mod (pvD D 0) (pe_op op_pow pe_int pe_int)) pa_nil))))) (pss_one (ps_ret (pe_comp (co_prices D.hN hs he) hc (pi_range1 (D.gl 0) B.range (pa_cons (pvD D 1) pa_nil)) (fun _ _ _ => .nil)
    (fun ex s3 H3 => (pe_op op_add (pe_op op_mod (pe_op op_add (pe_op op_fdiv (v1 ex s3 H3 _) pe_int) (pe_op op_mulB pe_int (v0 ex s3 H3 _))) pe_int) (pe_ixF (v2 ex s3 H3 _) (pe_op op_mod (pe_op op_add (v1 ex s3 H3 _) (v0 ex s3 H3 _)) pe_int)))))))), ?_⟩
  show (_ : TS) _ ([some (.int c), some (.int n), none] : St) H
  walk_at "ev"
  refine ⟨by decide, fun p hp0 => ?_⟩
  have s1 : Same H (upd H p (.lst [.int 0, .int 0, .int (c % 1000000000000000000000000000000)])) := upd_self hp0
  have d1 : upd H p (.lst [.int 0, .int 0, .int (c % 1000000000000000000000000000000)]) p = some (.lst [.int 0, .int 0, .int (c % 1000000000000000000000000000000)]) := upd_same
  generalize upd H p (.lst [.int 0, .int 0, .int (c % 1000000000000000000000000000000)]) = H1 at s1 d1 ⊢
  unfold tComp iRng1
  walk_at "ev"
  refine ⟨by omega, by omega, fun l hl => ?_⟩
  refine ⟨fun i m ys H2 => ∃ ps : List Int, m = n - i ∧ i ≤ n ∧ ps.length = i ∧ (∀ p ∈ ps, 0 ≤ p ∧ Sm p) ∧ ys = ps.map V.int ∧ H2 = upd H1 l (.lst ys), ⟨n, [], rfl, Nat.zero_le _, rfl, by simp, rfl, rfl⟩, ?_⟩
  rintro i m _ _ ⟨ps, rfl, hi, hl2, hps, rfl, rfl⟩
  have npl : p ≠ l := ne_of_none d1 hl
  by_cases hin : i = n
  · refine .inl ⟨show (n : Int).toNat ≤ i by omega, k _ l ps (by omega) hps (s1.trans (upd_self hl)) (s1.free hl) upd_same⟩
  · refine .inr ⟨show i < (n : Int).toNat by omega, ?_⟩
    rintro x _ ⟨rfl, rfl⟩
    have cs : compSt [some (V.int c), some (V.int n), some (V.ref p)] [0, 2] (some (V.int (0 + (i : Int)))) = [some (V.int (0 + (i : Int))), some (.int c), some (.ref p)] := rfl
    have gp : upd H1 l (.lst (ps.map V.int)) p = _ := (upd_ne npl).trans d1
    simp_arith [cs, L2.tYes, sq_lst gp]
    refine ⟨cms (by omega) (by omega), ?_⟩
    have hfar : 0 ≤ c % 1000000000000000000000000000000 ∧ c % 1000000000000000000000000000000 < 1000000000000000000000000000000 := by omega
    have hj : 0 ≤ (c + (0 + (i : Int))) % 3 ∧ (c + (0 + (i : Int))) % 3 < 3 := by omega
    generalize (c + (0 + (i : Int))) % 3 = j at hj ⊢
    have hv : 0 ≤ (c / 5 + 3 * (0 + (i : Int))) % 7 ∧ (c / 5 + 3 * (0 + (i : Int))) % 7 < 7 := by omega
    generalize (c / 5 + 3 * (0 + (i : Int))) % 7 = v at hv ⊢
    refine menu_at 3 (fun u => 0 ≤ u ∧ u < 1000000000000000000000000000000) rfl (by omega) (by omega) (by simp; omega) fun u hu => ?_
    walk_at "ev"
    refine ⟨upd_same, small1000 (by rw [List.length_map]; omega), n - (i + 1), ?_, rfl, by omega, ps ++ [v + u], by simp; omega, ?_, by simp, ?_⟩
    · omega
    · intro z hz
      rcases List.mem_append.mp hz with hz | hz
      · exact hps z hz
      · rw [List.mem_singleton] at hz
        subst hz
        exact ⟨by omega, Sm.of (by omega) (by omega)⟩
    · simp [upd_upd]
def spEx (f : Nat → Sp) : Sp := fun vs H Q E => ∃ n, f n vs H Q E
/-- the loop of the law's own shop -/
def LoopP (H8 : Hp) (ps : List Int) (ds : List Deed) (n : Nat) (t : Int) (σ0 : St) (d sh od sl due : Addr) (i : Nat) (σ' : St) (H' : Hp) : Prop :=
  ∃ (os ss : List Addr) (v1 v2 : Option V), σ' = σ0 ++ [some (.ref d), some (.ref due), v1, v2] ∧ RefAt H' d sh od sl os ss (after ps (new t n) (ds.take i)) ∧ Wf n (after ps (new t n) (ds.take i)) ∧ Same H8 H' ∧ (∀ b ∈ own d sh od sl os ss, H8 b = none) ∧ due ∉ own d sh od sl os ss ∧
    (after ps (new t n) (ds.take i)).orders.length ≤ i ∧ (after ps (new t n) (ds.take i)).sales.length ≤ i ∧ H8 due = none ∧ H' due = some (.lst ((answers ps (new t n) (ds.take i)).map Ans.v)) ∧ i ≤ ds.length
abbrev s_answers_of : Stmt := top 33
theorem sc_answers_of : FnScope ["_law_till", "_law_prices", "_law_asked", "_law_shop", "_law_due", "_law_deed", "_law_told"] ["_law_till", "_law_prices", "_law_asked"] (defScope s_answers_of) := ⟨rfl, rfl, rfl, by decide +kernel, rfl, by decide +kernel, by decide +kernel⟩
theorem dx_answers_of {X : Cx} (hN : X.N = (["_law_till", "_law_prices", "_law_asked", "_law_shop", "_law_due", "_law_deed", "_law_told"] : List Str)) (hs : X.env.scope = defScope s_answers_of) (hf : ∀ x, X.fn x = true) : DefX X ["_law_till", "_law_prices", "_law_asked", "_law_shop", "_law_due", "_law_deed", "_law_told"] ["_law_shop_of", "len", "_law_refusal_of", "_law_did"] :=
  ⟨hN, by decide +kernel, fun x hx => by unfold L2.Loc; rw [hs]; revert x hx; decide +kernel, fun x hx => by unfold Gl Env.kindOf; rw [hs]; revert x hx; decide +kernel, by decide +kernel, by decide +kernel, by decide +kernel, hf⟩
def sp_answers_of : Sp := fun vs H Q _ => ∃ (t : Int) (lp e : Addr) (ps : List Int) (rs : List V) (ds : List Deed), vs = [.int t, .ref lp, .ref e] ∧ DayPre H t lp e ps rs ds ∧
  ∀ (H' : Hp) (l : Addr), Same H H' → H l = none → H' l = some (.lst ((answers ps (new t ps.length) ds).map Ans.v)) → Q (.ref l) H'
theorem rd_answers_of {X : Cx} (D : DefX X ["_law_till", "_law_prices", "_law_asked", "_law_shop", "_law_due", "_law_deed", "_law_told"] ["_law_shop_of", "len", "_law_refusal_of", "_law_did"]) (hc : X.calm = true) (hp : PassesOwn (model X.prog X.w) X.A X.env X.xe) (hr : Room 4 X.A) (B : Bl X.mg)
    (F_shop_of : Fn X.prog X.w X.K X.mg X.base CX0 "_law_shop_of" 1 ["_law_till", "_law_kinds"] sp_shop_of)
    (F_refusal_of : Fn X.prog X.w X.K X.mg X.base CX0 "_law_refusal_of" 3 ["_law_shop", "_law_deed"] (spEx sp_refusal_of))
    (F_did : Fn X.prog X.w X.K X.mg X.base CX0 "_law_did" 1 ["_law_shop", "_law_deed", "_law_prices"] (spEx sp_did))
    {vs : List V} {H : Hp} {Q : VK} {E : XK} (h : sp_answers_of vs H Q E) :
    ∃ t, PSs X (defBody s_answers_of) t ∧ t { nx := fun _ H' => Q .non H', rt := Q } (start ["_law_till", "_law_prices", "_law_asked", "_law_shop", "_law_due", "_law_deed", "_law_told"] vs) H := by
  obtain ⟨t, lp, e, ps, rs, ds, rfl, ⟨t0, tsm, p8, hps1, hps2, hps, e8, u8, hok, hdl⟩, k⟩ := h
  obtain ⟨n, hpl⟩ : ∃ n, ps.length = n := ⟨_, rfl⟩
  refine ⟨_, (pss_cons (ps_setD D 3 (pe_fnD D 0 F_shop_of (hr.mono (by decide)) pass0 (pa_cons (pvF D 0) (pa_cons (pe_callBD D 1 call_lenF B.len bt_len (pa_cons (pvF D 1) pa_nil)) pa_nil)))) (pss_cons (ps_setD D 4 (pe_lst pa_nil)) (pss_cons (ps_for hp hc (pi_list (pvF D 2)) (pg_nameD D 5) (pss_cons (ps_setD D 6 (pe_fnD D 2 F_refusal_of (hr.mono (by decide)) pass0 (pa_cons (pvF D 3) (pa_cons (pvF D 5) pa_nil)))) (pss_cons (ps_if (pt_cmpF op_eq (pvF D 6) pe_str (nomark _)) (pss_one (ps_setD D 6 (pe_fnD D 3 F_did (hr.mono (by decide)) pass0 (pa_cons (pvF D 3) (pa_cons (pvF D 5) (pa_cons (pvF D 1) pa_nil)))))) pss_nil) (pss_one (ps_expr (pe_append (pvF D 4) (pvF D 6))))))) (pss_one (ps_ret (pvF D 4)))))), ?_⟩
  show (_ : TS) _ ([some (.int t), some (.ref lp), some (.ref e), none, none, none, none] : St) H
  simp_arith [sq_lst p8, List.length_map, hpl]
  refine ⟨t, n, rfl, by omega, fun H9 d sh od sl s9 R d0 sh0 od0 sl0 => ?_⟩
  walk_at "ev"
  intro due hdue
  have s89 : Same H (upd H9 due (.lst [])) := Same.upd s9 hdue
  refine ⟨⟨_, .inl (.of (s89 _ _ e8))⟩, for_list (xs := rs) (LoopP H ps ds n t [some (.int t), some (.ref lp), some (.ref e)] d sh od sl due) ?_ (fun i σ' H' _ h => ?_) (fun i x σ' H' hx h => ?_) (fun σ' H' h => ?_)⟩
  · refine ⟨[], [], none, none, rfl, RefAt.same R (upd_self hdue), Wf.new t n, s89, ?_, R.fresh hdue, Nat.le_refl 0, Nat.le_refl 0, s9.free hdue, upd_same, Nat.zero_le _⟩
    intro b hb
    simp only [own, List.append_nil, List.mem_cons, List.not_mem_nil, or_false] at hb
    rcases hb with rfl | rfl | rfl | rfl
    · exact d0
    · exact sh0
    · exact od0
    · exact sl0
  · obtain ⟨os, ss, v1, v2, rfl, R, W, S, O, _⟩ := h
    exact .inl (.of (S _ _ e8))
  · obtain ⟨os, ss, v1, v2, rfl, R, W, S, O, dn, ol, sn, due0, hd, hi⟩ := h
    obtain ⟨ad, dd, rfl, hdd, had⟩ := DeedsAt.at u8 hx
    have hmem := List.mem_of_getElem? hdd
    generalize hm : after ps (new t n) (ds.take i) = mm at R W ol sn
    walk_at "ev"
    refine ⟨n, d, sh, od, sl, ad, os, ss, mm, dd, rfl, R, W, S _ _ had, ?_⟩
    have hil : i < ds.length := (List.getElem?_eq_some_iff.mp hdd).1
    have hnd : ∀ b u, H b = some u → b ≠ due := fun b u e => ne_of_none e due0
    have hno : ∀ b u, H b = some u → b ∉ own d sh od sl os ss := fun b u e z => by rw [O b z] at e; cases e
    have tk := take_at hdd
    have ha1 : after ps (new t n) (ds.take (i + 1)) = (step ps mm dd).2 := by rw [tk, after_append, hm]; rfl
    have ha2 : (answers ps (new t n) (ds.take (i + 1))).map Ans.v = (answers ps (new t n) (ds.take i)).map Ans.v ++ [(step ps mm dd).1.v] := by rw [tk, answers_append, hm, List.map_append]; rfl
    cases hq : refusal mm dd with
    | none =>
      have hst : step ps mm dd = (.num (did ps mm dd).1, (did ps mm dd).2) := by unfold Sb.step; rw [hq]
      rw [hst] at ha1 ha2
      rw [show wordS none = "done" from rfl]
      walk_at "ev"
      refine ⟨n, d, sh, od, sl, ad, lp, os, ss, mm, dd, ps, rfl, R, W, S _ _ had, ⟨sq_lst (S _ _ p8), hpl, fun x hx => (hps x hx).2⟩, hno _ _ p8, hok dd hmem, hq, by omega, by omega, fun H2 os' ss' R' K' => ?_⟩
      have hd2 := K'.same _ _ hd dn
      have dn' : due ∉ own d sh od sl os' ss' := fun z => by
        rcases K'.new _ z with q | q
        · exact dn q
        · rw [hd] at q; cases q
      have lens := did_lens ps mm dd
      walk_at "ev"
      refine ⟨tyV_lst hd2, _, hd2, small1000 (by rw [List.length_map, answers_length, List.length_take]; omega), os', ss', _, _, rfl, ?_⟩
      rw [ha1, ha2]
      refine ⟨RefAt.off R' dn', W.did (hok dd hmem) hq fun x hx => (hps x hx).2, fun b u e => ?_, fun b hb => ?_, dn', Nat.le_trans lens.1 (by omega), Nat.le_trans lens.2 (by omega), due0, upd_same, hil⟩
      · rw [upd_ne (hnd b u e)]
        exact K'.same _ _ (S _ _ e) (hno b u e)
      · rcases K'.new _ hb with q | q
        · exact O b q
        · exact S.free q
    | some w =>
      have hst : step ps mm dd = (.word w, mm) := by unfold Sb.step; rw [hq]
      rw [hst] at ha1 ha2
      rw [show wordS (some w) = w.str from rfl]
      simp_arith [word_not_done w]
      refine ⟨tyV_lst hd, _, hd, small1000 (by rw [List.length_map, answers_length, List.length_take]; omega), os, ss, _, _, rfl, ?_⟩
      rw [ha1, ha2]
      refine ⟨RefAt.off R dn, W, fun b u e => ?_, O, dn, by show mm.orders.length ≤ i + 1; omega, by show mm.sales.length ≤ i + 1; omega, due0, upd_same, hil⟩
      rw [upd_ne (hnd b u e)]
      exact S _ _ e
  · obtain ⟨os, ss, v1, v2, rfl, R, W, S, O, dn, ol, sn, due0, hd, hi⟩ := h
    rw [Paired.length u8, List.take_length] at hd
    walk_at "ev"
    rw [hpl] at k
    exact k H' due S due0 hd
abbrev s_row_of : Stmt := top 26
theorem sc_row_of : FnScope ["_law_found", "_law_kinds", "_law_one"] ["_law_found", "_law_kinds"] (defScope s_row_of) := ⟨rfl, rfl, rfl, by decide +kernel, rfl, by decide +kernel, by decide +kernel⟩
theorem dx_row_of {X : Cx} (hN : X.N = (["_law_found", "_law_kinds", "_law_one"] : List Str)) (hs : X.env.scope = defScope s_row_of) (hf : ∀ x, X.fn x = true) : DefX X ["_law_found", "_law_kinds", "_law_one"] ["isinstance", "list", "len", "_law_whole"] :=
  ⟨hN, by decide +kernel, fun x hx => by unfold L2.Loc; rw [hs]; revert x hx; decide +kernel, fun x hx => by unfold Gl Env.kindOf; rw [hs]; revert x hx; decide +kernel, by decide +kernel, by decide +kernel, by decide +kernel, hf⟩
def sp_row_of : Sp := fun vs H Q _ => ∃ (a : Addr) (n : Nat) (ps : List Int), vs = [.ref a, .int n] ∧ H a = some (.lst (ps.map V.int)) ∧ ps.length = n ∧ (∀ p ∈ ps, 0 ≤ p) ∧ Q (.bl true) H
theorem rd_row_of {X : Cx} (D : DefX X ["_law_found", "_law_kinds", "_law_one"] ["isinstance", "list", "len", "_law_whole"]) (hc : X.calm = true) (hp : PassesOwn (model X.prog X.w) X.A X.env X.xe) (hr : Room 1 X.A) (B : Bl X.mg) (F_whole : Fn X.prog X.w X.K X.mg X.base CX0 "_law_whole" 1 ["_law_found"] sp_whole)
    {vs : List V} {H : Hp} {Q : VK} {E : XK} (h : sp_row_of vs H Q E) :
    ∃ t, PSs X (defBody s_row_of) t ∧ t { nx := fun _ H' => Q .non H', rt := Q } (start ["_law_found", "_law_kinds", "_law_one"] vs) H := by
  obtain ⟨a, n, ps, rfl, ha, hl, hps, k⟩ := h
  refine ⟨_, (pss_cons (ps_if (PW.pt (pw_or (pt_not (pt_valF (pe_callBD D 0 call_inst B.isinstance bt_isinstance (pa_cons (pvF D 0) (pa_cons (pe_tyD D 1 B.list bt_list) pa_nil))))) (pw_or1 (pt_cmpF op_ne (pe_callBD D 2 call_lenF B.len bt_len (pa_cons (pvF D 0) pa_nil)) (pvF D 1) (nomark _))))) (pss_one (ps_ret pe_bl)) pss_nil) (pss_cons (ps_for hp hc (pi_list (pvF D 0)) (pg_nameD D 2) (pss_one (ps_if (PW.pt (pw_or (pt_not (pt_valF (pe_fnD D 3 F_whole (hr.mono (by decide)) pass0 (pa_cons (pvF D 2) pa_nil)))) (pw_or1 (pt_cmpF op_ltF (pvF D 2) pe_int (nomark _))))) (pss_one (ps_ret pe_bl)) pss_nil))) (pss_one (ps_ret pe_bl)))), ?_⟩
  show (_ : TS) _ ([some (.ref a), some (.int n), none] : St) H
  simp_arith [ty_lst ha, pl_list, st_list_list, sq_lst ha, List.length_map, hl]
  refine ⟨⟨_, .inl (.of ha)⟩, for_list (xs := ps.map V.int) (fun i σ' H' => ∃ v, σ' = [some (.ref a), some (.int n), v] ∧ H' = H) ⟨none, rfl, rfl⟩ (fun i σ' H' _ h => ?_) (fun i x σ' H' hx h => ?_) (fun σ' H' h => ?_)⟩
  · obtain ⟨v, rfl, rfl⟩ := h
    exact .of ha
  · obtain ⟨v, rfl, rfl⟩ := h
    obtain ⟨y, hy, rfl⟩ : ∃ y, ps[i]? = some y ∧ x = .int y := by
      rw [List.getElem?_map] at hx
      cases e : ps[i]? with
      | none => rw [e] at hx; cases hx
      | some y => rw [e] at hx; exact ⟨y, rfl, (Option.some.inj hx).symm⟩
    have h0 := hps y (List.mem_of_getElem? hy)
    walk_at "ev"
    refine ⟨.int y, rfl, rfl, ?_⟩
    rw [show isI (V.int y) = true from rfl]
    walk_at "ev"
    rw [if_neg (by omega)]
    exact ⟨_, rfl⟩
  · obtain ⟨v, rfl, rfl⟩ := h
    walk_at "ev"
    exact k
abbrev s_are_states : Stmt := top 27
theorem sc_are_states : FnScope ["_law_found", "_law_count", "_law_kinds", "_law_one"] ["_law_found", "_law_count", "_law_kinds"] (defScope s_are_states) := ⟨rfl, rfl, rfl, by decide +kernel, rfl, by decide +kernel, by decide +kernel⟩
theorem dx_are_states {X : Cx} (hN : X.N = (["_law_found", "_law_count", "_law_kinds", "_law_one"] : List Str)) (hs : X.env.scope = defScope s_are_states) (hf : ∀ x, X.fn x = true) : DefX X ["_law_found", "_law_count", "_law_kinds", "_law_one"] ["isinstance", "list", "len", "tuple", "_law_whole", "_law_row_of"] :=
  ⟨hN, by decide +kernel, fun x hx => by unfold L2.Loc; rw [hs]; revert x hx; decide +kernel, fun x hx => by unfold Gl Env.kindOf; rw [hs]; revert x hx; decide +kernel, by decide +kernel, by decide +kernel, by decide +kernel, hf⟩
def sp_are_states : Sp := fun vs H Q _ => ∃ (a : Addr) (m n : Nat) (rs : List V) (xs : List Sx), vs = [.ref a, .int m, .int n] ∧ H a = some (.lst rs) ∧ StsAt H [] rs xs ∧ xs.length = m ∧ (∀ x ∈ xs, 0 ≤ x.m.till ∧ x.m.shelf.length = n ∧ x.ow.length = n ∧ (∀ p ∈ x.m.shelf, 0 ≤ p) ∧ ∀ p ∈ x.ow, 0 ≤ p) ∧ Q (.bl true) H
theorem rd_are_states {X : Cx} (D : DefX X ["_law_found", "_law_count", "_law_kinds", "_law_one"] ["isinstance", "list", "len", "tuple", "_law_whole", "_law_row_of"]) (hc : X.calm = true) (hp : PassesOwn (model X.prog X.w) X.A X.env X.xe) (hr : Room 2 X.A) (B : Bl X.mg) (F_whole : Fn X.prog X.w X.K X.mg X.base CX0 "_law_whole" 1 ["_law_found"] sp_whole)
    (F_row_of : Fn X.prog X.w X.K X.mg X.base CX0 "_law_row_of" 2 ["_law_found", "_law_kinds"] sp_row_of)
    {vs : List V} {H : Hp} {Q : VK} {E : XK} (h : sp_are_states vs H Q E) :
    ∃ t, PSs X (defBody s_are_states) t ∧ t { nx := fun _ H' => Q .non H', rt := Q } (start ["_law_found", "_law_count", "_law_kinds", "_law_one"] vs) H := by
  obtain ⟨a, m, n, rs, xs, rfl, ha, hst, hl, hx, k⟩ := h
  refine ⟨_, (pss_cons (ps_if (PW.pt (pw_or (pt_not (pt_valF (pe_callBD D 0 call_inst B.isinstance bt_isinstance (pa_cons (pvF D 0) (pa_cons (pe_tyD D 1 B.list bt_list) pa_nil))))) (pw_or1 (pt_cmpF op_ne (pe_callBD D 2 call_lenF B.len bt_len (pa_cons (pvF D 0) pa_nil)) (pvF D 1) (nomark _))))) (pss_one (ps_ret pe_bl)) pss_nil) (pss_cons (ps_for hp hc (pi_list (pvF D 0)) (pg_nameD D 3) (pss_cons (ps_if (PW.pt (pw_or (pt_not (pt_valF (pe_callBD D 0 call_inst B.isinstance bt_isinstance (pa_cons (pvF D 3) (pa_cons (pe_tyD D 3 B.tuple bt_tuple) pa_nil))))) (pw_or (pt_cmpF op_ne (pe_callBD D 2 call_lenF B.len bt_len (pa_cons (pvF D 3) pa_nil)) pe_int (nomark _)) (pw_or1 (pt_not (pt_valF (pe_fnD D 4 F_whole (hr.mono (by decide)) pass0 (pa_cons (pe_ixF (pvF D 3) pe_int) pa_nil)))))))) (pss_one (ps_ret pe_bl)) pss_nil) (pss_one (ps_if (PW.pt (pw_or (pt_cmpF op_ltF (pe_ixF (pvF D 3) pe_int) pe_int (nomark _)) (pw_or (pt_not (pt_valF (pe_fnD D 5 F_row_of (hr.mono (by decide)) pass0 (pa_cons (pe_ixF (pvF D 3) pe_int) (pa_cons (pvF D 2) pa_nil))))) (pw_or1 (pt_not (pt_valF (pe_fnD D 5 F_row_of (hr.mono (by decide)) pass0 (pa_cons (pe_ixF (pvF D 3) pe_int) (pa_cons (pvF D 2) pa_nil))))))))) (pss_one (ps_ret pe_bl)) pss_nil)))) (pss_one (ps_ret pe_bl)))), ?_⟩
  show (_ : TS) _ ([some (.ref a), some (.int m), some (.int n), none] : St) H
  have hrl : rs.length = m := (Paired.length hst).trans hl
  simp_arith [ty_lst ha, pl_list, st_list_list, sq_lst ha, hrl]
  refine ⟨⟨_, .inl (.of ha)⟩, for_list (xs := rs) (fun i σ' H' => ∃ v, σ' = [some (.ref a), some (.int m), some (.int n), v] ∧ H' = H) ⟨none, rfl, rfl⟩ (fun i σ' H' _ h => ?_) (fun i x σ' H' hx1 h => ?_) (fun σ' H' h => ?_)⟩
  · obtain ⟨v, rfl, rfl⟩ := h
    exact .of ha
  · obtain ⟨v, rfl, rfl⟩ := h
    have hi : i < xs.length := by have := (List.getElem?_eq_some_iff.mp hx1).1; omega
    obtain ⟨x', e1, p, q1, q2, e2, h1, h2, h3, _⟩ := Paired.at hst (List.getElem?_eq_getElem hi)
    rw [hx1] at e1
    cases e1
    subst e2
    obtain ⟨b1, b2, b3, b4, b5⟩ := hx _ (List.getElem_mem hi)
    simp_arith [ty_tup h1, pl_tuple, st_tuple_tuple, sq_tup h1, atI0, atI1, atI2]
    refine ⟨.int _, rfl, rfl, ?_⟩
    rw [show ∀ z, isI (V.int z) = true from fun _ => rfl]
    simp_arith [sq_tup h1, atI0, atI1, atI2]
    rw [if_neg (by omega)]
    refine ⟨q1, n, _, rfl, h2, b2, b4, ?_⟩
    simp_arith [sq_tup h1, atI0, atI1, atI2]
    refine ⟨q2, n, _, rfl, h3, b3, b5, ?_⟩
    walk_at "ev"
    exact ⟨_, rfl⟩
  · obtain ⟨v, rfl, rfl⟩ := h
    walk_at "ev"
    exact k
abbrev s_law : Stmt := top 34
theorem sc_law : FnScope ["_law_script", "_law_head", "_law_kinds", "_law_till", "_law_prices", "_law_asked", "_law_found", "_law_told", "_law_shelf", "_law_owed", "_law_ordered", "_law_sold", "_law_k", "_law_deed", "_law_kind"] ["_law_script"] (defScope s_law) := ⟨rfl, rfl, rfl, by decide +kernel, rfl, by decide +kernel, by decide +kernel⟩
theorem dx_law {X : Cx} (hN : X.N = (["_law_script", "_law_head", "_law_kinds", "_law_till", "_law_prices", "_law_asked", "_law_found", "_law_told", "_law_shelf", "_law_owed", "_law_ordered", "_law_sold", "_law_k", "_law_deed", "_law_kind"] : List Str)) (hs : X.env.scope = defScope s_law) (hf : ∀ x, X.fn x = true) : DefX X ["_law_script", "_law_head", "_law_kinds", "_law_till", "_law_prices", "_law_asked", "_law_found", "_law_told", "_law_shelf", "_law_owed", "_law_ordered", "_law_sold", "_law_k", "_law_deed", "_law_kind"] ["_law_at", "_law_prices_of", "_law_deeds", "states", "_law_answers_of", "range", "int", "list", "_law_are_states", "len", "_law_whole", "_law_first_deeds"] :=
  ⟨hN, by decide +kernel, fun x hx => by unfold L2.Loc; rw [hs]; revert x hx; decide +kernel, fun x hx => by unfold Gl Env.kindOf; rw [hs]; revert x hx; decide +kernel, by decide +kernel, by decide +kernel, by decide +kernel, hf⟩
def sp_law (K : PySem.W.Frag) : Sp := fun vs H Q _ => ∃ (a : Addr) (ns : List Int), vs = [.ref a] ∧ SqL K H a (ns.map V.int) ∧ ns.length ≤ 63 ∧ ∀ H', Q (.bl true) H'
theorem rd_law {X : Cx} (D : DefX X ["_law_script", "_law_head", "_law_kinds", "_law_till", "_law_prices", "_law_asked", "_law_found", "_law_told", "_law_shelf", "_law_owed", "_law_ordered", "_law_sold", "_law_k", "_law_deed", "_law_kind"] ["_law_at", "_law_prices_of", "_law_deeds", "states", "_law_answers_of", "range", "int", "list", "_law_are_states", "len", "_law_whole", "_law_first_deeds"]) (hc : X.calm = true) (hp : PassesOwn (model X.prog X.w) X.A X.env X.xe) (hr : Room 20 X.A) (B : Bl X.mg)
    (F_at : Fn X.prog X.w X.K X.mg X.base CX0 "_law_at" 1 ["_law_script", "_law_k"] (sp_at X.K))
    (F_prices_of : Fn X.prog X.w X.K X.mg X.base CX0 "_law_prices_of" 1 ["_law_cell", "_law_kinds"] sp_prices_of)
    (F_deeds : Fn X.prog X.w X.K X.mg X.base CX0 "_law_deeds" 2 ["_law_cells", "_law_kinds"] sp_deeds)
    (F_first_deeds : Fn X.prog X.w X.K X.mg X.base CX0 "_law_first_deeds" 1 ["_law_kinds"] sp_first_deeds)
    (F_states : Fn X.prog X.w X.K X.mg X.base CX0 "states" 15 ["till", "prices", "deeds"] sp_states)
    (F_answers_of : Fn X.prog X.w X.K X.mg X.base CX0 "_law_answers_of" 5 ["_law_till", "_law_prices", "_law_asked"] sp_answers_of)
    (F_are_states : Fn X.prog X.w X.K X.mg X.base CX0 "_law_are_states" 3 ["_law_found", "_law_count", "_law_kinds"] sp_are_states)
    (F_whole : Fn X.prog X.w X.K X.mg X.base CX0 "_law_whole" 1 ["_law_found"] sp_whole)
    {vs : List V} {H : Hp} {Q : VK} {E : XK} (h : sp_law X.K vs H Q E) :
    ∃ t, PSs X (defBody s_law) t ∧ t { nx := fun _ H' => Q .non H', rt := Q } (start ["_law_script", "_law_head", "_law_kinds", "_law_till", "_law_prices", "_law_asked", "_law_found", "_law_told", "_law_shelf", "_law_owed", "_law_ordered", "_law_sold", "_law_k", "_law_deed", "_law_kind"] vs) H := by
  obtain ⟨a, ns, rfl, hS, hlen, k⟩ := h
  have hu := hu_of hr
  refine ⟨_, (pss_cons (ps_setD D 1 (pe_fnD D 0 F_at (hr.mono (by decide)) pass0 (pa_cons (pvF D 0) (pa_cons pe_int pa_nil)))) (pss_cons (ps_setD D 2 (pe_menu (pa_cons (pe_op op_addF pe_int (pe_op op_modF (pvF D 1) pe_int)) (pa_cons pe_int pa_nil)) (pe_callTyD D 6 call_int1 B.int bt_int (pa_cons (pe_cmpR op_eq (pe_op op_modF (pe_op op_fdivF (pvF D 1) pe_int) pe_int) pe_int (nomark _)) pa_nil)))) (pss_cons (ps_setD D 3 (pe_op op_modF (pe_op op_fdivF (pvF D 1) pe_int) pe_int)) (pss_cut (ps_if (pt_cmpF op_eq (pe_op op_modF (pe_fnD D 0 F_at (hr.mono (by decide)) pass0 (pa_cons (pvF D 0) (pa_cons pe_int pa_nil))) pe_int) pe_int (nomark _)) (pss_one (ps_setD D 3 pe_int)) pss_nil) (pss_cut (ps_if (pt_cmpF op_eq (pe_op op_modF (pe_fnD D 0 F_at (hr.mono (by decide)) pass0 (pa_cons (pvF D 0) (pa_cons pe_int pa_nil))) pe_int) pe_int (nomark _)) (pss_one (ps_setD D 3 (pe_op op_powF pe_int pe_int))) pss_nil) (pss_cons (ps_setD D 4 (pe_fnD D 1 F_prices_of (hr.mono (by decide)) pass0 (pa_cons (pe_fnD D 0 F_at (hr.mono (by decide)) pass0 (pa_cons (pvF D 0) (pa_cons pe_int pa_nil))) (pa_cons (pvF D 2) pa_nil)))) (pss_cons (ps_setD D 5 (pe_fnD D 2 F_deeds (hr.mono (by decide)) pass0 (pa_cons (pe_slice sl_list (pvF D 0) (po_some pe_int) po_none) (pa_cons (pvF D 2) pa_nil)))) (pss_cut (ps_if (pt_cmpF op_eq (pe_op op_modF (pe_op op_fdivF (pe_fnD D 0 F_at (hr.mono (by decide)) pass0 (pa_cons (pvF D 0) (pa_cons pe_int pa_nil))) pe_int) pe_int) pe_int (nomark _)) (pss_one (ps_setD D 5 (pe_op op_cat (pe_fnD D 11 F_first_deeds (hr.mono (by decide)) pass0 (pa_cons (pvF D 2) pa_nil)) (pvF D 5)))) pss_nil) (pss_cons (ps_setD D 6 (pe_fnD D 3 F_states (hr.mono (by decide)) pass0 (pa_cons (pvF D 3) (pa_cons (pe_callTyD D 7 call_listF B.list bt_list (pa_cons (pvF D 4) pa_nil)) (pa_cons (pe_callTyD D 7 call_listF B.list bt_list (pa_cons (pvF D 5) pa_nil)) pa_nil))))) (pss_cons (ps_setD D 7 (pe_fnD D 4 F_answers_of (hr.mono (by decide)) pass0 (pa_cons (pvF D 3) (pa_cons (pvF D 4) (pa_cons (pvF D 5) pa_nil))))) (pss_cons (ps_if (pt_not (pt_valF (pe_fnD D 8 F_are_states (hr.mono (by decide)) pass0 (pa_cons (pvF D 6) (pa_cons (pe_callBD D 9 call_lenF B.len bt_len (pa_cons (pvF D 5) pa_nil)) (pa_cons (pvF D 2) pa_nil)))))) (pss_one (ps_ret pe_bl)) pss_nil) (pss_cons (ps_setD D 8 (pe_op op_rep (pe_lst (pa_cons pe_int pa_nil)) (pvF D 2))) (pss_cons (ps_setD D 9 (pe_op op_rep (pe_lst (pa_cons pe_int pa_nil)) (pvF D 2))) (pss_cons (ps_setD D 10 pe_dnewK) (pss_cons (ps_setD D 11 pe_dnewK) (pss_cons (ps_for hp hc (pi_range1 (D.gl 5) B.range (pa_cons (pe_callBD D 9 call_lenF B.len bt_len (pa_cons (pvF D 5) pa_nil)) pa_nil)) (pg_nameD D 12) (pss_cons (ps_setD D 13 (pe_ixF (pvF D 5) (pvF D 12))) (pss_cut (ps_if (pt_valF (pe_fnD D 10 F_whole (hr.mono (by decide)) pass0 (pa_cons (pe_ixF (pvF D 7) (pvF D 12)) pa_nil))) (pss_one (ps_if (pt_cmpF op_eq (pe_ixF (pvF D 13) pe_int) pe_str (nomark _)) (pss_cons (ps_dpF hu (pvF D 10) (pe_ixF (pvF D 7) (pvF D 12)) (pe_ixF (pvF D 13) pe_int)) (pss_one (ps_lpF (pvF D 9) (pe_ixF (pvF D 13) pe_int) (pe_op op_addF (pe_ixF (pvF D 9) (pe_ixF (pvF D 13) pe_int)) (pe_ixF (pvF D 13) pe_int))))) (pss_one (ps_if (pt_cmpF op_eq (pe_ixF (pvF D 13) pe_int) pe_str (nomark _)) (pss_cons (ps_setD D 14 (pe_dgF hu (pvF D 10) (pe_ixF (pvF D 13) pe_int))) (pss_cons (ps_lpF (pvF D 8) (pvF D 14) (pe_op op_addF (pe_ixF (pvF D 8) (pvF D 14)) (pe_ixF (pvF D 7) (pvF D 12)))) (pss_one (ps_lpF (pvF D 9) (pvF D 14) (pe_op op_subF (pe_ixF (pvF D 9) (pvF D 14)) (pe_ixF (pvF D 7) (pvF D 12))))))) (pss_one (ps_if (pt_cmpF op_eq (pe_ixF (pvF D 13) pe_int) pe_str (nomark _)) (pss_one (ps_lpF (pvF D 9) (pe_dgF hu (pvF D 10) (pe_ixF (pvF D 13) pe_int)) (pe_op op_subF (pe_ixF (pvF D 9) (pe_dgF hu (pvF D 10) (pe_ixF (pvF D 13) pe_int))) (pe_ixF (pvF D 7) (pvF D 12))))) (pss_one (ps_if (pt_cmpF op_eq (pe_ixF (pvF D 13) pe_int) pe_str (nomark _)) (pss_cons (ps_dpF hu (pvF D 11) (pe_ixF (pvF D 7) (pvF D 12)) (pe_ixF (pvF D 13) pe_int)) (pss_one (ps_lpF (pvF D 8) (pe_ixF (pvF D 13) pe_int) (pe_op op_subF (pe_ixF (pvF D 8) (pe_ixF (pvF D 13) pe_int)) (pe_ixF (pvF D 13) pe_int))))) (pss_one (ps_lpF (pvF D 8) (pe_dgF hu (pvF D 11) (pe_ixF (pvF D 13) pe_int)) (pe_op op_addF (pe_ixF (pvF D 8) (pe_dgF hu (pvF D 11) (pe_ixF (pvF D 13) pe_int))) (pe_ixF (pvF D 13) pe_int)))))))))))) pss_nil) (pss_one (ps_if (PW.pt (pw_or (pt_cmpF (op_neS hr) (pe_ixF (pe_ixF (pvF D 6) (pvF D 12)) pe_int) (pvF D 8) (nomark _)) (pw_or1 (pt_cmpF (op_neS hr) (pe_ixF (pe_ixF (pvF D 6) (pvF D 12)) pe_int) (pvF D 9) (nomark _))))) (pss_one (ps_ret pe_bl)) pss_nil))))) (pss_one (ps_ret pe_bl)))))))))))))))))), ?_⟩
  show (_ : TS) _ ([some (.ref a), none, none, none, none, none, none, none, none, none, none, none, none, none, none] : St) H
  walk_at "ev"
  refine ⟨a, 0, ns, rfl, hS, by decide, ?_⟩
  generalize ns.getD (0 : Int).toNat 0 = head
  walk_at "ev"
  refine ⟨by split <;> omega, menu_ex 2 (fun j => 1 ≤ j ∧ j ≤ 10) rfl (by split <;> omega) (by split <;> omega) (by simp; omega) fun kinds hkn => ?_⟩
  obtain ⟨n, rfl⟩ : ∃ n : Nat, kinds = n := ⟨kinds.toNat, by omega⟩
  refine ⟨fun σ' H' => ∃ t : Int, σ' = [some (.ref a), some (.int head), some (.int n), some (.int t), none, none, none, none, none, none, none, none, none, none, none] ∧ (0 ≤ t ∧ t ≤ 1000000000000000000000000000000000000000000000000000000000000) ∧ H = H', ?_, ?_⟩
  · walk_at "ev"
    refine ⟨a, 1, ns, rfl, hS, by decide, ?_⟩
    walk_at "ev"
    split
    · simp
    · omega
  rintro _ _ ⟨t0, rfl, ht0, rfl⟩
  refine ⟨fun σ' H' => ∃ t : Int, σ' = [some (.ref a), some (.int head), some (.int n), some (.int t), none, none, none, none, none, none, none, none, none, none, none] ∧ (0 ≤ t ∧ t ≤ 1000000000000000000000000000000000000000000000000000000000000) ∧ H = H', ?_, ?_⟩
  · walk_at "ev"
    refine ⟨a, 1, ns, rfl, hS, by decide, ?_⟩
    walk_at "ev"
    split
    · decide
    · omega
  rintro _ _ ⟨t, rfl, ht, rfl⟩
  walk_at "ev"
  refine ⟨a, 1, ns, rfl, hS, by decide, ?_⟩
  generalize ns.getD (1 : Int).toNat 0 = cell
  walk_at "ev"
  refine ⟨cell, n, rfl, by omega, fun H1 lp ps hpl hps s1 lp0 lp1 => ?_⟩
  unfold tSl tPart tNoPart rSlL
  walk_at "ev"
  refine ⟨_, SqL.same s1 hS, fun p0 hp0 => ?_⟩
  obtain ⟨cells, ec, hcl⟩ : ∃ cells : List Int, cutV (ns.map V.int) (some 2) none = cells.map V.int ∧ cells.length ≤ 63 := by
    refine ⟨_, by unfold cutV; rw [← List.map_drop, ← List.map_take], ?_⟩
    rw [List.length_take, List.length_drop]
    omega
  rw [ec]
  have s2 : Same H1 (upd H1 p0 (.lst (cells.map V.int))) := upd_self hp0
  have dp : upd H1 p0 (.lst (cells.map V.int)) p0 = some (.lst (cells.map V.int)) := upd_same
  generalize upd H1 p0 (.lst (cells.map V.int)) = H2 at s2 dp ⊢
  refine ⟨p0, cells, n, rfl, dp, hcl, by omega, by omega, fun H3 e ds U hdl => ?_⟩
  have U := U.down s2
  walk_at "ev"
  refine ⟨fun σ' H' => ∃ (e : Addr) (ds : List Deed), σ' = [some (.ref a), some (.int head), some (.int n), some (.int t), some (.ref lp), some (.ref e), none, none, none, none, none, none, none, none, none] ∧ Under H1 H' e ds ∧ ds.length ≤ 71, ?_, ?_⟩
  · walk_at "ev"
    refine ⟨a, 1, ns, rfl, SqL.same (s1.trans U.same) hS, by decide, ?_⟩
    walk_at "ev"
    split
    · refine ⟨n, rfl, by omega, fun H4 f fs W hfl => ?_⟩
      walk_at "ev"
      obtain ⟨xs, w1, w2⟩ := W.ex
      obtain ⟨zs, u1, u2⟩ := U.ex
      have l1 := Paired.length w2
      have l2 := Paired.length u2
      exact ⟨xs, w1, zs, W.same _ _ u1, small_sz (by omega), fun p hp => ⟨fs ++ ds, ⟨Same.upd (U.same.trans W.same) hp, (U.same.trans W.same).free hp, ⟨xs ++ zs, upd_same, DeedsAt.same (upd_self hp) (DeedsAt.app w2 (DeedsAt.same W.same u2))⟩, fun d hd => (List.mem_append.mp hd).elim (W.ok d) (U.ok d)⟩, by rw [List.length_append]; omega⟩⟩
    · exact ⟨ds, U, by omega⟩
  rintro _ H3 ⟨e, ds, rfl, U, hdl⟩
  walk_at "ev"
  obtain ⟨rs, u1, u2⟩ := U.ex
  have q1 := U.same _ _ lp1
  refine ⟨_, sq_lst q1, fun l hl => ?_⟩
  have s4 : Same H3 (upd H3 l (.lst (ps.map V.int))) := upd_self hl
  have d4 : upd H3 l (.lst (ps.map V.int)) l = some (.lst (ps.map V.int)) := upd_same
  generalize upd H3 l (.lst (ps.map V.int)) = H4 at s4 d4 ⊢
  refine ⟨_, sq_lst (s4 _ _ u1), fun m hm => ?_⟩
  have s5 : Same H4 (upd H4 m (.lst rs)) := upd_self hm
  have d5 : upd H4 m (.lst rs) m = some (.lst rs) := upd_same
  generalize upd H4 m (.lst rs) = H5 at s5 d5 ⊢
  have s35 := s4.trans s5
  have hsm : Sm t := Sm.le sm_ten60 (by omega) (by omega)
  have hrl : rs.length = ds.length := Paired.length u2
  subst hpl
  refine ⟨t, l, m, ps, rs, ds, rfl, ⟨by omega, hsm, s5 _ _ d4, by omega, by omega, hps, d5, u2.same s35, U.ok, hdl⟩, fun H6 f es s6 f0 hf hst => ?_⟩
  have s36 := s35.trans s6
  walk_at "ev"
  refine ⟨t, lp, e, ps, rs, ds, rfl, ⟨by omega, hsm, s36 _ _ q1, by omega, by omega, hps, s36 _ _ u1, u2.same s36, U.ok, hdl⟩, fun H7 tl s7 tl0 htl => ?_⟩
  have s37 := (s36).trans s7
  have hst7 := hst.kept (Kept.same' (o := []) s7)
  have hnn := Nn.new ps.length ht.1
  have hps0 : ∀ p ∈ ps, 0 ≤ p := fun p hp => (hps p hp).1
  simp_arith [sq_lst (s37 _ _ u1)]
  refine ⟨f, rs.length, ps.length, es, _, rfl, s7 _ _ hf, hst7, by rw [runX_length]; exact hrl.symm, fun x hx => ?_, ?_⟩
  · have y := Nn.run hps0 hnn x hx
    exact ⟨y.till, y.slen, y.ow, y.shelf, y.owed⟩
  walk_at "ev"
  have ez : (List.replicate (ps.length : Int).toNat [V.int 0]).flatten = (List.replicate ps.length (0 : Int)).map V.int := by simp
  intro g1 hg1
  refine ⟨_, upd_same, by omega, by omega, small_sz (by rw [List.length_singleton]; omega), fun sh hsh => ?_⟩
  rw [ez]
  have sg1 : Same H7 (upd H7 g1 (.lst [.int 0])) := upd_self hg1
  generalize upd H7 g1 (.lst [.int 0]) = G1 at sg1 hsh ⊢
  have sg2 : Same G1 (upd G1 sh (.lst ((List.replicate ps.length (0 : Int)).map V.int))) := upd_self hsh
  have c1 : upd G1 sh (.lst ((List.replicate ps.length (0 : Int)).map V.int)) sh = _ := upd_same
  generalize upd G1 sh (.lst ((List.replicate ps.length (0 : Int)).map V.int)) = G2 at sg2 c1 ⊢
  try walk_at "ev"
  intro g2 hg2
  refine ⟨_, upd_same, by omega, by omega, small_sz (by rw [List.length_singleton]; omega), fun ow how => ?_⟩
  rw [ez]
  have sg3 : Same G2 (upd G2 g2 (.lst [.int 0])) := upd_self hg2
  generalize upd G2 g2 (.lst [.int 0]) = G3 at sg3 how ⊢
  have sg4 : Same G3 (upd G3 ow (.lst ((List.replicate ps.length (0 : Int)).map V.int))) := upd_self how
  have c2 : upd G3 ow (.lst ((List.replicate ps.length (0 : Int)).map V.int)) ow = _ := upd_same
  generalize upd G3 ow (.lst ((List.replicate ps.length (0 : Int)).map V.int)) = G4 at sg4 c2 ⊢
  try simp_arith [ev_dnew]
  intro od hod
  have sg5 : Same G4 (upd G4 od (.dK [])) := upd_self hod
  have c3 : upd G4 od (.dK []) od = _ := upd_same
  generalize upd G4 od (.dK []) = G5 at sg5 c3 ⊢
  intro sl hsl
  have sg6 : Same G5 (upd G5 sl (.dK [])) := upd_self hsl
  have c4 : upd G5 sl (.dK []) sl = _ := upd_same
  generalize upd G5 sl (.dK []) = G6 at sg6 c4 ⊢
  have z1 : Same H7 G6 := ((((sg1.trans sg2).trans sg3).trans sg4).trans sg5).trans sg6
  have w1 := sg6 _ _ (sg5 _ _ (sg4 _ _ (sg3 _ _ c1)))
  have w2 := sg6 _ _ (sg5 _ _ c2)
  have w3 := sg6 _ _ c3
  have C0 : Cnt H7 G6 sh ow od sl (afterX ps (newX t ps.length) (ds.take 0)).m.shelf (afterX ps (newX t ps.length) (ds.take 0)).ow ((afterX ps (newX t ps.length) (ds.take 0)).m.orders.map (·.1)) ((afterX ps (newX t ps.length) (ds.take 0)).m.sales.map (·.1)) :=
    ⟨w1, w2, ⟨_, w3, NumD.nil⟩, ⟨_, c4, NumD.nil⟩, z1, ⟨sg1.free hsh, sg1.free (sg2.free (sg3.free how)), sg1.free (sg2.free (sg3.free (sg4.free hod))), sg1.free (sg2.free (sg3.free (sg4.free (sg5.free hsl))))⟩, ne_of_none (sg3 _ _ c1) how, ne_of_none c3 hsl⟩
  have u7 := u2.same s37
  simp_arith [sq_lst (z1 _ _ (s37 _ _ u1))]
  refine ⟨by omega, by omega, for_range (fun i σ' H' => ∃ v1 v2 v3, σ' = [some (.ref a), some (.int head), some (.int ps.length), some (.int t), some (.ref lp), some (.ref e), some (.ref f), some (.ref tl), some (.ref sh), some (.ref ow), some (.ref od), some (.ref sl), v1, v2, v3] ∧ Cnt H7 H' sh ow od sl (afterX ps (newX t ps.length) (ds.take i)).m.shelf (afterX ps (newX t ps.length) (ds.take i)).ow ((afterX ps (newX t ps.length) (ds.take i)).m.orders.map (·.1)) ((afterX ps (newX t ps.length) (ds.take i)).m.sales.map (·.1)))
    ⟨none, none, none, rfl, C0⟩ (fun i σ' H' hi h => ?_) (fun σ' H' h => ?_)⟩
  · obtain ⟨v1, v2, v3, rfl, C⟩ := h
    have hx1 : rs[i]? = some rs[i] := List.getElem?_eq_getElem (by omega)
    obtain ⟨ad, dd, hdr, hdd, had⟩ := DeedsAt.at u7 hx1
    rw [hdr] at hx1
    have hmem := List.mem_of_getElem? hdd
    have e1 := C.same _ _ (s37 _ _ u1)
    have e2 := C.same _ _ htl
    have e3 := C.same _ _ (s7 _ _ hf)
    have e4 := C.same _ _ had
    have a1 : atI rs (i : Int) = some (.ref ad) := atI_nat hx1
    have a2 := told_at (ps := ps) (m := new t ps.length) hdd
    have W := Wx.new (t := t) (ps := ps) fun p hp => (hps p hp).2
    have Ni : Nn ps.length (afterX ps (newX t ps.length) (ds.take i)) := Nn.after hps0 hnn
    have am := afterX_m ps (ds.take i) (newX t ps.length)
    have an : afterX ps (newX t ps.length) (ds.take (i + 1)) = stepX ps (afterX ps (newX t ps.length) (ds.take i)) dd := by rw [take_at hdd, afterX_append]; rfl
    rw [show (newX t ps.length).m = new t ps.length from rfl] at am
    rw [← am] at a2
    have hrun := runX_get (ps := ps) (x := newX t ps.length) hdd
    have hl71 : (afterX ps (newX t ps.length) (ds.take i)).m.orders.length ≤ 71 ∧ (afterX ps (newX t ps.length) (ds.take i)).m.sales.length ≤ 71 := by
      have h := after_lens ps (ds.take i) (new t ps.length)
      rw [← am] at h
      have h2 : (ds.take i).length ≤ 71 := by rw [List.length_take]; omega
      have z1 : (new t ps.length).orders.length = 0 := rfl
      have z2 : (new t ps.length).sales.length = 0 := rfl
      omega
    generalize afterX ps (newX t ps.length) (ds.take i) = x at C a2 Ni an hrun am hl71
    simp_arith [Int.zero_add, sq_lst e1, a1]
    refine ⟨fun σ' H' => ∃ v, σ' = [some (.ref a), some (.int head), some (.int ps.length), some (.int t), some (.ref lp), some (.ref e), some (.ref f), some (.ref tl), some (.ref sh), some (.ref ow), some (.ref od), some (.ref sl), some (.int i), some (.ref ad), v] ∧ Cnt H7 H' sh ow od sl (stepX ps x dd).m.shelf (stepX ps x dd).ow ((stepX ps x dd).m.orders.map (·.1)) ((stepX ps x dd).m.sales.map (·.1)), ?_, ?_⟩
    · simp_arith [sq_lst e2, a2]
      cases hq : refusal x.m dd with
      | some w =>
        have hst1 : (Sb.step ps x.m dd).1.v = .str w.str := by unfold Sb.step; rw [hq]; rfl
        have hst2 : stepX ps x dd = x := by unfold stepX; rw [hq]
        rw [hst1]
        refine ⟨.str w.str, rfl, rfl, ?_⟩
        rw [show isI (V.str w.str) = false from rfl, hst2]
        walk_at "ev"
        exact C
      | none =>
        have hst1 : (Sb.step ps x.m dd).1.v = .int (did ps x.m dd).1 := by unfold Sb.step; rw [hq]; rfl
        have hst2 : stepX ps x dd = doneX ps x dd := by unfold stepX; rw [hq]
        rw [hst1] at a2 ⊢
        refine ⟨.int (did ps x.m dd).1, rfl, rfl, ?_⟩
        rw [show isI (V.int (did ps x.m dd).1) = true from rfl, hst2]
        cases dd with
        | order kk p q =>
          simp only [refusal] at hq
          split at hq
          · cases hq
          · rename_i v ev
            obtain ⟨h0, hlt, _⟩ := at?_some ev
            rw [Ni.slen] at hlt
            have lx : (x.m.orders.map (·.1)).length = x.m.orders.length := List.length_map ..
            obtain ⟨kvs, k1, k2, C1⟩ := C.addOrder kk
            rw [lx] at C1
            simp_arith [sq_tup e4, Deed.tup, atI0, atI1, atI2, atI3, sq_lst e2, a2, k1, keyOf, HO.dK.injEq, did]
            refine ⟨small1000 (by rw [k2, lx]; omega), ?_⟩
            have f4 := C1.same _ _ had
            generalize upd H' od (.dK (putK kvs (.inl (x.m.orders.length : Int)) (.int kk))) = H2 at C1 f4 ⊢
            have gk := at_get (l := x.ow) (k := kk) h0 (by rw [Ni.ow]; exact hlt)
            simp_arith [sq_tup f4, Deed.tup, atI0, atI1, atI2, atI3, sq_lst C1.owed, gk]
            refine ⟨_, C1.owed, _, ixN_nat h0 (by rw [List.length_map, Ni.ow]; exact hlt), ?_⟩
            rw [set_int, addAt_eq]
            have C2 := C1.setOwed (addAt x.ow kk p)
            simp only [doneX, did, owedAfter, List.map_append, List.map_cons, List.map_nil]
            exact C2
        | came o p b =>
          simp only [refusal] at hq
          split at hq
          · cases hq
          · rename_i kd owd pr eo
            obtain ⟨e5, _⟩ := openOrder_some eo
            obtain ⟨g1, g2⟩ := getD_at (z := (0, 0, 0)) e5
            obtain ⟨q1, q2, q3⟩ := Ni.orders _ g2
            obtain ⟨_, _, e6⟩ := at?_some e5
            obtain ⟨kvs, k1, k2⟩ := C.ordered
            have kv := k2.get (at?_map (·.1) e5)
            have dd1 : (did ps x.m (.came o p b)).1 = p - b := by simp only [did, g1]
            rw [dd1] at a2
            have gs := at_get (l := x.m.shelf) (k := kd) q1 (by rw [Ni.slen]; exact q2)
            have gk := at_get (l := x.ow) (k := kd) q1 (by rw [Ni.ow]; exact q2)
            simp_arith [sq_tup e4, Deed.tup, atI0, atI1, atI2, atI3, ne_came_order, k1, keyOf, HO.dK.injEq, kv, sq_lst e2, a2, sq_lst C.shelf, gs]
            refine ⟨_, C.shelf, _, ixN_nat q1 (by rw [List.length_map, Ni.slen]; exact q2), ?_⟩
            rw [set_int, addAt_eq]
            have C1 := C.setShelf (addAt x.m.shelf kd (p - b))
            have f2 := C1.same _ _ htl
            generalize upd H' sh (.lst ((addAt x.m.shelf kd (p - b)).map V.int)) = H2 at C1 f2 ⊢
            simp_arith [sq_lst C1.owed, gk, sq_lst f2, a2]
            refine ⟨_, C1.owed, _, ixN_nat q1 (by rw [List.length_map, Ni.ow]; exact q2), ?_⟩
            rw [set_int, addAt_sub]
            have C2 := C1.setOwed (addAt x.ow kd (-(p - b)))
            simp only [doneX, did, owedAfter, g1]
            rw [map_set_same (y := (kd, owd - (p - b), pr)) (·.1) e6 rfl]
            exact C2
        | giveUp o =>
          simp only [refusal] at hq
          split at hq
          · cases hq
          · rename_i r0 eo
            obtain ⟨kd, owd, pr⟩ := r0
            obtain ⟨e5, _⟩ := openOrder_some eo
            obtain ⟨g1, g2⟩ := getD_at (z := (0, 0, 0)) e5
            obtain ⟨q1, q2, q3⟩ := Ni.orders _ g2
            obtain ⟨_, _, e6⟩ := at?_some e5
            obtain ⟨kvs, k1, k2⟩ := C.ordered
            have kv := k2.get (at?_map (·.1) e5)
            have dd1 : (did ps x.m (.giveUp o)).1 = owd := by simp only [did, g1]
            rw [dd1] at a2
            have gk := at_get (l := x.ow) (k := kd) q1 (by rw [Ni.ow]; exact q2)
            simp_arith [sq_tup e4, Deed.tup, atI0, atI1, ne_give_order, ne_give_came, k1, keyOf, HO.dK.injEq, kv, sq_lst e2, a2, sq_lst C.owed, gk]
            refine ⟨_, C.owed, _, ixN_nat q1 (by rw [List.length_map, Ni.ow]; exact q2), ?_⟩
            rw [set_int, addAt_sub]
            have C2 := C.setOwed (addAt x.ow kd (-owd))
            simp only [doneX, did, owedAfter, g1]
            rw [map_set_same (y := (kd, 0, pr)) (·.1) e6 rfl]
            exact C2
        | sell kk p =>
          simp only [refusal] at hq
          split at hq
          · cases hq
          · rename_i v ev
            obtain ⟨h0, hlt, _⟩ := at?_some ev
            rw [Ni.slen] at hlt
            have lx : (x.m.sales.map (·.1)).length = x.m.sales.length := List.length_map ..
            obtain ⟨kvs, k1, k2, C1⟩ := C.addSale kk
            rw [lx] at C1
            simp_arith [sq_tup e4, Deed.tup, atI0, atI1, atI2, atI3, ne_sell_order, ne_sell_came, ne_sell_give, sq_lst e2, a2, k1, keyOf, HO.dK.injEq, did]
            refine ⟨small1000 (by rw [k2, lx]; omega), ?_⟩
            have f4 := C1.same _ _ had
            generalize upd H' sl (.dK (putK kvs (.inl (x.m.sales.length : Int)) (.int kk))) = H2 at C1 f4 ⊢
            have gk := at_get (l := x.m.shelf) (k := kk) h0 (by rw [Ni.slen]; exact hlt)
            simp_arith [sq_tup f4, Deed.tup, atI0, atI1, atI2, atI3, sq_lst C1.shelf, gk]
            refine ⟨_, C1.shelf, _, ixN_nat h0 (by rw [List.length_map, Ni.slen]; exact hlt), ?_⟩
            rw [set_int, addAt_sub]
            have C2 := C1.setShelf (addAt x.m.shelf kk (-p))
            simp only [doneX, did, owedAfter, List.map_append, List.map_cons, List.map_nil]
            exact C2
        | back s p =>
          simp only [refusal] at hq
          split at hq
          · cases hq
          · rename_i kd ou pr e5
            obtain ⟨g1, g2⟩ := getD_at (z := (0, 0, 0)) e5
            obtain ⟨q1, q2, q3, q4⟩ := Ni.sales _ g2
            obtain ⟨_, _, e6⟩ := at?_some e5
            obtain ⟨kvs, k1, k2⟩ := C.sold
            have kv := k2.get (at?_map (·.1) e5)
            have gs := at_get (l := x.m.shelf) (k := kd) q1 (by rw [Ni.slen]; exact q2)
            simp_arith [sq_tup e4, Deed.tup, atI0, atI1, atI2, ne_back_order, ne_back_came, ne_back_give, ne_back_sell, k1, keyOf, HO.dK.injEq, kv, sq_lst C.shelf, gs]
            refine ⟨_, C.shelf, _, ixN_nat q1 (by rw [List.length_map, Ni.slen]; exact q2), ?_⟩
            rw [set_int, addAt_eq]
            have C2 := C.setShelf (addAt x.m.shelf kd p)
            simp only [doneX, did, owedAfter, g1]
            rw [map_set_same (y := (kd, ou - p, pr)) (·.1) e6 rfl]
            exact C2
    rintro _ H2 ⟨v, rfl, C2⟩
    have b3 := C2.same _ _ (s7 _ _ hf)
    obtain ⟨r, er, p, q1, q2, e5, h1, h2, h3, _⟩ := Paired.at hst7 hrun
    subst e5
    have a3 : atI es (i : Int) = some (.ref p) := atI_nat er
    have h1 := C2.same _ _ h1
    have h2 := C2.same _ _ h2
    have h3 := C2.same _ _ h3
    simp_arith [sq_lst b3, a3, sq_tup h1, atI1, atI2]
    refine ⟨_, has_ints h2, has_ints C2.shelf, fine_lst _ _, ?_⟩
    simp_arith [sq_lst b3, a3, sq_tup h1, atI1, atI2]
    refine ⟨_, has_ints h3, has_ints C2.owed, fine_lst _ _, ?_⟩
    walk_at "ev"
    rw [an]
    exact C2
  · obtain ⟨v1, v2, v3, rfl, C⟩ := h
    walk_at "ev"
    exact k H'
end T2

set_option maxHeartbeats 4000000
namespace T2
open PySem L2 Sb
theorem us1 {us : List Value} (h : us.length = 1) : ∃ a, us = [a] := List.length_eq_one_iff.mp h
theorem us2 {us : List Value} (h : us.length = 2) : ∃ a b, us = [a, b] := by
  cases us with
  | nil => cases h
  | cons a r => obtain ⟨b, rfl⟩ := us1 (us := r) (by simpa using h); exact ⟨a, b, rfl⟩
theorem us3 {us : List Value} (h : us.length = 3) : ∃ a b c, us = [a, b, c] := by
  cases us with
  | nil => cases h
  | cons a r => obtain ⟨b, c, rfl⟩ := us2 (us := r) (by simpa using h); exact ⟨a, b, c, rfl⟩
theorem us4 {us : List Value} (h : us.length = 4) : ∃ a b c d, us = [a, b, c, d] := by
  cases us with
  | nil => cases h
  | cons a r => obtain ⟨b, c, d, rfl⟩ := us3 (us := r) (by simpa using h); exact ⟨a, b, c, d, rfl⟩
theorem us5 {us : List Value} (h : us.length = 5) : ∃ a b c d e, us = [a, b, c, d, e] := by
  cases us with
  | nil => cases h
  | cons a r => obtain ⟨b, c, d, e, rfl⟩ := us4 (us := r) (by simpa using h); exact ⟨a, b, c, d, e, rfl⟩
theorem FnOk.spEx {P : Program} {w : World} {K : PySem.W.Frag} {mg : Str → Option Value} {base : Heap} {CX : CXT} {k : Nat} {f : Addr} {fd : FuncData} {ps : List Str} {sp : Nat → Sp} (h : ∀ n, FnOk P w K mg base CX k f fd ps (sp n)) : FnOk P w K mg base CX k f fd ps (spEx sp) :=
  ⟨fun vs H Q E ⟨n, q⟩ => (h n).len vs H Q E q, fun A outer s H args us vs Q E hr he hb hv ⟨n, q⟩ => (h n).run A outer s H args us vs Q E hr he hb hv q⟩
section
variable {P : Program} {w : World} {K : PySem.W.Frag} {mg : Str → Option Value} {base : Heap}
theorem ok_check_pieces {f : Addr} {fd : FuncData} {c : Cs} (F : Fun K "check_pieces" "check_pieces" s_check_pieces f fd) (T : Txt K mg c) : FnOk P w K mg base (CXK P w) 1 f fd ["out", "pieces", "bad"] (sp_check_pieces c) :=
  F.okK sc_check_pieces (fun vs H Q E h => by obtain ⟨_, _, _, e, _⟩ := h; rw [e]; rfl) (fun cdv A outer s H vs Q E hr h => rd_check_pieces (D := dx_check_pieces rfl rfl fun _ => rfl) (hc := rfl) (hR := raisesK) (T := T) (h := h))
theorem ok_Order {f : Addr} {fd : FuncData} {c : Cs} (F : Fun K "__init__" "Order.__init__" s_Order___init__ f fd) (T : Txt K mg c) : FnOk P w K mg base CX0 1 f fd ["self", "kind", "pieces", "price"] (sp_Order c) :=
  F.ok sc_Order___init__ (fun vs H Q E h => by obtain ⟨_, _, _, _, _, e, _⟩ := h; rw [e]; rfl) (fun cdv A outer s H vs Q E hr h => rd_Order (D := dx_Order___init__ rfl rfl fun _ => rfl) (T := T) (h := h))
theorem ok_Sale {f : Addr} {fd : FuncData} {c : Cs} (F : Fun K "__init__" "Sale.__init__" s_Sale___init__ f fd) (T : Txt K mg c) : FnOk P w K mg base CX0 1 f fd ["self", "kind", "pieces"] (sp_Sale c) :=
  F.ok sc_Sale___init__ (fun vs H Q E h => by obtain ⟨_, _, _, _, e, _⟩ := h; rw [e]; rfl) (fun cdv A outer s H vs Q E hr h => rd_Sale (D := dx_Sale___init__ rfl rfl fun _ => rfl) (T := T) (h := h))
theorem ok_check_kind {f : Addr} {fd : FuncData} {c : Cs} (F : Fun K "check_kind" "Shop.check_kind" s_Shop_check_kind f fd) (B : Bl mg) (T : Txt K mg c) : FnOk P w K mg base (CXK P w) 1 f fd ["self", "kind"] (sp_check_kind c) :=
  F.okK sc_Shop_check_kind (fun vs H Q E h => by obtain ⟨_, _, _, _, e, _⟩ := h; rw [e]; rfl) (fun cdv A outer s H vs Q E hr h => rd_check_kind (D := dx_Shop_check_kind rfl rfl fun _ => rfl) (hc := rfl) (hR := raisesK) (B := B) (T := T) (h := h))
theorem ok_find_order {f : Addr} {fd : FuncData} {c : Cs} (F : Fun K "find_order" "Shop.find_order" s_Shop_find_order f fd) (B : Bl mg) (T : Txt K mg c) : FnOk P w K mg base (CXK P w) 1 f fd ["self", "order"] (sp_find_order c) :=
  F.okK sc_Shop_find_order (fun vs H Q E h => by obtain ⟨_, _, _, _, e, _⟩ := h; rw [e]; rfl) (fun cdv A outer s H vs Q E hr h => rd_find_order (D := dx_Shop_find_order rfl rfl fun _ => rfl) (hc := rfl) (hR := raisesK) (B := B) (T := T) (h := h))
theorem ok_find_sale {f : Addr} {fd : FuncData} {c : Cs} (F : Fun K "find_sale" "Shop.find_sale" s_Shop_find_sale f fd) (B : Bl mg) (T : Txt K mg c) : FnOk P w K mg base (CXK P w) 1 f fd ["self", "sale"] (sp_find_sale c) :=
  F.okK sc_Shop_find_sale (fun vs H Q E h => by obtain ⟨_, _, _, _, e, _⟩ := h; rw [e]; rfl) (fun cdv A outer s H vs Q E hr h => rd_find_sale (D := dx_Shop_find_sale rfl rfl fun _ => rfl) (hc := rfl) (hR := raisesK) (B := B) (T := T) (h := h))
theorem ok_check_till {f : Addr} {fd : FuncData} {c : Cs} (F : Fun K "check_till" "Shop.check_till" s_Shop_check_till f fd) (T : Txt K mg c) : FnOk P w K mg base (CXK P w) 1 f fd ["self", "coins"] (sp_check_till c) :=
  F.okK sc_Shop_check_till (fun vs H Q E h => by obtain ⟨_, _, _, _, e, _⟩ := h; rw [e]; rfl) (fun cdv A outer s H vs Q E hr h => rd_check_till (D := dx_Shop_check_till rfl rfl fun _ => rfl) (hc := rfl) (hR := raisesK) (T := T) (h := h))
theorem ok_strike_off {f : Addr} {fd : FuncData} {c : Cs} (F : Fun K "strike_off" "Shop.strike_off" s_Shop_strike_off f fd) (T : Txt K mg c) : FnOk P w K mg base CX0 1 f fd ["self", "ordered", "pieces"] (sp_strike_off c) :=
  F.ok sc_Shop_strike_off (fun vs H Q E h => by obtain ⟨_, _, _, _, _, _, _, e, _⟩ := h; rw [e]; rfl) (fun cdv A outer s H vs Q E hr h => rd_strike_off (D := dx_Shop_strike_off rfl rfl fun _ => rfl) (T := T) (h := h))
theorem ok_order {f : Addr} {fd : FuncData} {c : Cs} (F : Fun K "order" "Shop.order" s_Shop_order f fd) (B : Bl mg) (T : Txt K mg c) (F_Shop_check_kind : Mt P w K mg base (CXK P w) c.shop "check_kind" 1 ["self", "kind"] (sp_check_kind c)) (F_Order : Mc P w K mg base CX0 c.order 1 ["self", "kind", "pieces", "price"] (sp_Order c)) : FnOk P w K mg base (CXK P w) 3 f fd ["self", "kind", "pieces", "price"] (sp_order c) :=
  F.okK sc_Shop_order (fun vs H Q E h => by obtain ⟨_, _, _, _, _, _, _, e, _⟩ := h; rw [e]; rfl) (fun cdv A outer s H vs Q E hr h => rd_order (D := dx_Shop_order rfl rfl fun _ => rfl) (hc := rfl) (hr := hr) (hR := raisesK) (hK := passK) (B := B) (T := T) (F_Shop_check_kind := F_Shop_check_kind) (F_Order := F_Order) (h := h))
theorem ok_came {f : Addr} {fd : FuncData} {c : Cs} (F : Fun K "came" "Shop.came" s_Shop_came f fd) (B : Bl mg) (T : Txt K mg c) (F_Shop_find_order : Mt P w K mg base (CXK P w) c.shop "find_order" 1 ["self", "order"] (sp_find_order c)) (F_check_pieces : Fn P w K mg base (CXK P w) "check_pieces" 1 ["out", "pieces", "bad"] (sp_check_pieces c)) (F_Shop_check_till : Mt P w K mg base (CXK P w) c.shop "check_till" 1 ["self", "coins"] (sp_check_till c)) (F_Shop_strike_off : Mt P w K mg base (CXK P w) c.shop "strike_off" 1 ["self", "ordered", "pieces"] (sp_strike_off c)) : FnOk P w K mg base (CXK P w) 3 f fd ["self", "order", "pieces", "bad"] (sp_came c) :=
  F.okK sc_Shop_came (fun vs H Q E h => by obtain ⟨_, _, _, _, _, _, _, e, _⟩ := h; rw [e]; rfl) (fun cdv A outer s H vs Q E hr h => rd_came (D := dx_Shop_came rfl rfl fun _ => rfl) (hc := rfl) (hr := hr) (hK := passK) (B := B) (T := T) (F_Shop_find_order := F_Shop_find_order) (F_check_pieces := F_check_pieces) (F_Shop_check_till := F_Shop_check_till) (F_Shop_strike_off := F_Shop_strike_off) (h := h))
theorem ok_give_up {f : Addr} {fd : FuncData} {c : Cs} (F : Fun K "give_up" "Shop.give_up" s_Shop_give_up f fd) (B : Bl mg) (T : Txt K mg c) (F_Shop_find_order : Mt P w K mg base (CXK P w) c.shop "find_order" 1 ["self", "order"] (sp_find_order c)) (F_Shop_strike_off : Mt P w K mg base (CXK P w) c.shop "strike_off" 1 ["self", "ordered", "pieces"] (sp_strike_off c)) : FnOk P w K mg base (CXK P w) 3 f fd ["self", "order"] (sp_give_up c) :=
  F.okK sc_Shop_give_up (fun vs H Q E h => by obtain ⟨_, _, _, _, _, e, _⟩ := h; rw [e]; rfl) (fun cdv A outer s H vs Q E hr h => rd_give_up (D := dx_Shop_give_up rfl rfl fun _ => rfl) (hc := rfl) (hr := hr) (hK := passK) (B := B) (T := T) (F_Shop_find_order := F_Shop_find_order) (F_Shop_strike_off := F_Shop_strike_off) (h := h))
theorem ok_sell {f : Addr} {fd : FuncData} {c : Cs} (F : Fun K "sell" "Shop.sell" s_Shop_sell f fd) (B : Bl mg) (T : Txt K mg c) (F_Shop_check_kind : Mt P w K mg base (CXK P w) c.shop "check_kind" 1 ["self", "kind"] (sp_check_kind c)) (F_Sale : Mc P w K mg base CX0 c.sale 1 ["self", "kind", "pieces"] (sp_Sale c)) : FnOk P w K mg base (CXK P w) 3 f fd ["self", "kind", "pieces"] (sp_sell c) :=
  F.okK sc_Shop_sell (fun vs H Q E h => by obtain ⟨_, _, _, _, _, _, e, _⟩ := h; rw [e]; rfl) (fun cdv A outer s H vs Q E hr h => rd_sell (D := dx_Shop_sell rfl rfl fun _ => rfl) (hc := rfl) (hr := hr) (hR := raisesK) (hK := passK) (B := B) (T := T) (F_Shop_check_kind := F_Shop_check_kind) (F_Sale := F_Sale) (h := h))
theorem ok_back {f : Addr} {fd : FuncData} {c : Cs} (F : Fun K "back" "Shop.back" s_Shop_back f fd) (B : Bl mg) (T : Txt K mg c) (F_Shop_find_sale : Mt P w K mg base (CXK P w) c.shop "find_sale" 1 ["self", "sale"] (sp_find_sale c)) (F_check_pieces : Fn P w K mg base (CXK P w) "check_pieces" 1 ["out", "pieces", "bad"] (sp_check_pieces c)) (F_Shop_check_till : Mt P w K mg base (CXK P w) c.shop "check_till" 1 ["self", "coins"] (sp_check_till c)) : FnOk P w K mg base (CXK P w) 3 f fd ["self", "sale", "pieces"] (sp_back c) :=
  F.okK sc_Shop_back (fun vs H Q E h => by obtain ⟨_, _, _, _, _, _, e, _⟩ := h; rw [e]; rfl) (fun cdv A outer s H vs Q E hr h => rd_back (D := dx_Shop_back rfl rfl fun _ => rfl) (hc := rfl) (hr := hr) (hK := passK) (B := B) (T := T) (F_Shop_find_sale := F_Shop_find_sale) (F_check_pieces := F_check_pieces) (F_Shop_check_till := F_Shop_check_till) (h := h))
theorem ok_do_deed {f : Addr} {fd : FuncData} {c : Cs} (F : Fun K "do_deed" "do_deed" s_do_deed f fd) (T : Txt K mg c) (F_Shop_order : Mt P w K mg base (CXK P w) c.shop "order" 3 ["self", "kind", "pieces", "price"] (sp_order c)) (F_Shop_came : Mt P w K mg base (CXK P w) c.shop "came" 3 ["self", "order", "pieces", "bad"] (sp_came c)) (F_Shop_give_up : Mt P w K mg base (CXK P w) c.shop "give_up" 3 ["self", "order"] (sp_give_up c)) (F_Shop_sell : Mt P w K mg base (CXK P w) c.shop "sell" 3 ["self", "kind", "pieces"] (sp_sell c)) (F_Shop_back : Mt P w K mg base (CXK P w) c.shop "back" 3 ["self", "sale", "pieces"] (sp_back c)) : FnOk P w K mg base (CXK P w) 4 f fd ["shop", "deed"] (sp_do_deed c) :=
  F.okK sc_do_deed (fun vs H Q E h => by obtain ⟨_, _, _, _, _, _, e, _⟩ := h; rw [e]; rfl) (fun cdv A outer s H vs Q E hr h => rd_do_deed (D := dx_do_deed rfl rfl fun _ => rfl) (hr := hr) (hK := passK) (T := T) (F_Shop_order := F_Shop_order) (F_Shop_came := F_Shop_came) (F_Shop_give_up := F_Shop_give_up) (F_Shop_sell := F_Shop_sell) (F_Shop_back := F_Shop_back) (h := h))
theorem ok_answer_deed {f : Addr} {fd : FuncData} {c : Cs} (F : Fun K "answer_deed" "answer_deed" s_answer_deed f fd) (T : Txt K mg c) (M : Exm K c) (F_do_deed : Fn P w K mg base (CXK P w) "do_deed" 4 ["shop", "deed"] (sp_do_deed c)) : FnOk P w K mg base CX0 5 f fd ["shop", "deed"] (sp_answer_deed c) :=
  F.ok sc_answer_deed (fun vs H Q E h => by obtain ⟨_, _, _, _, _, _, e, _⟩ := h; rw [e]; rfl) (fun cdv A outer s H vs Q E hr h => rd_answer_deed (D := dx_answer_deed rfl rfl fun _ => rfl) (hr := hr) (hk := rfl) (hf := rfl) (hx := rfl) (T := T) (M := M) (F_do_deed := F_do_deed) (h := h))
theorem ok_Shop {f : Addr} {fd : FuncData} {c : Cs} (F : Fun K "__init__" "Shop.__init__" s_Shop___init__ f fd) (B : Bl mg) (T : Txt K mg c) : FnOk P w K mg base CX0 1 f fd ["self", "till", "prices"] (sp_Shop c) :=
  F.ok sc_Shop___init__ (fun vs H Q E h => by obtain ⟨_, _, _, _, _, e, _⟩ := h; rw [e]; rfl) (fun cdv A outer s H vs Q E hr h => rd_Shop (D := dx_Shop___init__ rfl rfl fun _ => rfl) (B := B) (T := T) (h := h))
theorem ok_states {f : Addr} {fd : FuncData} {c : Cs} (F : Fun K "states" "states" s_states f fd) (B : Bl mg) (T : Txt K mg c) (F_Shop : Mc P w K mg base CX0 c.shop 1 ["self", "till", "prices"] (sp_Shop c)) (F_answer_deed : Fn P w K mg base CX0 "answer_deed" 5 ["shop", "deed"] (sp_answer_deed c)) : FnOk P w K mg base CX0 15 f fd ["till", "prices", "deeds"] (sp_states) :=
  F.ok sc_states (fun vs H Q E h => by obtain ⟨_, _, _, _, _, _, e, _⟩ := h; rw [e]; rfl) (fun cdv A outer s H vs Q E hr h => rd_states (D := dx_states rfl rfl fun _ => rfl) (hc := rfl) (hp := PassesOwn.never) (hr := hr) (B := B) (T := T) (F_Shop := F_Shop) (F_answer_deed := F_answer_deed) (h := h))
theorem ok_came_by {f : Addr} {fd : FuncData}  (F : Fun K "_law_came_by" "_law_came_by" s_came_by f fd) (B : Bl mg) : FnOk P w K mg base CX0 1 f fd ["_law_rest", "_law_salt", "_law_more", "_law_made", "_law_k"] (sp_came_by) :=
  F.ok sc_came_by (fun vs H Q E h => by obtain ⟨_, _, _, _, _, e, _⟩ := h; rw [e]; rfl) (fun cdv A outer s H vs Q E hr h => rd_came_by (D := dx_came_by rfl rfl fun _ => rfl) (hc := rfl) (hr := hr) (B := B) (h := h))
theorem ok_pieces_word {f : Addr} {fd : FuncData}  (F : Fun K "_law_pieces_word" "_law_pieces_word" s_pieces_word f fd) : FnOk P w K mg base CX0 1 f fd ["_law_out", "_law_pieces", "_law_bad"] (sp_pieces_word) :=
  F.ok sc_pieces_word (fun vs H Q E h => by obtain ⟨_, _, _, e, _⟩ := h; rw [e]; rfl) (fun cdv A outer s H vs Q E hr h => rd_pieces_word (D := dx_pieces_word rfl rfl fun _ => rfl) (h := h))
theorem ok_order_word {f : Addr} {fd : FuncData} {n : Nat} (F : Fun K "_law_order_word" "_law_order_word" s_order_word f fd) (B : Bl mg) (F_pieces_word : Fn P w K mg base CX0 "_law_pieces_word" 1 ["_law_out", "_law_pieces", "_law_bad"] sp_pieces_word) : FnOk P w K mg base CX0 2 f fd ["_law_shop", "_law_deed"] (sp_order_word n) :=
  F.ok sc_order_word (fun vs H Q E h => by obtain ⟨_, _, _, _, _, _, _, _, _, e, _⟩ := h; rw [e]; rfl) (fun cdv A outer s H vs Q E hr h => rd_order_word (D := dx_order_word rfl rfl fun _ => rfl) (hr := hr) (B := B) (F_pieces_word := F_pieces_word) (h := h))
theorem ok_refusal_of {f : Addr} {fd : FuncData} {n : Nat} (F : Fun K "_law_refusal_of" "_law_refusal_of" s_refusal_of f fd) (B : Bl mg) (F_pieces_word : Fn P w K mg base CX0 "_law_pieces_word" 1 ["_law_out", "_law_pieces", "_law_bad"] sp_pieces_word) (F_order_word : Fn P w K mg base CX0 "_law_order_word" 2 ["_law_shop", "_law_deed"] (sp_order_word n)) : FnOk P w K mg base CX0 3 f fd ["_law_shop", "_law_deed"] (sp_refusal_of n) :=
  F.ok sc_refusal_of (fun vs H Q E h => by obtain ⟨_, _, _, _, _, _, _, _, _, e, _⟩ := h; rw [e]; rfl) (fun cdv A outer s H vs Q E hr h => rd_refusal_of (D := dx_refusal_of rfl rfl fun _ => rfl) (hr := hr) (B := B) (F_pieces_word := F_pieces_word) (F_order_word := F_order_word) (h := h))
theorem ok_did {f : Addr} {fd : FuncData} {n : Nat} (F : Fun K "_law_did" "_law_did" s_did f fd) (B : Bl mg) : FnOk P w K mg base CX0 1 f fd ["_law_shop", "_law_deed", "_law_prices"] (sp_did n) :=
  F.ok sc_did (fun vs H Q E h => by obtain ⟨_, _, _, _, _, _, _, _, _, _, _, e, _⟩ := h; rw [e]; rfl) (fun cdv A outer s H vs Q E hr h => rd_did (D := dx_did rfl rfl fun _ => rfl) (hr := hr) (B := B) (h := h))
theorem ok_first_deeds {f : Addr} {fd : FuncData}  (F : Fun K "_law_first_deeds" "_law_first_deeds" s_first_deeds f fd) (B : Bl mg) : FnOk P w K mg base CX0 1 f fd ["_law_kinds"] (sp_first_deeds) :=
  F.ok sc_first_deeds (fun vs H Q E h => by obtain ⟨_, e, _⟩ := h; rw [e]; rfl) (fun cdv A outer s H vs Q E hr h => rd_first_deeds (D := dx_first_deeds rfl rfl fun _ => rfl) (hc := rfl) (hp := PassesOwn.never) (B := B) (h := h))
theorem ok_deeds {f : Addr} {fd : FuncData}  (F : Fun K "_law_deeds" "_law_deeds" s_deeds f fd) (B : Bl mg) (F_came_by : Fn P w K mg base CX0 "_law_came_by" 1 ["_law_rest", "_law_salt", "_law_more", "_law_made", "_law_k"] sp_came_by) : FnOk P w K mg base CX0 2 f fd ["_law_cells", "_law_kinds"] (sp_deeds) :=
  F.ok sc_deeds (fun vs H Q E h => by obtain ⟨_, _, _, e, _⟩ := h; rw [e]; rfl) (fun cdv A outer s H vs Q E hr h => rd_deeds (D := dx_deeds rfl rfl fun _ => rfl) (hc := rfl) (hp := PassesOwn.never) (hr := hr) (B := B) (F_came_by := F_came_by) (h := h))
theorem ok_whole {f : Addr} {fd : FuncData}  (F : Fun K "_law_whole" "_law_whole" s_whole f fd) (B : Bl mg) : FnOk P w K mg base CX0 1 f fd ["_law_found"] (sp_whole) :=
  F.ok sc_whole (fun vs H Q E h => by obtain ⟨_, e, _⟩ := h; rw [e]; rfl) (fun cdv A outer s H vs Q E hr h => rd_whole (D := dx_whole rfl rfl fun _ => rfl) (hc := rfl) (hp := PassesOwn.never) (B := B) (h := h))
theorem ok_at {f : Addr} {fd : FuncData}  (F : Fun K "_law_at" "_law_at" s_at f fd) (B : Bl mg) : FnOk P w K mg base CX0 1 f fd ["_law_script", "_law_k"] (sp_at K) :=
  F.ok sc_at (fun vs H Q E h => by obtain ⟨_, _, _, e, _⟩ := h; rw [e]; rfl) (fun cdv A outer s H vs Q E hr h => rd_at (D := dx_at rfl rfl fun _ => rfl) (hc := rfl) (hp := PassesOwn.never) (B := B) (h := h))
theorem ok_shop_of {f : Addr} {fd : FuncData}  (F : Fun K "_law_shop_of" "_law_shop_of" s_shop_of f fd) (B : Bl mg) : FnOk P w K mg base CX0 1 f fd ["_law_till", "_law_kinds"] (sp_shop_of) :=
  F.ok sc_shop_of (fun vs H Q E h => by obtain ⟨_, _, e, _⟩ := h; rw [e]; rfl) (fun cdv A outer s H vs Q E hr h => rd_shop_of (D := dx_shop_of rfl rfl fun _ => rfl) (hc := rfl) (hp := PassesOwn.never) (B := B) (h := h))
theorem ok_prices_of {f : Addr} {fd : FuncData}  (F : Fun K "_law_prices_of" "_law_prices_of" s_prices_of f fd) (B : Bl mg) : FnOk P w K mg base CX0 1 f fd ["_law_cell", "_law_kinds"] (sp_prices_of) :=
  F.ok sc_prices_of (fun vs H Q E h => by obtain ⟨_, _, e, _⟩ := h; rw [e]; rfl) (fun cdv A outer s H vs Q E hr h => rd_prices_of (D := dx_prices_of rfl rfl fun _ => rfl) (hc := rfl) (hp := PassesOwn.never) (B := B) (hs := rfl) (he := rfl) (h := h))
theorem ok_answers_of {f : Addr} {fd : FuncData}  (F : Fun K "_law_answers_of" "_law_answers_of" s_answers_of f fd) (B : Bl mg) (F_shop_of : Fn P w K mg base CX0 "_law_shop_of" 1 ["_law_till", "_law_kinds"] sp_shop_of) (F_refusal_of : Fn P w K mg base CX0 "_law_refusal_of" 3 ["_law_shop", "_law_deed"] (spEx sp_refusal_of)) (F_did : Fn P w K mg base CX0 "_law_did" 1 ["_law_shop", "_law_deed", "_law_prices"] (spEx sp_did)) : FnOk P w K mg base CX0 5 f fd ["_law_till", "_law_prices", "_law_asked"] (sp_answers_of) :=
  F.ok sc_answers_of (fun vs H Q E h => by obtain ⟨_, _, _, _, _, _, e, _⟩ := h; rw [e]; rfl) (fun cdv A outer s H vs Q E hr h => rd_answers_of (D := dx_answers_of rfl rfl fun _ => rfl) (hc := rfl) (hp := PassesOwn.never) (hr := hr) (B := B) (F_shop_of := F_shop_of) (F_refusal_of := F_refusal_of) (F_did := F_did) (h := h))
theorem ok_row_of {f : Addr} {fd : FuncData}  (F : Fun K "_law_row_of" "_law_row_of" s_row_of f fd) (B : Bl mg) (F_whole : Fn P w K mg base CX0 "_law_whole" 1 ["_law_found"] sp_whole) : FnOk P w K mg base CX0 2 f fd ["_law_found", "_law_kinds"] (sp_row_of) :=
  F.ok sc_row_of (fun vs H Q E h => by obtain ⟨_, _, _, e, _⟩ := h; rw [e]; rfl) (fun cdv A outer s H vs Q E hr h => rd_row_of (D := dx_row_of rfl rfl fun _ => rfl) (hc := rfl) (hp := PassesOwn.never) (hr := hr) (B := B) (F_whole := F_whole) (h := h))
theorem ok_are_states {f : Addr} {fd : FuncData}  (F : Fun K "_law_are_states" "_law_are_states" s_are_states f fd) (B : Bl mg) (F_whole : Fn P w K mg base CX0 "_law_whole" 1 ["_law_found"] sp_whole) (F_row_of : Fn P w K mg base CX0 "_law_row_of" 2 ["_law_found", "_law_kinds"] sp_row_of) : FnOk P w K mg base CX0 3 f fd ["_law_found", "_law_count", "_law_kinds"] (sp_are_states) :=
  F.ok sc_are_states (fun vs H Q E h => by obtain ⟨_, _, _, _, _, e, _⟩ := h; rw [e]; rfl) (fun cdv A outer s H vs Q E hr h => rd_are_states (D := dx_are_states rfl rfl fun _ => rfl) (hc := rfl) (hp := PassesOwn.never) (hr := hr) (B := B) (F_whole := F_whole) (F_row_of := F_row_of) (h := h))
theorem ok_law {f : Addr} {fd : FuncData}  (F : Fun K "law" "law" s_law f fd) (B : Bl mg) (F_at : Fn P w K mg base CX0 "_law_at" 1 ["_law_script", "_law_k"] (sp_at K)) (F_prices_of : Fn P w K mg base CX0 "_law_prices_of" 1 ["_law_cell", "_law_kinds"] sp_prices_of) (F_deeds : Fn P w K mg base CX0 "_law_deeds" 2 ["_law_cells", "_law_kinds"] sp_deeds) (F_first_deeds : Fn P w K mg base CX0 "_law_first_deeds" 1 ["_law_kinds"] sp_first_deeds) (F_states : Fn P w K mg base CX0 "states" 15 ["till", "prices", "deeds"] sp_states) (F_answers_of : Fn P w K mg base CX0 "_law_answers_of" 5 ["_law_till", "_law_prices", "_law_asked"] sp_answers_of) (F_are_states : Fn P w K mg base CX0 "_law_are_states" 3 ["_law_found", "_law_count", "_law_kinds"] sp_are_states) (F_whole : Fn P w K mg base CX0 "_law_whole" 1 ["_law_found"] sp_whole) : FnOk P w K mg base CX0 21 f fd ["_law_script"] (sp_law K) :=
  F.ok sc_law (fun vs H Q E h => by obtain ⟨_, _, e, _⟩ := h; rw [e]; rfl) (fun cdv A outer s H vs Q E hr h => rd_law (D := dx_law rfl rfl fun _ => rfl) (hc := rfl) (hp := PassesOwn.never) (hr := hr) (B := B) (F_at := F_at) (F_prices_of := F_prices_of) (F_deeds := F_deeds) (F_first_deeds := F_first_deeds) (F_states := F_states) (F_answers_of := F_answers_of) (F_are_states := F_are_states) (F_whole := F_whole) (h := h))
end
theorem all_mk {l : PySem.W.OpenLaw} {w : World} {K : PySem.W.Frag} {h : Heap} {mg : Str → Option Value} {fa : Addr} {cShop cOrder cSale cNoKind cNoOrder cNoSale cNoMany cTooMany cTooFew cBroke : Addr} {f0 : Addr} {od0 an0 : Option Addr} {sl0 : Array (Option Value)} {oc0 kV0 dc0 pm0 cd0 ct0 : Value}
    {f1 : Addr} {od1 an1 : Option Addr} {sl1 : Array (Option Value)} {oc1 kV1 dc1 pm1 cd1 ct1 : Value}
    {f2 : Addr} {od2 an2 : Option Addr} {sl2 : Array (Option Value)} {oc2 kV2 dc2 pm2 cd2 ct2 : Value}
    {f3 : Addr} {od3 an3 : Option Addr} {sl3 : Array (Option Value)} {oc3 kV3 dc3 pm3 cd3 ct3 : Value}
    {f4 : Addr} {od4 an4 : Option Addr} {sl4 : Array (Option Value)} {oc4 kV4 dc4 pm4 cd4 ct4 : Value}
    {f5 : Addr} {od5 an5 : Option Addr} {sl5 : Array (Option Value)} {oc5 kV5 dc5 pm5 cd5 ct5 : Value}
    {f6 : Addr} {od6 an6 : Option Addr} {sl6 : Array (Option Value)} {oc6 kV6 dc6 pm6 cd6 ct6 : Value}
    {f7 : Addr} {od7 an7 : Option Addr} {sl7 : Array (Option Value)} {oc7 kV7 dc7 pm7 cd7 ct7 : Value}
    {f8 : Addr} {od8 an8 : Option Addr} {sl8 : Array (Option Value)} {oc8 kV8 dc8 pm8 cd8 ct8 : Value}
    {f9 : Addr} {od9 an9 : Option Addr} {sl9 : Array (Option Value)} {oc9 kV9 dc9 pm9 cd9 ct9 : Value}
    {f10 : Addr} {od10 an10 : Option Addr} {sl10 : Array (Option Value)} {oc10 kV10 dc10 pm10 cd10 ct10 : Value}
    {f11 : Addr} {od11 an11 : Option Addr} {sl11 : Array (Option Value)} {oc11 kV11 dc11 pm11 cd11 ct11 : Value}
    {f12 : Addr} {od12 an12 : Option Addr} {sl12 : Array (Option Value)} {oc12 kV12 dc12 pm12 cd12 ct12 : Value}
    {f13 : Addr} {od13 an13 : Option Addr} {sl13 : Array (Option Value)} {oc13 kV13 dc13 pm13 cd13 ct13 : Value}
    {f14 : Addr} {od14 an14 : Option Addr} {sl14 : Array (Option Value)} {oc14 kV14 dc14 pm14 cd14 ct14 : Value}
    {f15 : Addr} {od15 an15 : Option Addr} {sl15 : Array (Option Value)} {oc15 kV15 dc15 pm15 cd15 ct15 : Value}
    {f16 : Addr} {od16 an16 : Option Addr} {sl16 : Array (Option Value)} {oc16 kV16 dc16 pm16 cd16 ct16 : Value}
    {f17 : Addr} {od17 an17 : Option Addr} {sl17 : Array (Option Value)} {oc17 kV17 dc17 pm17 cd17 ct17 : Value}
    {f18 : Addr} {od18 an18 : Option Addr} {sl18 : Array (Option Value)} {oc18 kV18 dc18 pm18 cd18 ct18 : Value}
    {f19 : Addr} {od19 an19 : Option Addr} {sl19 : Array (Option Value)} {oc19 kV19 dc19 pm19 cd19 ct19 : Value}
    {f20 : Addr} {od20 an20 : Option Addr} {sl20 : Array (Option Value)} {oc20 kV20 dc20 pm20 cd20 ct20 : Value}
    {f21 : Addr} {od21 an21 : Option Addr} {sl21 : Array (Option Value)} {oc21 kV21 dc21 pm21 cd21 ct21 : Value}
    {f22 : Addr} {od22 an22 : Option Addr} {sl22 : Array (Option Value)} {oc22 kV22 dc22 pm22 cd22 ct22 : Value}
    {f23 : Addr} {od23 an23 : Option Addr} {sl23 : Array (Option Value)} {oc23 kV23 dc23 pm23 cd23 ct23 : Value}
    {f24 : Addr} {od24 an24 : Option Addr} {sl24 : Array (Option Value)} {oc24 kV24 dc24 pm24 cd24 ct24 : Value}
    {f25 : Addr} {od25 an25 : Option Addr} {sl25 : Array (Option Value)} {oc25 kV25 dc25 pm25 cd25 ct25 : Value}
    {f26 : Addr} {od26 an26 : Option Addr} {sl26 : Array (Option Value)} {oc26 kV26 dc26 pm26 cd26 ct26 : Value}
    {f27 : Addr} {od27 an27 : Option Addr} {sl27 : Array (Option Value)} {oc27 kV27 dc27 pm27 cd27 ct27 : Value}
    {f28 : Addr} {od28 an28 : Option Addr} {sl28 : Array (Option Value)} {oc28 kV28 dc28 pm28 cd28 ct28 : Value}
    {f29 : Addr} {od29 an29 : Option Addr} {sl29 : Array (Option Value)} {oc29 kV29 dc29 pm29 cd29 ct29 : Value}
    {f30 : Addr} {od30 an30 : Option Addr} {sl30 : Array (Option Value)} {oc30 kV30 dc30 pm30 cd30 ct30 : Value}
    {f31 : Addr} {od31 an31 : Option Addr} {sl31 : Array (Option Value)} {oc31 kV31 dc31 pm31 cd31 ct31 : Value} (X : K.In h) (G : h.Ns mainGlobals mg) (hfa : mg "law" = some (.ref fa))
    (bl0 : PySem.W.nsIn K mainGlobals "len" = some none)
    (bl1 : PySem.W.nsIn K mainGlobals "isinstance" = some none)
    (bl2 : PySem.W.nsIn K mainGlobals "max" = some none)
    (bl3 : PySem.W.nsIn K mainGlobals "int" = some none)
    (bl4 : PySem.W.nsIn K mainGlobals "bool" = some none)
    (bl5 : PySem.W.nsIn K mainGlobals "str" = some none)
    (bl6 : PySem.W.nsIn K mainGlobals "list" = some none)
    (bl7 : PySem.W.nsIn K mainGlobals "tuple" = some none)
    (bl8 : PySem.W.nsIn K mainGlobals "range" = some none)
    (bl9 : PySem.W.nsIn K mainGlobals "ValueError" = some none)
    (mShop : PySem.W.nsIn K mainGlobals "Shop" = some (some (.ref cShop)))
    (mOrder : PySem.W.nsIn K mainGlobals "Order" = some (some (.ref cOrder)))
    (mSale : PySem.W.nsIn K mainGlobals "Sale" = some (some (.ref cSale)))
    (mNoKind : PySem.W.nsIn K mainGlobals "NoKind" = some (some (.ref cNoKind)))
    (mNoOrder : PySem.W.nsIn K mainGlobals "NoOrder" = some (some (.ref cNoOrder)))
    (mNoSale : PySem.W.nsIn K mainGlobals "NoSale" = some (some (.ref cNoSale)))
    (mNoMany : PySem.W.nsIn K mainGlobals "NoMany" = some (some (.ref cNoMany)))
    (mTooMany : PySem.W.nsIn K mainGlobals "TooMany" = some (some (.ref cTooMany)))
    (mTooFew : PySem.W.nsIn K mainGlobals "TooFew" = some (some (.ref cTooFew)))
    (mBroke : PySem.W.nsIn K mainGlobals "Broke" = some (some (.ref cBroke)))
    (xNoKind : PySem.W.excIn K cNoKind [.type "ValueError", .type "Exception", .type "BaseException", .type "object"] "ValueError.__new__" = true)
    (xNoOrder : PySem.W.excIn K cNoOrder [.type "ValueError", .type "Exception", .type "BaseException", .type "object"] "ValueError.__new__" = true)
    (xNoSale : PySem.W.excIn K cNoSale [.type "ValueError", .type "Exception", .type "BaseException", .type "object"] "ValueError.__new__" = true)
    (xNoMany : PySem.W.excIn K cNoMany [.type "ValueError", .type "Exception", .type "BaseException", .type "object"] "ValueError.__new__" = true)
    (xTooMany : PySem.W.excIn K cTooMany [.type "ValueError", .type "Exception", .type "BaseException", .type "object"] "ValueError.__new__" = true)
    (xTooFew : PySem.W.excIn K cTooFew [.type "ValueError", .type "Exception", .type "BaseException", .type "object"] "ValueError.__new__" = true)
    (xBroke : PySem.W.excIn K cBroke [.type "ValueError", .type "Exception", .type "BaseException", .type "object"] "ValueError.__new__" = true)
    (pgShop : PySem.W.plainGet K cShop Str.empty = true)
    (hdShop : PySem.W.hasDictIn K cShop = true)
    (poShop : PySem.W.plainOver K cShop = true)
    (saShop : PySem.W.findIn K (.ref cShop) "__setattr__" = some (some (.builtin "object.__setattr__")))
    (mkShop : PySem.W.makesIn K cShop = true)
    (kcShop : PySem.W.keepIn K (.ref cShop) = true)
    (nShop_till : PySem.W.findIn K (.ref cShop) "till" = some none)
    (nShop_prices : PySem.W.findIn K (.ref cShop) "prices" = some none)
    (nShop_shelf : PySem.W.findIn K (.ref cShop) "shelf" = some none)
    (nShop_owed : PySem.W.findIn K (.ref cShop) "owed" = some none)
    (nShop_orders : PySem.W.findIn K (.ref cShop) "orders" = some none)
    (nShop_sales : PySem.W.findIn K (.ref cShop) "sales" = some none)
    (nShop_entries : PySem.W.findIn K (.ref cShop) "entries" = some none)
    (pgOrder : PySem.W.plainGet K cOrder Str.empty = true)
    (hdOrder : PySem.W.hasDictIn K cOrder = true)
    (poOrder : PySem.W.plainOver K cOrder = true)
    (saOrder : PySem.W.findIn K (.ref cOrder) "__setattr__" = some (some (.builtin "object.__setattr__")))
    (mkOrder : PySem.W.makesIn K cOrder = true)
    (kcOrder : PySem.W.keepIn K (.ref cOrder) = true)
    (nOrder_kind : PySem.W.findIn K (.ref cOrder) "kind" = some none)
    (nOrder_price : PySem.W.findIn K (.ref cOrder) "price" = some none)
    (nOrder_owed : PySem.W.findIn K (.ref cOrder) "owed" = some none)
    (pgSale : PySem.W.plainGet K cSale Str.empty = true)
    (hdSale : PySem.W.hasDictIn K cSale = true)
    (poSale : PySem.W.plainOver K cSale = true)
    (saSale : PySem.W.findIn K (.ref cSale) "__setattr__" = some (some (.builtin "object.__setattr__")))
    (mkSale : PySem.W.makesIn K cSale = true)
    (kcSale : PySem.W.keepIn K (.ref cSale) = true)
    (nSale_kind : PySem.W.findIn K (.ref cSale) "kind" = some none)
    (nSale_out : PySem.W.findIn K (.ref cSale) "out" = some none)
    (e0_0 : PySem.W.exmOne K (.ref cNoKind) (.ref cNoKind) = some true)
    (e1_0 : PySem.W.exmOne K (.ref cNoOrder) (.ref cNoKind) = some false)
    (e1_1 : PySem.W.exmOne K (.ref cNoOrder) (.ref cNoOrder) = some true)
    (e2_0 : PySem.W.exmOne K (.ref cNoSale) (.ref cNoKind) = some false)
    (e2_1 : PySem.W.exmOne K (.ref cNoSale) (.ref cNoOrder) = some false)
    (e2_2 : PySem.W.exmOne K (.ref cNoSale) (.ref cNoSale) = some true)
    (e3_0 : PySem.W.exmOne K (.ref cNoMany) (.ref cNoKind) = some false)
    (e3_1 : PySem.W.exmOne K (.ref cNoMany) (.ref cNoOrder) = some false)
    (e3_2 : PySem.W.exmOne K (.ref cNoMany) (.ref cNoSale) = some false)
    (e3_3 : PySem.W.exmOne K (.ref cNoMany) (.ref cNoMany) = some true)
    (e4_0 : PySem.W.exmOne K (.ref cTooMany) (.ref cNoKind) = some false)
    (e4_1 : PySem.W.exmOne K (.ref cTooMany) (.ref cNoOrder) = some false)
    (e4_2 : PySem.W.exmOne K (.ref cTooMany) (.ref cNoSale) = some false)
    (e4_3 : PySem.W.exmOne K (.ref cTooMany) (.ref cNoMany) = some false)
    (e4_4 : PySem.W.exmOne K (.ref cTooMany) (.ref cTooMany) = some true)
    (e5_0 : PySem.W.exmOne K (.ref cTooFew) (.ref cNoKind) = some false)
    (e5_1 : PySem.W.exmOne K (.ref cTooFew) (.ref cNoOrder) = some false)
    (e5_2 : PySem.W.exmOne K (.ref cTooFew) (.ref cNoSale) = some false)
    (e5_3 : PySem.W.exmOne K (.ref cTooFew) (.ref cNoMany) = some false)
    (e5_4 : PySem.W.exmOne K (.ref cTooFew) (.ref cTooMany) = some false)
    (e5_5 : PySem.W.exmOne K (.ref cTooFew) (.ref cTooFew) = some true)
    (e6_0 : PySem.W.exmOne K (.ref cBroke) (.ref cNoKind) = some false)
    (e6_1 : PySem.W.exmOne K (.ref cBroke) (.ref cNoOrder) = some false)
    (e6_2 : PySem.W.exmOne K (.ref cBroke) (.ref cNoSale) = some false)
    (e6_3 : PySem.W.exmOne K (.ref cBroke) (.ref cNoMany) = some false)
    (e6_4 : PySem.W.exmOne K (.ref cBroke) (.ref cTooMany) = some false)
    (e6_5 : PySem.W.exmOne K (.ref cBroke) (.ref cTooFew) = some false)
    (e6_6 : PySem.W.exmOne K (.ref cBroke) (.ref cBroke) = some true)
    (a0 : PySem.W.nsIn K mainGlobals "check_pieces" = some (some (.ref f0)))
    (l0 : K.lookup f0 = some ⟨oc0, od0, .func (PySem.W.fnOf "check_pieces" "check_pieces" (defArgs s_check_pieces) (defBody s_check_pieces) (defScope s_check_pieces) .none kV0 dc0 pm0 an0 cd0 ct0), sl0⟩)
    (c0 : PySem.W.codeIn K cd0 "check_pieces" = true)
    (k0 : PySem.W.keepIn K (.ref f0) = true)
    (a1 : PySem.W.findIn K (.ref cOrder) "__init__" = some (some (.ref f1)))
    (i1 : PySem.W.isFn K (.ref f1) = true)
    (l1 : K.lookup f1 = some ⟨oc1, od1, .func (PySem.W.fnOf "__init__" "Order.__init__" (defArgs s_Order___init__) (defBody s_Order___init__) (defScope s_Order___init__) .none kV1 dc1 pm1 an1 cd1 ct1), sl1⟩)
    (c1 : PySem.W.codeIn K cd1 "Order.__init__" = true)
    (k1 : PySem.W.keepIn K (.ref f1) = true)
    (a2 : PySem.W.findIn K (.ref cSale) "__init__" = some (some (.ref f2)))
    (i2 : PySem.W.isFn K (.ref f2) = true)
    (l2 : K.lookup f2 = some ⟨oc2, od2, .func (PySem.W.fnOf "__init__" "Sale.__init__" (defArgs s_Sale___init__) (defBody s_Sale___init__) (defScope s_Sale___init__) .none kV2 dc2 pm2 an2 cd2 ct2), sl2⟩)
    (c2 : PySem.W.codeIn K cd2 "Sale.__init__" = true)
    (k2 : PySem.W.keepIn K (.ref f2) = true)
    (a3 : PySem.W.findIn K (.ref cShop) "check_kind" = some (some (.ref f3)))
    (i3 : PySem.W.isFn K (.ref f3) = true)
    (l3 : K.lookup f3 = some ⟨oc3, od3, .func (PySem.W.fnOf "check_kind" "Shop.check_kind" (defArgs s_Shop_check_kind) (defBody s_Shop_check_kind) (defScope s_Shop_check_kind) .none kV3 dc3 pm3 an3 cd3 ct3), sl3⟩)
    (c3 : PySem.W.codeIn K cd3 "Shop.check_kind" = true)
    (k3 : PySem.W.keepIn K (.ref f3) = true)
    (a4 : PySem.W.findIn K (.ref cShop) "find_order" = some (some (.ref f4)))
    (i4 : PySem.W.isFn K (.ref f4) = true)
    (l4 : K.lookup f4 = some ⟨oc4, od4, .func (PySem.W.fnOf "find_order" "Shop.find_order" (defArgs s_Shop_find_order) (defBody s_Shop_find_order) (defScope s_Shop_find_order) .none kV4 dc4 pm4 an4 cd4 ct4), sl4⟩)
    (c4 : PySem.W.codeIn K cd4 "Shop.find_order" = true)
    (k4 : PySem.W.keepIn K (.ref f4) = true)
    (a5 : PySem.W.findIn K (.ref cShop) "find_sale" = some (some (.ref f5)))
    (i5 : PySem.W.isFn K (.ref f5) = true)
    (l5 : K.lookup f5 = some ⟨oc5, od5, .func (PySem.W.fnOf "find_sale" "Shop.find_sale" (defArgs s_Shop_find_sale) (defBody s_Shop_find_sale) (defScope s_Shop_find_sale) .none kV5 dc5 pm5 an5 cd5 ct5), sl5⟩)
    (c5 : PySem.W.codeIn K cd5 "Shop.find_sale" = true)
    (k5 : PySem.W.keepIn K (.ref f5) = true)
    (a6 : PySem.W.findIn K (.ref cShop) "check_till" = some (some (.ref f6)))
    (i6 : PySem.W.isFn K (.ref f6) = true)
    (l6 : K.lookup f6 = some ⟨oc6, od6, .func (PySem.W.fnOf "check_till" "Shop.check_till" (defArgs s_Shop_check_till) (defBody s_Shop_check_till) (defScope s_Shop_check_till) .none kV6 dc6 pm6 an6 cd6 ct6), sl6⟩)
    (c6 : PySem.W.codeIn K cd6 "Shop.check_till" = true)
    (k6 : PySem.W.keepIn K (.ref f6) = true)
    (a7 : PySem.W.findIn K (.ref cShop) "strike_off" = some (some (.ref f7)))
    (i7 : PySem.W.isFn K (.ref f7) = true)
    (l7 : K.lookup f7 = some ⟨oc7, od7, .func (PySem.W.fnOf "strike_off" "Shop.strike_off" (defArgs s_Shop_strike_off) (defBody s_Shop_strike_off) (defScope s_Shop_strike_off) .none kV7 dc7 pm7 an7 cd7 ct7), sl7⟩)
    (c7 : PySem.W.codeIn K cd7 "Shop.strike_off" = true)
    (k7 : PySem.W.keepIn K (.ref f7) = true)
    (a8 : PySem.W.findIn K (.ref cShop) "order" = some (some (.ref f8)))
    (i8 : PySem.W.isFn K (.ref f8) = true)
    (l8 : K.lookup f8 = some ⟨oc8, od8, .func (PySem.W.fnOf "order" "Shop.order" (defArgs s_Shop_order) (defBody s_Shop_order) (defScope s_Shop_order) .none kV8 dc8 pm8 an8 cd8 ct8), sl8⟩)
    (c8 : PySem.W.codeIn K cd8 "Shop.order" = true)
    (k8 : PySem.W.keepIn K (.ref f8) = true)
    (a9 : PySem.W.findIn K (.ref cShop) "came" = some (some (.ref f9)))
    (i9 : PySem.W.isFn K (.ref f9) = true)
    (l9 : K.lookup f9 = some ⟨oc9, od9, .func (PySem.W.fnOf "came" "Shop.came" (defArgs s_Shop_came) (defBody s_Shop_came) (defScope s_Shop_came) .none kV9 dc9 pm9 an9 cd9 ct9), sl9⟩)
    (c9 : PySem.W.codeIn K cd9 "Shop.came" = true)
    (k9 : PySem.W.keepIn K (.ref f9) = true)
    (a10 : PySem.W.findIn K (.ref cShop) "give_up" = some (some (.ref f10)))
    (i10 : PySem.W.isFn K (.ref f10) = true)
    (l10 : K.lookup f10 = some ⟨oc10, od10, .func (PySem.W.fnOf "give_up" "Shop.give_up" (defArgs s_Shop_give_up) (defBody s_Shop_give_up) (defScope s_Shop_give_up) .none kV10 dc10 pm10 an10 cd10 ct10), sl10⟩)
    (c10 : PySem.W.codeIn K cd10 "Shop.give_up" = true)
    (k10 : PySem.W.keepIn K (.ref f10) = true)
    (a11 : PySem.W.findIn K (.ref cShop) "sell" = some (some (.ref f11)))
    (i11 : PySem.W.isFn K (.ref f11) = true)
    (l11 : K.lookup f11 = some ⟨oc11, od11, .func (PySem.W.fnOf "sell" "Shop.sell" (defArgs s_Shop_sell) (defBody s_Shop_sell) (defScope s_Shop_sell) .none kV11 dc11 pm11 an11 cd11 ct11), sl11⟩)
    (c11 : PySem.W.codeIn K cd11 "Shop.sell" = true)
    (k11 : PySem.W.keepIn K (.ref f11) = true)
    (a12 : PySem.W.findIn K (.ref cShop) "back" = some (some (.ref f12)))
    (i12 : PySem.W.isFn K (.ref f12) = true)
    (l12 : K.lookup f12 = some ⟨oc12, od12, .func (PySem.W.fnOf "back" "Shop.back" (defArgs s_Shop_back) (defBody s_Shop_back) (defScope s_Shop_back) .none kV12 dc12 pm12 an12 cd12 ct12), sl12⟩)
    (c12 : PySem.W.codeIn K cd12 "Shop.back" = true)
    (k12 : PySem.W.keepIn K (.ref f12) = true)
    (a13 : PySem.W.nsIn K mainGlobals "do_deed" = some (some (.ref f13)))
    (l13 : K.lookup f13 = some ⟨oc13, od13, .func (PySem.W.fnOf "do_deed" "do_deed" (defArgs s_do_deed) (defBody s_do_deed) (defScope s_do_deed) .none kV13 dc13 pm13 an13 cd13 ct13), sl13⟩)
    (c13 : PySem.W.codeIn K cd13 "do_deed" = true)
    (k13 : PySem.W.keepIn K (.ref f13) = true)
    (a14 : PySem.W.nsIn K mainGlobals "answer_deed" = some (some (.ref f14)))
    (l14 : K.lookup f14 = some ⟨oc14, od14, .func (PySem.W.fnOf "answer_deed" "answer_deed" (defArgs s_answer_deed) (defBody s_answer_deed) (defScope s_answer_deed) .none kV14 dc14 pm14 an14 cd14 ct14), sl14⟩)
    (c14 : PySem.W.codeIn K cd14 "answer_deed" = true)
    (k14 : PySem.W.keepIn K (.ref f14) = true)
    (a15 : PySem.W.findIn K (.ref cShop) "__init__" = some (some (.ref f15)))
    (i15 : PySem.W.isFn K (.ref f15) = true)
    (l15 : K.lookup f15 = some ⟨oc15, od15, .func (PySem.W.fnOf "__init__" "Shop.__init__" (defArgs s_Shop___init__) (defBody s_Shop___init__) (defScope s_Shop___init__) .none kV15 dc15 pm15 an15 cd15 ct15), sl15⟩)
    (c15 : PySem.W.codeIn K cd15 "Shop.__init__" = true)
    (k15 : PySem.W.keepIn K (.ref f15) = true)
    (a16 : PySem.W.nsIn K mainGlobals "states" = some (some (.ref f16)))
    (l16 : K.lookup f16 = some ⟨oc16, od16, .func (PySem.W.fnOf "states" "states" (defArgs s_states) (defBody s_states) (defScope s_states) .none kV16 dc16 pm16 an16 cd16 ct16), sl16⟩)
    (c16 : PySem.W.codeIn K cd16 "states" = true)
    (k16 : PySem.W.keepIn K (.ref f16) = true)
    (a17 : PySem.W.nsIn K mainGlobals "_law_came_by" = some (some (.ref f17)))
    (l17 : K.lookup f17 = some ⟨oc17, od17, .func (PySem.W.fnOf "_law_came_by" "_law_came_by" (defArgs s_came_by) (defBody s_came_by) (defScope s_came_by) .none kV17 dc17 pm17 an17 cd17 ct17), sl17⟩)
    (c17 : PySem.W.codeIn K cd17 "_law_came_by" = true)
    (k17 : PySem.W.keepIn K (.ref f17) = true)
    (a18 : PySem.W.nsIn K mainGlobals "_law_pieces_word" = some (some (.ref f18)))
    (l18 : K.lookup f18 = some ⟨oc18, od18, .func (PySem.W.fnOf "_law_pieces_word" "_law_pieces_word" (defArgs s_pieces_word) (defBody s_pieces_word) (defScope s_pieces_word) .none kV18 dc18 pm18 an18 cd18 ct18), sl18⟩)
    (c18 : PySem.W.codeIn K cd18 "_law_pieces_word" = true)
    (k18 : PySem.W.keepIn K (.ref f18) = true)
    (a19 : PySem.W.nsIn K mainGlobals "_law_order_word" = some (some (.ref f19)))
    (l19 : K.lookup f19 = some ⟨oc19, od19, .func (PySem.W.fnOf "_law_order_word" "_law_order_word" (defArgs s_order_word) (defBody s_order_word) (defScope s_order_word) .none kV19 dc19 pm19 an19 cd19 ct19), sl19⟩)
    (c19 : PySem.W.codeIn K cd19 "_law_order_word" = true)
    (k19 : PySem.W.keepIn K (.ref f19) = true)
    (a20 : PySem.W.nsIn K mainGlobals "_law_refusal_of" = some (some (.ref f20)))
    (l20 : K.lookup f20 = some ⟨oc20, od20, .func (PySem.W.fnOf "_law_refusal_of" "_law_refusal_of" (defArgs s_refusal_of) (defBody s_refusal_of) (defScope s_refusal_of) .none kV20 dc20 pm20 an20 cd20 ct20), sl20⟩)
    (c20 : PySem.W.codeIn K cd20 "_law_refusal_of" = true)
    (k20 : PySem.W.keepIn K (.ref f20) = true)
    (a21 : PySem.W.nsIn K mainGlobals "_law_did" = some (some (.ref f21)))
    (l21 : K.lookup f21 = some ⟨oc21, od21, .func (PySem.W.fnOf "_law_did" "_law_did" (defArgs s_did) (defBody s_did) (defScope s_did) .none kV21 dc21 pm21 an21 cd21 ct21), sl21⟩)
    (c21 : PySem.W.codeIn K cd21 "_law_did" = true)
    (k21 : PySem.W.keepIn K (.ref f21) = true)
    (a22 : PySem.W.nsIn K mainGlobals "_law_first_deeds" = some (some (.ref f22)))
    (l22 : K.lookup f22 = some ⟨oc22, od22, .func (PySem.W.fnOf "_law_first_deeds" "_law_first_deeds" (defArgs s_first_deeds) (defBody s_first_deeds) (defScope s_first_deeds) .none kV22 dc22 pm22 an22 cd22 ct22), sl22⟩)
    (c22 : PySem.W.codeIn K cd22 "_law_first_deeds" = true)
    (k22 : PySem.W.keepIn K (.ref f22) = true)
    (a23 : PySem.W.nsIn K mainGlobals "_law_deeds" = some (some (.ref f23)))
    (l23 : K.lookup f23 = some ⟨oc23, od23, .func (PySem.W.fnOf "_law_deeds" "_law_deeds" (defArgs s_deeds) (defBody s_deeds) (defScope s_deeds) .none kV23 dc23 pm23 an23 cd23 ct23), sl23⟩)
    (c23 : PySem.W.codeIn K cd23 "_law_deeds" = true)
    (k23 : PySem.W.keepIn K (.ref f23) = true)
    (a24 : PySem.W.nsIn K mainGlobals "_law_whole" = some (some (.ref f24)))
    (l24 : K.lookup f24 = some ⟨oc24, od24, .func (PySem.W.fnOf "_law_whole" "_law_whole" (defArgs s_whole) (defBody s_whole) (defScope s_whole) .none kV24 dc24 pm24 an24 cd24 ct24), sl24⟩)
    (c24 : PySem.W.codeIn K cd24 "_law_whole" = true)
    (k24 : PySem.W.keepIn K (.ref f24) = true)
    (a25 : PySem.W.nsIn K mainGlobals "_law_at" = some (some (.ref f25)))
    (l25 : K.lookup f25 = some ⟨oc25, od25, .func (PySem.W.fnOf "_law_at" "_law_at" (defArgs s_at) (defBody s_at) (defScope s_at) .none kV25 dc25 pm25 an25 cd25 ct25), sl25⟩)
    (c25 : PySem.W.codeIn K cd25 "_law_at" = true)
    (k25 : PySem.W.keepIn K (.ref f25) = true)
    (a26 : PySem.W.nsIn K mainGlobals "_law_shop_of" = some (some (.ref f26)))
    (l26 : K.lookup f26 = some ⟨oc26, od26, .func (PySem.W.fnOf "_law_shop_of" "_law_shop_of" (defArgs s_shop_of) (defBody s_shop_of) (defScope s_shop_of) .none kV26 dc26 pm26 an26 cd26 ct26), sl26⟩)
    (c26 : PySem.W.codeIn K cd26 "_law_shop_of" = true)
    (k26 : PySem.W.keepIn K (.ref f26) = true)
    (a27 : PySem.W.nsIn K mainGlobals "_law_prices_of" = some (some (.ref f27)))
    (l27 : K.lookup f27 = some ⟨oc27, od27, .func (PySem.W.fnOf "_law_prices_of" "_law_prices_of" (defArgs s_prices_of) (defBody s_prices_of) (defScope s_prices_of) .none kV27 dc27 pm27 an27 cd27 ct27), sl27⟩)
    (c27 : PySem.W.codeIn K cd27 "_law_prices_of" = true)
    (k27 : PySem.W.keepIn K (.ref f27) = true)
    (a28 : PySem.W.nsIn K mainGlobals "_law_answers_of" = some (some (.ref f28)))
    (l28 : K.lookup f28 = some ⟨oc28, od28, .func (PySem.W.fnOf "_law_answers_of" "_law_answers_of" (defArgs s_answers_of) (defBody s_answers_of) (defScope s_answers_of) .none kV28 dc28 pm28 an28 cd28 ct28), sl28⟩)
    (c28 : PySem.W.codeIn K cd28 "_law_answers_of" = true)
    (k28 : PySem.W.keepIn K (.ref f28) = true)
    (a29 : PySem.W.nsIn K mainGlobals "_law_row_of" = some (some (.ref f29)))
    (l29 : K.lookup f29 = some ⟨oc29, od29, .func (PySem.W.fnOf "_law_row_of" "_law_row_of" (defArgs s_row_of) (defBody s_row_of) (defScope s_row_of) .none kV29 dc29 pm29 an29 cd29 ct29), sl29⟩)
    (c29 : PySem.W.codeIn K cd29 "_law_row_of" = true)
    (k29 : PySem.W.keepIn K (.ref f29) = true)
    (a30 : PySem.W.nsIn K mainGlobals "_law_are_states" = some (some (.ref f30)))
    (l30 : K.lookup f30 = some ⟨oc30, od30, .func (PySem.W.fnOf "_law_are_states" "_law_are_states" (defArgs s_are_states) (defBody s_are_states) (defScope s_are_states) .none kV30 dc30 pm30 an30 cd30 ct30), sl30⟩)
    (c30 : PySem.W.codeIn K cd30 "_law_are_states" = true)
    (k30 : PySem.W.keepIn K (.ref f30) = true)
    (a31 : PySem.W.nsIn K mainGlobals "law" = some (some (.ref f31)))
    (l31 : K.lookup f31 = some ⟨oc31, od31, .func (PySem.W.fnOf "law" "law" (defArgs s_law) (defBody s_law) (defScope s_law) .none kV31 dc31 pm31 an31 cd31 ct31), sl31⟩)
    (c31 : PySem.W.codeIn K cd31 "law" = true)
    (k31 : PySem.W.keepIn K (.ref f31) = true) :
    ∃ fd : FuncData, (∀ (s : Shared) (v : Value), BindsTo s fd ⟨[v], []⟩ [("_law_script", v)]) ∧ ∀ base : Heap, K.In base → base.Ns mainGlobals mg → FnOk l.prog w K mg base CX0 21 fa fd ["_law_script"] (sp_law K) := by
  have e := hfa.symm.trans (PySem.W.mg_of X G a31)
  cases e
  have B : Bl mg := bl_mk X G bl0 bl1 bl2 bl3 bl4 bl5 bl6 bl7 bl8 bl9
  let c : Cs := ⟨cShop, cOrder, cSale, cNoKind, cNoOrder, cNoSale, cNoMany, cTooMany, cTooFew, cBroke⟩
  have T : Txt K mg c := ⟨PySem.W.mg_of X G mShop, PySem.W.mg_of X G mOrder, PySem.W.mg_of X G mSale, PySem.W.mg_of X G mNoKind, PySem.W.mg_of X G mNoOrder, PySem.W.mg_of X G mNoSale, PySem.W.mg_of X G mNoMany, PySem.W.mg_of X G mTooMany, PySem.W.mg_of X G mTooFew, PySem.W.mg_of X G mBroke, ⟨⟨_, mNoKind⟩, xNoKind⟩, ⟨⟨_, mNoOrder⟩, xNoOrder⟩, ⟨⟨_, mNoSale⟩, xNoSale⟩, ⟨⟨_, mNoMany⟩, xNoMany⟩, ⟨⟨_, mTooMany⟩, xTooMany⟩, ⟨⟨_, mTooFew⟩, xTooFew⟩, ⟨⟨_, mBroke⟩, xBroke⟩, ⟨pgShop, hdShop, poShop, saShop⟩, ⟨pgOrder, hdOrder, poOrder, saOrder⟩, ⟨pgSale, hdSale, poSale, saSale⟩, nShop_till, nShop_prices, nShop_shelf, nShop_owed, nShop_orders, nShop_sales, nShop_entries, nOrder_kind, nOrder_price, nOrder_owed, nSale_kind, nSale_out⟩
  have M : Exm K c := fun w v hv => by
    cases w <;> cases v <;> first | exact absurd hv (by decide) | exact e0_0 | exact e1_0 | exact e1_1 | exact e2_0 | exact e2_1 | exact e2_2 | exact e3_0 | exact e3_1 | exact e3_2 | exact e3_3 | exact e4_0 | exact e4_1 | exact e4_2 | exact e4_3 | exact e4_4 | exact e5_0 | exact e5_1 | exact e5_2 | exact e5_3 | exact e5_4 | exact e5_5 | exact e6_0 | exact e6_1 | exact e6_2 | exact e6_3 | exact e6_4 | exact e6_5 | exact e6_6
  have U0 := fun_mk (st := s_check_pieces) l0 c0 k0
  have b0 := U0.binds (ps := ["out", "pieces", "bad"]) fun _ _ _ _ _ _ us hl => by obtain ⟨a, b, c, rfl⟩ := us3 hl; rfl
  have U1 := fun_mk (st := s_Order___init__) l1 c1 k1
  have b1 := U1.binds (ps := ["self", "kind", "pieces", "price"]) fun _ _ _ _ _ _ us hl => by obtain ⟨a, b, c, d, rfl⟩ := us4 hl; rfl
  have U2 := fun_mk (st := s_Sale___init__) l2 c2 k2
  have b2 := U2.binds (ps := ["self", "kind", "pieces"]) fun _ _ _ _ _ _ us hl => by obtain ⟨a, b, c, rfl⟩ := us3 hl; rfl
  have U3 := fun_mk (st := s_Shop_check_kind) l3 c3 k3
  have b3 := U3.binds (ps := ["self", "kind"]) fun _ _ _ _ _ _ us hl => by obtain ⟨a, b, rfl⟩ := us2 hl; rfl
  have U4 := fun_mk (st := s_Shop_find_order) l4 c4 k4
  have b4 := U4.binds (ps := ["self", "order"]) fun _ _ _ _ _ _ us hl => by obtain ⟨a, b, rfl⟩ := us2 hl; rfl
  have U5 := fun_mk (st := s_Shop_find_sale) l5 c5 k5
  have b5 := U5.binds (ps := ["self", "sale"]) fun _ _ _ _ _ _ us hl => by obtain ⟨a, b, rfl⟩ := us2 hl; rfl
  have U6 := fun_mk (st := s_Shop_check_till) l6 c6 k6
  have b6 := U6.binds (ps := ["self", "coins"]) fun _ _ _ _ _ _ us hl => by obtain ⟨a, b, rfl⟩ := us2 hl; rfl
  have U7 := fun_mk (st := s_Shop_strike_off) l7 c7 k7
  have b7 := U7.binds (ps := ["self", "ordered", "pieces"]) fun _ _ _ _ _ _ us hl => by obtain ⟨a, b, c, rfl⟩ := us3 hl; rfl
  have U8 := fun_mk (st := s_Shop_order) l8 c8 k8
  have b8 := U8.binds (ps := ["self", "kind", "pieces", "price"]) fun _ _ _ _ _ _ us hl => by obtain ⟨a, b, c, d, rfl⟩ := us4 hl; rfl
  have U9 := fun_mk (st := s_Shop_came) l9 c9 k9
  have b9 := U9.binds (ps := ["self", "order", "pieces", "bad"]) fun _ _ _ _ _ _ us hl => by obtain ⟨a, b, c, d, rfl⟩ := us4 hl; rfl
  have U10 := fun_mk (st := s_Shop_give_up) l10 c10 k10
  have b10 := U10.binds (ps := ["self", "order"]) fun _ _ _ _ _ _ us hl => by obtain ⟨a, b, rfl⟩ := us2 hl; rfl
  have U11 := fun_mk (st := s_Shop_sell) l11 c11 k11
  have b11 := U11.binds (ps := ["self", "kind", "pieces"]) fun _ _ _ _ _ _ us hl => by obtain ⟨a, b, c, rfl⟩ := us3 hl; rfl
  have U12 := fun_mk (st := s_Shop_back) l12 c12 k12
  have b12 := U12.binds (ps := ["self", "sale", "pieces"]) fun _ _ _ _ _ _ us hl => by obtain ⟨a, b, c, rfl⟩ := us3 hl; rfl
  have U13 := fun_mk (st := s_do_deed) l13 c13 k13
  have b13 := U13.binds (ps := ["shop", "deed"]) fun _ _ _ _ _ _ us hl => by obtain ⟨a, b, rfl⟩ := us2 hl; rfl
  have U14 := fun_mk (st := s_answer_deed) l14 c14 k14
  have b14 := U14.binds (ps := ["shop", "deed"]) fun _ _ _ _ _ _ us hl => by obtain ⟨a, b, rfl⟩ := us2 hl; rfl
  have U15 := fun_mk (st := s_Shop___init__) l15 c15 k15
  have b15 := U15.binds (ps := ["self", "till", "prices"]) fun _ _ _ _ _ _ us hl => by obtain ⟨a, b, c, rfl⟩ := us3 hl; rfl
  have U16 := fun_mk (st := s_states) l16 c16 k16
  have b16 := U16.binds (ps := ["till", "prices", "deeds"]) fun _ _ _ _ _ _ us hl => by obtain ⟨a, b, c, rfl⟩ := us3 hl; rfl
  have U17 := fun_mk (st := s_came_by) l17 c17 k17
  have b17 := U17.binds (ps := ["_law_rest", "_law_salt", "_law_more", "_law_made", "_law_k"]) fun _ _ _ _ _ _ us hl => by obtain ⟨a, b, c, d, e, rfl⟩ := us5 hl; rfl
  have U18 := fun_mk (st := s_pieces_word) l18 c18 k18
  have b18 := U18.binds (ps := ["_law_out", "_law_pieces", "_law_bad"]) fun _ _ _ _ _ _ us hl => by obtain ⟨a, b, c, rfl⟩ := us3 hl; rfl
  have U19 := fun_mk (st := s_order_word) l19 c19 k19
  have b19 := U19.binds (ps := ["_law_shop", "_law_deed"]) fun _ _ _ _ _ _ us hl => by obtain ⟨a, b, rfl⟩ := us2 hl; rfl
  have U20 := fun_mk (st := s_refusal_of) l20 c20 k20
  have b20 := U20.binds (ps := ["_law_shop", "_law_deed"]) fun _ _ _ _ _ _ us hl => by obtain ⟨a, b, rfl⟩ := us2 hl; rfl
  have U21 := fun_mk (st := s_did) l21 c21 k21
  have b21 := U21.binds (ps := ["_law_shop", "_law_deed", "_law_prices"]) fun _ _ _ _ _ _ us hl => by obtain ⟨a, b, c, rfl⟩ := us3 hl; rfl
  have U22 := fun_mk (st := s_first_deeds) l22 c22 k22
  have b22 := U22.binds (ps := ["_law_kinds"]) fun _ _ _ _ _ _ us hl => by obtain ⟨a, rfl⟩ := us1 hl; rfl
  have U23 := fun_mk (st := s_deeds) l23 c23 k23
  have b23 := U23.binds (ps := ["_law_cells", "_law_kinds"]) fun _ _ _ _ _ _ us hl => by obtain ⟨a, b, rfl⟩ := us2 hl; rfl
  have U24 := fun_mk (st := s_whole) l24 c24 k24
  have b24 := U24.binds (ps := ["_law_found"]) fun _ _ _ _ _ _ us hl => by obtain ⟨a, rfl⟩ := us1 hl; rfl
  have U25 := fun_mk (st := s_at) l25 c25 k25
  have b25 := U25.binds (ps := ["_law_script", "_law_k"]) fun _ _ _ _ _ _ us hl => by obtain ⟨a, b, rfl⟩ := us2 hl; rfl
  have U26 := fun_mk (st := s_shop_of) l26 c26 k26
  have b26 := U26.binds (ps := ["_law_till", "_law_kinds"]) fun _ _ _ _ _ _ us hl => by obtain ⟨a, b, rfl⟩ := us2 hl; rfl
  have U27 := fun_mk (st := s_prices_of) l27 c27 k27
  have b27 := U27.binds (ps := ["_law_cell", "_law_kinds"]) fun _ _ _ _ _ _ us hl => by obtain ⟨a, b, rfl⟩ := us2 hl; rfl
  have U28 := fun_mk (st := s_answers_of) l28 c28 k28
  have b28 := U28.binds (ps := ["_law_till", "_law_prices", "_law_asked"]) fun _ _ _ _ _ _ us hl => by obtain ⟨a, b, c, rfl⟩ := us3 hl; rfl
  have U29 := fun_mk (st := s_row_of) l29 c29 k29
  have b29 := U29.binds (ps := ["_law_found", "_law_kinds"]) fun _ _ _ _ _ _ us hl => by obtain ⟨a, b, rfl⟩ := us2 hl; rfl
  have U30 := fun_mk (st := s_are_states) l30 c30 k30
  have b30 := U30.binds (ps := ["_law_found", "_law_count", "_law_kinds"]) fun _ _ _ _ _ _ us hl => by obtain ⟨a, b, c, rfl⟩ := us3 hl; rfl
  have U31 := fun_mk (st := s_law) l31 c31 k31
  have b31 := U31.binds (ps := ["_law_script"]) fun _ _ _ _ _ _ us hl => by obtain ⟨a, rfl⟩ := us1 hl; rfl
  refine ⟨PySem.W.fnOf "law" "law" (defArgs s_law) (defBody s_law) (defScope s_law) .none kV31 dc31 pm31 an31 cd31 ct31, fun s v => .of_eq rfl, fun base _ _ => ?_⟩
  have F_at : Fn l.prog w K mg base CX0 "_law_at" 1 ["_law_script", "_law_k"] (sp_at K) := ⟨_, _, ((ok_at (P := l.prog) (w := w) (mg := mg) (base := base)  U25 (B := B))).mono (by decide), PySem.W.mg_of X G a25, k25, b25⟩
  have F_prices_of : Fn l.prog w K mg base CX0 "_law_prices_of" 1 ["_law_cell", "_law_kinds"] sp_prices_of := ⟨_, _, ((ok_prices_of (P := l.prog) (w := w) (mg := mg) (base := base)  U27 (B := B))).mono (by decide), PySem.W.mg_of X G a27, k27, b27⟩
  have F_came_by : Fn l.prog w K mg base CX0 "_law_came_by" 1 ["_law_rest", "_law_salt", "_law_more", "_law_made", "_law_k"] sp_came_by := ⟨_, _, ((ok_came_by (P := l.prog) (w := w) (mg := mg) (base := base)  U17 (B := B))).mono (by decide), PySem.W.mg_of X G a17, k17, b17⟩
  have F_deeds : Fn l.prog w K mg base CX0 "_law_deeds" 2 ["_law_cells", "_law_kinds"] sp_deeds := ⟨_, _, ((ok_deeds (P := l.prog) (w := w) (mg := mg) (base := base)  U23 (B := B) (F_came_by := F_came_by))).mono (by decide), PySem.W.mg_of X G a23, k23, b23⟩
  have F_first_deeds : Fn l.prog w K mg base CX0 "_law_first_deeds" 1 ["_law_kinds"] sp_first_deeds := ⟨_, _, ((ok_first_deeds (P := l.prog) (w := w) (mg := mg) (base := base)  U22 (B := B))).mono (by decide), PySem.W.mg_of X G a22, k22, b22⟩
  have F_Shop : Mc l.prog w K mg base CX0 c.shop 1 ["self", "till", "prices"] (sp_Shop c) := ⟨_, _, ((ok_Shop (P := l.prog) (w := w) (mg := mg) (base := base) (c := c) U15 (B := B) (T := T))).mono (by decide), ⟨mkShop, a15, i15, kcShop⟩, b15⟩
  have F_Shop_check_kind : Mt l.prog w K mg base (CXK l.prog w) c.shop "check_kind" 1 ["self", "kind"] (sp_check_kind c) := ⟨_, _, ((ok_check_kind (P := l.prog) (w := w) (mg := mg) (base := base) (c := c) U3 (B := B) (T := T))).mono (by decide), ⟨a3, i3, k3⟩, b3⟩
  have F_Order : Mc l.prog w K mg base CX0 c.order 1 ["self", "kind", "pieces", "price"] (sp_Order c) := ⟨_, _, ((ok_Order (P := l.prog) (w := w) (mg := mg) (base := base) (c := c) U1 (T := T))).mono (by decide), ⟨mkOrder, a1, i1, kcOrder⟩, b1⟩
  have F_Shop_order : Mt l.prog w K mg base (CXK l.prog w) c.shop "order" 3 ["self", "kind", "pieces", "price"] (sp_order c) := ⟨_, _, ((ok_order (P := l.prog) (w := w) (mg := mg) (base := base) (c := c) U8 (B := B) (T := T) (F_Shop_check_kind := F_Shop_check_kind) (F_Order := F_Order))).mono (by decide), ⟨a8, i8, k8⟩, b8⟩
  have F_Shop_find_order : Mt l.prog w K mg base (CXK l.prog w) c.shop "find_order" 1 ["self", "order"] (sp_find_order c) := ⟨_, _, ((ok_find_order (P := l.prog) (w := w) (mg := mg) (base := base) (c := c) U4 (B := B) (T := T))).mono (by decide), ⟨a4, i4, k4⟩, b4⟩
  have F_check_pieces : Fn l.prog w K mg base (CXK l.prog w) "check_pieces" 1 ["out", "pieces", "bad"] (sp_check_pieces c) := ⟨_, _, ((ok_check_pieces (P := l.prog) (w := w) (mg := mg) (base := base) (c := c) U0 (T := T))).mono (by decide), PySem.W.mg_of X G a0, k0, b0⟩
  have F_Shop_check_till : Mt l.prog w K mg base (CXK l.prog w) c.shop "check_till" 1 ["self", "coins"] (sp_check_till c) := ⟨_, _, ((ok_check_till (P := l.prog) (w := w) (mg := mg) (base := base) (c := c) U6 (T := T))).mono (by decide), ⟨a6, i6, k6⟩, b6⟩
  have F_Shop_strike_off : Mt l.prog w K mg base (CXK l.prog w) c.shop "strike_off" 1 ["self", "ordered", "pieces"] (sp_strike_off c) := ⟨_, _, ((ok_strike_off (P := l.prog) (w := w) (mg := mg) (base := base) (c := c) U7 (T := T)).toK).mono (by decide), ⟨a7, i7, k7⟩, b7⟩
  have F_Shop_came : Mt l.prog w K mg base (CXK l.prog w) c.shop "came" 3 ["self", "order", "pieces", "bad"] (sp_came c) := ⟨_, _, ((ok_came (P := l.prog) (w := w) (mg := mg) (base := base) (c := c) U9 (B := B) (T := T) (F_Shop_find_order := F_Shop_find_order) (F_check_pieces := F_check_pieces) (F_Shop_check_till := F_Shop_check_till) (F_Shop_strike_off := F_Shop_strike_off))).mono (by decide), ⟨a9, i9, k9⟩, b9⟩
  have F_Shop_give_up : Mt l.prog w K mg base (CXK l.prog w) c.shop "give_up" 3 ["self", "order"] (sp_give_up c) := ⟨_, _, ((ok_give_up (P := l.prog) (w := w) (mg := mg) (base := base) (c := c) U10 (B := B) (T := T) (F_Shop_find_order := F_Shop_find_order) (F_Shop_strike_off := F_Shop_strike_off))).mono (by decide), ⟨a10, i10, k10⟩, b10⟩
  have F_Sale : Mc l.prog w K mg base CX0 c.sale 1 ["self", "kind", "pieces"] (sp_Sale c) := ⟨_, _, ((ok_Sale (P := l.prog) (w := w) (mg := mg) (base := base) (c := c) U2 (T := T))).mono (by decide), ⟨mkSale, a2, i2, kcSale⟩, b2⟩
  have F_Shop_sell : Mt l.prog w K mg base (CXK l.prog w) c.shop "sell" 3 ["self", "kind", "pieces"] (sp_sell c) := ⟨_, _, ((ok_sell (P := l.prog) (w := w) (mg := mg) (base := base) (c := c) U11 (B := B) (T := T) (F_Shop_check_kind := F_Shop_check_kind) (F_Sale := F_Sale))).mono (by decide), ⟨a11, i11, k11⟩, b11⟩
  have F_Shop_find_sale : Mt l.prog w K mg base (CXK l.prog w) c.shop "find_sale" 1 ["self", "sale"] (sp_find_sale c) := ⟨_, _, ((ok_find_sale (P := l.prog) (w := w) (mg := mg) (base := base) (c := c) U5 (B := B) (T := T))).mono (by decide), ⟨a5, i5, k5⟩, b5⟩
  have F_Shop_back : Mt l.prog w K mg base (CXK l.prog w) c.shop "back" 3 ["self", "sale", "pieces"] (sp_back c) := ⟨_, _, ((ok_back (P := l.prog) (w := w) (mg := mg) (base := base) (c := c) U12 (B := B) (T := T) (F_Shop_find_sale := F_Shop_find_sale) (F_check_pieces := F_check_pieces) (F_Shop_check_till := F_Shop_check_till))).mono (by decide), ⟨a12, i12, k12⟩, b12⟩
  have F_do_deed : Fn l.prog w K mg base (CXK l.prog w) "do_deed" 4 ["shop", "deed"] (sp_do_deed c) := ⟨_, _, ((ok_do_deed (P := l.prog) (w := w) (mg := mg) (base := base) (c := c) U13 (T := T) (F_Shop_order := F_Shop_order) (F_Shop_came := F_Shop_came) (F_Shop_give_up := F_Shop_give_up) (F_Shop_sell := F_Shop_sell) (F_Shop_back := F_Shop_back))).mono (by decide), PySem.W.mg_of X G a13, k13, b13⟩
  have F_answer_deed : Fn l.prog w K mg base CX0 "answer_deed" 5 ["shop", "deed"] (sp_answer_deed c) := ⟨_, _, ((ok_answer_deed (P := l.prog) (w := w) (mg := mg) (base := base) (c := c) U14 (T := T) (M := M) (F_do_deed := F_do_deed))).mono (by decide), PySem.W.mg_of X G a14, k14, b14⟩
  have F_states : Fn l.prog w K mg base CX0 "states" 15 ["till", "prices", "deeds"] sp_states := ⟨_, _, ((ok_states (P := l.prog) (w := w) (mg := mg) (base := base) (c := c) U16 (B := B) (T := T) (F_Shop := F_Shop) (F_answer_deed := F_answer_deed))).mono (by decide), PySem.W.mg_of X G a16, k16, b16⟩
  have F_shop_of : Fn l.prog w K mg base CX0 "_law_shop_of" 1 ["_law_till", "_law_kinds"] sp_shop_of := ⟨_, _, ((ok_shop_of (P := l.prog) (w := w) (mg := mg) (base := base)  U26 (B := B))).mono (by decide), PySem.W.mg_of X G a26, k26, b26⟩
  have F_pieces_word : Fn l.prog w K mg base CX0 "_law_pieces_word" 1 ["_law_out", "_law_pieces", "_law_bad"] sp_pieces_word := ⟨_, _, ((ok_pieces_word (P := l.prog) (w := w) (mg := mg) (base := base)  U18 )).mono (by decide), PySem.W.mg_of X G a18, k18, b18⟩
  have F_order_word : ∀ n, Fn l.prog w K mg base CX0 "_law_order_word" 2 ["_law_shop", "_law_deed"] (sp_order_word n) := fun n => ⟨_, _, ((ok_order_word (P := l.prog) (w := w) (mg := mg) (base := base) (n := n) U19 (B := B) (F_pieces_word := F_pieces_word))).mono (by decide), PySem.W.mg_of X G a19, k19, b19⟩
  have F_refusal_of : Fn l.prog w K mg base CX0 "_law_refusal_of" 3 ["_law_shop", "_law_deed"] (spEx sp_refusal_of) := ⟨_, _, FnOk.spEx fun n => ((ok_refusal_of (P := l.prog) (w := w) (mg := mg) (base := base) (n := n) U20 (B := B) (F_pieces_word := F_pieces_word) (F_order_word := F_order_word n))).mono (by decide), PySem.W.mg_of X G a20, k20, b20⟩
  have F_did : Fn l.prog w K mg base CX0 "_law_did" 1 ["_law_shop", "_law_deed", "_law_prices"] (spEx sp_did) := ⟨_, _, FnOk.spEx fun n => ((ok_did (P := l.prog) (w := w) (mg := mg) (base := base) (n := n) U21 (B := B))).mono (by decide), PySem.W.mg_of X G a21, k21, b21⟩
  have F_answers_of : Fn l.prog w K mg base CX0 "_law_answers_of" 5 ["_law_till", "_law_prices", "_law_asked"] sp_answers_of := ⟨_, _, ((ok_answers_of (P := l.prog) (w := w) (mg := mg) (base := base)  U28 (B := B) (F_shop_of := F_shop_of) (F_refusal_of := F_refusal_of) (F_did := F_did))).mono (by decide), PySem.W.mg_of X G a28, k28, b28⟩
  have F_whole : Fn l.prog w K mg base CX0 "_law_whole" 1 ["_law_found"] sp_whole := ⟨_, _, ((ok_whole (P := l.prog) (w := w) (mg := mg) (base := base)  U24 (B := B))).mono (by decide), PySem.W.mg_of X G a24, k24, b24⟩
  have F_row_of : Fn l.prog w K mg base CX0 "_law_row_of" 2 ["_law_found", "_law_kinds"] sp_row_of := ⟨_, _, ((ok_row_of (P := l.prog) (w := w) (mg := mg) (base := base)  U29 (B := B) (F_whole := F_whole))).mono (by decide), PySem.W.mg_of X G a29, k29, b29⟩
  have F_are_states : Fn l.prog w K mg base CX0 "_law_are_states" 3 ["_law_found", "_law_count", "_law_kinds"] sp_are_states := ⟨_, _, ((ok_are_states (P := l.prog) (w := w) (mg := mg) (base := base)  U30 (B := B) (F_whole := F_whole) (F_row_of := F_row_of))).mono (by decide), PySem.W.mg_of X G a30, k30, b30⟩
  exact ok_law U31 (B := B) (F_at := F_at) (F_prices_of := F_prices_of) (F_deeds := F_deeds) (F_first_deeds := F_first_deeds) (F_states := F_states) (F_answers_of := F_answers_of) (F_are_states := F_are_states) (F_whole := F_whole)
theorem walk {l : PySem.W.OpenLaw} {q : Program} {loose : List Str} {XP : (Str → Option Value) → Heap → Prop} {YP : World → Heap → Prop} {d : DefRec} {K : Params → PySem.W.Frag} (hn : l.most = some 63) (hdf : d.params.defaults = [])
    (hY : ∀ (w : World) (h : Heap), YP w h → (K w.params).In h)
    (F : ∀ (w : World) (mg : Str → Option Value) (fa : Addr) (h : Heap), (K w.params).In h → h.Ns mainGlobals mg → mg d.name = some (.ref fa) →
      ∃ fd : FuncData, (∀ (s : Shared) (u : Value), BindsTo s fd ⟨[u], []⟩ [("_law_script", u)]) ∧ ∀ base : Heap, (K w.params).In base → base.Ns mainGlobals mg → FnOk l.prog w (K w.params) mg base CX0 21 fa fd ["_law_script"] (sp_law (K w.params))) :
    PySem.W.WalkO q loose XP YP l.row.toRowW d [] (fun f vs => PySem.call f vs) :=
  L2.walk_of (n := 63) (k := 21) (x := "_law_script") (CX := fun _ => CX0) (sp := fun w => sp_law (K w.params)) hn (by decide) hdf ⟨rfl, by decide, by decide⟩ hY F (fun _ _ a ns hl _ hS => ⟨a, ns, rfl, hS, hl, fun _ => rfl⟩) fun _ _ _ _ _ z => z
end T2
def PySem.W.Fast.tw17461500873444566527 : PySem.Program := PySem.Challenge.pw_shelfbook_k03_whole_pieces
theorem PySem.W.Fast.te17461500873444566527 : PySem.Challenge.pw_shelfbook_k03_whole_pieces = PySem.W.Fast.tw17461500873444566527 := rfl
theorem PySem.W.Fast.tw10129577952544869660 : True := trivial
theorem PySem.W.Fast.tw14706935054759041881 : True := trivial
theorem PySem.W.Fast.tw16079192325507193348 : True := trivial
theorem PySem.W.Fast.tw958408060633999624 : True := trivial
theorem PySem.W.Fast.tw6259089549162192506 : True := trivial
theorem PySem.W.Fast.tw12623166319963606209 : True := trivial
theorem PySem.W.Fast.tw6302327067758424374 : True := trivial
theorem PySem.W.Fast.tw3381959988254999842 : True := trivial
theorem PySem.W.Fast.tw68406684929781657 : True := trivial
theorem PySem.W.Fast.tw15094411009023609045 : True := trivial
theorem PySem.W.Fast.tw8235658168256391213 : True := trivial
theorem PySem.W.Fast.tw1244503360540896369 : True := trivial
theorem PySem.W.Fast.tw17218727880262028848 : True := trivial
theorem PySem.W.Fast.tw9426192683328625047 : True := trivial
theorem PySem.W.Fast.tw1929922521455067624 : True := trivial
theorem PySem.W.Fast.tw17222098162366116203 : True := trivial
theorem PySem.W.Fast.tw3373313089705691028 : True := trivial
theorem PySem.W.Fast.tw2808054816921312597 : True := trivial
theorem PySem.W.Fast.tw7975379600249226742 : True := trivial
theorem PySem.W.Fast.tw8294544856824466448 : True := trivial
theorem PySem.W.Fast.tw17204657367577051898 : True := trivial
theorem PySem.W.Fast.tw7499391048615344860 : True := trivial
theorem PySem.W.Fast.tw8216297104147088121 : True := trivial
theorem PySem.W.Fast.tw18070406109472624832 : True := trivial
theorem PySem.W.Fast.tw6276476252436294031 : True := trivial
theorem PySem.W.Fast.tw15427405933627578876 : True := trivial
theorem PySem.W.Fast.tw17852718673442567531 : True := trivial
theorem PySem.W.Fast.tw13122519009266631265 : True := trivial
theorem PySem.W.Fast.tw17408107573107898644 : True := trivial
theorem PySem.W.Fast.tw12965958588821207057 : True := trivial
theorem PySem.W.Fast.tw12231980150933980607 : True := trivial
theorem PySem.W.Fast.tw7073526573516813268 : True := trivial
theorem PySem.W.Fast.tw1092699487707316934 : True := trivial
theorem PySem.W.Fast.tw5787644556572631374 : True := trivial
theorem PySem.W.Fast.tw12002859408745625487 : True := trivial
theorem PySem.W.Fast.tw8741355448118931469 : True := trivial
theorem PySem.W.Fast.tw11862512844427356281 : True := trivial
theorem PySem.W.Fast.tw13576408832933268512 : True := trivial
theorem PySem.W.Fast.tw1500576443282761106 : True := trivial
theorem PySem.W.Fast.tw8764515611791973410 : True := trivial
theorem PySem.W.Fast.tw3956280478134523064 : True := trivial
theorem PySem.W.Fast.tw12676105845344118825 : True := trivial
theorem PySem.W.Fast.tw765445664429281499 : True := trivial
theorem PySem.W.Fast.tw8839639072455765286 : True := trivial
theorem PySem.W.Fast.tw1023179865473634177 : True := trivial
theorem PySem.W.Fast.tw3010396590446287119 : True := trivial
theorem PySem.W.Fast.tw7120402871191363877 : True := trivial
theorem PySem.W.Fast.tw876155981594827162 : True := trivial
theorem PySem.W.Fast.tw14337396031450023444 : True := trivial
theorem PySem.W.Fast.tw12615239046426435087 : True := trivial
theorem PySem.W.Fast.tw7473307967062101032 : True := trivial
theorem PySem.W.Fast.tw127217665601438861 : True := trivial
theorem PySem.W.Fast.tw2063101596604948895 : True := trivial
theorem PySem.W.Fast.tw13382143319227231898 : True := trivial
theorem PySem.W.Fast.tw10674758015896200316 : True := trivial
theorem PySem.W.Fast.tw12673722419073860645 : True := trivial
theorem PySem.W.Fast.tw3040229707201930880 : True := trivial
theorem PySem.W.Fast.tw11124746371472233793 : True := trivial
theorem PySem.W.Fast.tw6678316101413278953 : True := trivial
theorem PySem.W.Fast.tw8862321414220362703 : True := trivial
theorem PySem.W.Fast.tw10760903845190144104 : True := trivial
theorem PySem.W.Fast.tw7429974189862264616 : True := trivial
theorem PySem.W.Fast.tw13446615396105446730 : True := trivial
theorem PySem.W.Fast.tw13618410012307454624 : True := trivial
theorem PySem.W.Fast.tw5992328275559458641 : True := trivial
theorem PySem.W.Fast.tw7007474038075053391 : True := trivial
theorem PySem.W.Fast.tw9719820187886095357 : True := trivial
theorem PySem.W.Fast.tw1375476059194017249 : True := trivial
theorem PySem.W.Fast.tw16836059838905715616 : True := trivial
theorem PySem.W.Fast.tw8730241923657423172 : True := trivial
theorem PySem.W.Fast.tw9830855618272837557 : True := trivial
theorem PySem.W.Fast.tw11586585667884748754 : True := trivial
theorem PySem.W.Fast.tw17161007033283574024 : True := trivial
theorem PySem.W.Fast.tw8732236519539701751 : True := trivial
theorem PySem.W.Fast.tw8970050883006300246 : True := trivial
theorem PySem.W.Fast.tw17190972856393402063 : True := trivial
theorem PySem.W.Fast.tw7445950237627040356 : True := trivial
theorem PySem.W.Fast.tw8472502629139953752 : True := trivial
theorem PySem.W.Fast.tw4693742929276039753 : True := trivial
theorem PySem.W.Fast.tw15302576030112782155 : True := trivial
theorem PySem.W.Fast.tw10039033437159530232 : True := trivial
theorem PySem.W.Fast.tw4482676080982617482 : True := trivial
theorem PySem.W.Fast.tw13872090152796442855 : True := trivial
theorem PySem.W.Fast.tw17838580267053793600 : True := trivial
theorem PySem.W.Fast.tw13247601330931014960 : True := trivial
theorem PySem.W.Fast.tw7180628090000711684 : True := trivial
theorem PySem.W.Fast.tw16524208609567250219 : True := trivial
theorem PySem.W.Fast.tw14950258111635497970 : True := trivial
theorem PySem.W.Fast.tw18222013069781342204 : True := trivial
theorem PySem.W.Fast.tw8224778584421756785 : True := trivial
theorem PySem.W.Fast.tw942589517723194664 : True := trivial
theorem PySem.W.Fast.tw4191845131599988681 : True := trivial
theorem PySem.W.Fast.tw10312012907020926465 : True := trivial
theorem PySem.W.Fast.tw163781082496053343 : True := trivial
theorem PySem.W.Fast.tw16689855516842269729 : True := trivial
theorem PySem.W.Fast.tw11012654413344509356 : True := trivial
theorem PySem.W.Fast.tw13369977827579161615 : True := trivial
theorem PySem.W.Fast.tw16439932117973673873 : True := trivial
theorem PySem.W.Fast.tw6239973893016652742 : True := trivial
theorem PySem.W.Fast.tw6250785715307995050 : True := trivial
theorem PySem.W.Fast.tw17167548772189516553 : True := trivial
theorem PySem.W.Fast.tw13872971934090800987 : True := trivial
theorem PySem.W.Fast.tw4363780546292126180 : True := trivial
theorem PySem.W.Fast.tw2801691936610289170 : True := trivial
theorem PySem.W.Fast.tw4675130051026926417 : True := trivial
theorem PySem.W.Fast.tw10381727422937736836 : True := trivial
theorem PySem.W.Fast.tw9327653072913149833 : True := trivial
theorem PySem.W.Fast.tw1263432419862923562 : True := trivial
theorem PySem.W.Fast.tw13426620747521756886 : True := trivial
theorem PySem.W.Fast.tw3514364136453931718 : True := trivial
theorem PySem.W.Fast.tw17554157370701177265 : True := trivial
theorem PySem.W.Fast.tw9248473253193661091 : True := trivial
theorem PySem.W.Fast.tw10836965003124755772 : True := trivial
theorem PySem.W.Fast.tw13935654861840321411 : True := trivial
theorem PySem.W.Fast.tw3126923793302803371 : True := trivial
theorem PySem.W.Fast.tw8938950195542716420 : True := trivial
theorem PySem.W.Fast.tw13406773392984404188 : True := trivial
theorem PySem.W.Fast.tw8743119766241590956 : True := trivial
theorem PySem.W.Fast.tw4202258523187530552 : True := trivial
theorem PySem.W.Fast.tw5295356746621715916 : True := trivial
theorem PySem.W.Fast.tw14321851017478284937 : True := trivial
theorem PySem.W.Fast.tw986128464787269145 : True := trivial
theorem PySem.W.Fast.tw9136155470106419148 : True := trivial
theorem PySem.W.Fast.tw2230602503894837265 : True := trivial
theorem PySem.W.Fast.tw316394028857425702 : True := trivial
theorem PySem.W.Fast.tw13529983779005168106 : True := trivial
theorem PySem.W.Fast.tw17518691723917680577 : True := trivial
theorem PySem.W.Fast.tw15356881915950264957 : True := trivial
theorem PySem.W.Fast.tw17909859816382550330 : True := trivial
theorem PySem.W.Fast.tw16865484813510671873 : True := trivial
theorem PySem.W.Fast.tw15464096934172989788 : True := trivial
theorem PySem.W.Fast.tw272771154171187752 : True := trivial
theorem PySem.W.Fast.tw10189726825842984351 : True := trivial
theorem PySem.W.Fast.tw6359602326130414586 : True := trivial
theorem PySem.W.Fast.tw3607673211198880957 : True := trivial
theorem PySem.W.Fast.tw13460708283911771822 : True := trivial
theorem PySem.W.Fast.tw17106640514830370905 : True := trivial
theorem PySem.W.Fast.tw16062569585292492391 : True := trivial
theorem PySem.W.Fast.tw12193258407658826445 : True := trivial
theorem PySem.W.Fast.tw13255898348014128331 : True := trivial
theorem PySem.W.Fast.tw929793269210493782 : True := trivial
theorem PySem.W.Fast.tw11204959359393215103 : True := trivial
theorem PySem.W.Fast.tw6135715362863136786 : True := trivial
theorem PySem.W.Fast.tw569685085774515703 : True := trivial
theorem PySem.W.Fast.tw17809853835801747939 : True := trivial
theorem PySem.W.Fast.tw12473528404567593007 : True := trivial
theorem PySem.W.Fast.tw12482245896557477861 : True := trivial
theorem PySem.W.Fast.tw11111301106621557252 : True := trivial
theorem PySem.W.Fast.tw2944486475774689559 : True := trivial
theorem PySem.W.Fast.tw15614640853244710005 : True := trivial
theorem PySem.W.Fast.tw3666759011211921558 : True := trivial
theorem PySem.W.Fast.tw12770325219692689106 : True := trivial
theorem PySem.W.Fast.tw1598099165777843062 : True := trivial
theorem PySem.W.Fast.tw7459353181668873925 : True := trivial
theorem PySem.W.Fast.tw14827640513020670293 : True := trivial
theorem PySem.W.Fast.tw225836067589858776 : True := trivial
theorem PySem.W.Fast.tw6448108028186641150 : True := trivial
theorem PySem.W.Fast.tw98435356401190549 : True := trivial
theorem PySem.W.Fast.tw897782482145239176 : True := trivial
theorem PySem.W.Fast.tw5895815836650280223 : True := trivial
theorem PySem.W.Fast.tw5877136374676400723 : True := trivial
theorem PySem.W.Fast.tw16384885184211967530 : True := trivial
theorem PySem.W.Fast.tw13587483423617288618 : True := trivial
theorem PySem.W.Fast.tw9351703391145532775 : True := trivial
theorem PySem.W.Fast.tw3313468887060077364 : True := trivial
theorem PySem.W.Fast.tw10363778508293594563 : True := trivial
theorem PySem.W.Fast.tw12127347271720575135 : True := trivial
theorem PySem.W.Fast.tw256054067127552780 : True := trivial
theorem PySem.W.Fast.tw7974758868223835639 : True := trivial
theorem PySem.W.Fast.tw13398265561545881244 : True := trivial
theorem PySem.W.Fast.tw11460201802860748213 : True := trivial
theorem PySem.W.Fast.tw4740331325240979745 : True := trivial
theorem PySem.W.Fast.tw12641103149434882741 : True := trivial
theorem PySem.W.Fast.tw15437909032341291187 : True := trivial
theorem PySem.W.Fast.tw4617493349441648379 : True := trivial
theorem PySem.W.Fast.tw2776273640630025930 : True := trivial
theorem PySem.W.Fast.tw7642060067291566930 : True := trivial
theorem PySem.W.Fast.tw17695993456175912074 : True := trivial
theorem PySem.W.Fast.tw9382967753741810567 : True := trivial
theorem PySem.W.Fast.tw2044244290060450064 : True := trivial
theorem PySem.W.Fast.tw5760019036364191025 : True := trivial
theorem PySem.W.Fast.tw1577752775615589428 : True := trivial
theorem PySem.W.Fast.tw15550873346163606861 : True := trivial
theorem PySem.W.Fast.tw17679086124652398747 : True := trivial
theorem PySem.W.Fast.tw4164558129194627935 : True := trivial
theorem PySem.W.Fast.tw14311431200635251766 : True := trivial
theorem PySem.W.Fast.tw3156018974060994558 : True := trivial
theorem PySem.W.Fast.tw1638534259272165031 : True := trivial
theorem PySem.W.Fast.tw14269386598702444889 : True := trivial
theorem PySem.W.Fast.tw14650082162960673151 : True := trivial
theorem PySem.W.Fast.tw4477598200772705291 : True := trivial
theorem PySem.W.Fast.tw13958018740258258478 : True := trivial
theorem PySem.W.Fast.tw15301173929029553841 : True := trivial
theorem PySem.W.Fast.tw886686858405878798 : True := trivial
theorem PySem.W.Fast.tw3591961370319263008 : True := trivial
theorem PySem.W.Fast.tw8202114653421068766 : True := trivial
theorem PySem.W.Fast.tw11339764970916625045 : True := trivial
theorem PySem.W.Fast.tw13669460490772829155 : True := trivial
theorem PySem.W.Fast.tw1910603555106745355 : True := trivial
theorem PySem.W.Fast.tw4129363301775063972 : True := trivial
theorem PySem.W.Fast.tw17332317560584029188 : True := trivial
theorem PySem.W.Fast.tw13892832539907163338 : True := trivial
theorem PySem.W.Fast.tw12928083817535456784 : True := trivial
theorem PySem.W.Fast.tw15283991657961648611 : True := trivial
theorem PySem.W.Fast.tw13320557026967944050 : True := trivial
theorem PySem.W.Fast.tw590686269003665027 : True := trivial
theorem PySem.W.Fast.tw2920613681140195434 : True := trivial
theorem PySem.W.Fast.tw17299176597096221733 : True := trivial
theorem PySem.W.Fast.tw16877197733165659561 : True := trivial
theorem PySem.W.Fast.tw2366946724773454985 : True := trivial
theorem PySem.W.Fast.tw6722042430535372374 : True := trivial
theorem PySem.W.Fast.tw9926292262690380376 : True := trivial
theorem PySem.W.Fast.tw15236102535830946187 : True := trivial
theorem PySem.W.Fast.tw16768989848649293435 : True := trivial
theorem PySem.W.Fast.tw8797072374608295008 : True := trivial
theorem PySem.W.Fast.tw7449166046562980600 : True := trivial
theorem PySem.W.Fast.tw8156388991721813192 : True := trivial
theorem PySem.W.Fast.tw11892394277146320534 : True := trivial
theorem PySem.W.Fast.tw6625400006379225129 : True := trivial
theorem PySem.W.Fast.tw6190970679681329646 : True := trivial
theorem PySem.W.Fast.tw6493619818154129410 : True := trivial
theorem PySem.W.Fast.tw17743413079130021464 : True := trivial
theorem PySem.W.Fast.tw15794882390676963426 : True := trivial
theorem PySem.W.Fast.tw4419770827146117546 : True := trivial
theorem PySem.W.Fast.tw6200090828504980188 : True := trivial
theorem PySem.W.Fast.tw2823504318078379977 : True := trivial
theorem PySem.W.Fast.tw2010092472269254447 : True := trivial
theorem PySem.W.Fast.tw6942060685852714613 : True := trivial
theorem PySem.W.Fast.tw18385094872959434025 : True := trivial
theorem PySem.W.Fast.tw13361893605001848390 : True := trivial
theorem PySem.W.Fast.tw45882049228858154 : True := trivial
theorem PySem.W.Fast.tw8934245204829389897 : True := trivial
theorem PySem.W.Fast.tw14149935076713491650 : True := trivial
theorem PySem.W.Fast.tw3071891774735557342 : True := trivial
theorem PySem.W.Fast.tw6129873086090290894 : True := trivial
theorem PySem.W.Fast.tw3457969838590878121 : True := trivial
theorem PySem.W.Fast.tw6957351415952271058 : True := trivial
theorem PySem.W.Fast.tw10131011969358112171 : True := trivial
theorem PySem.W.Fast.tw2182341447777886862 : True := trivial
theorem PySem.W.Fast.tw12530231013464887160 : True := trivial
theorem PySem.W.Fast.tw10520818177644612192 : True := trivial
theorem PySem.W.Fast.tw12601047294717958836 : True := trivial
theorem PySem.W.Fast.tw1466635023025696894 : True := trivial
theorem PySem.W.Fast.tw12094106156925711304 : True := trivial
theorem PySem.W.Fast.tw57350534900184203 : True := trivial
theorem PySem.W.Fast.tw14933837784419385864 : True := trivial
theorem PySem.W.Fast.tw2587353277060748635 : True := trivial
theorem PySem.W.Fast.tw9228121928881489097 : True := trivial
theorem PySem.W.Fast.tw720458160785790131 : True := trivial
theorem PySem.W.Fast.tw12594548170959255983 : True := trivial
theorem PySem.W.Fast.tw15386511538837472616 : True := trivial
theorem PySem.W.Fast.tw9042694060570914148 : True := trivial
theorem PySem.W.Fast.tw10679898501824898325 : True := trivial
theorem PySem.W.Fast.tw9340454882758336591 : True := trivial
theorem PySem.W.Fast.tw15798711772073477200 : True := trivial
theorem PySem.W.Fast.tw16317126539426511023 : True := trivial
theorem PySem.W.Fast.tw13796142296178221051 : True := trivial
theorem PySem.W.Fast.tw7059699465306431957 : True := trivial
theorem PySem.W.Fast.tw2909393419394437952 : True := trivial
theorem PySem.W.Fast.tw2097035349533849972 : True := trivial
theorem PySem.W.Fast.tw17470592982028574682 : True := trivial
theorem PySem.W.Fast.tw11775789152728303629 : True := trivial
theorem PySem.W.Fast.tw14194333075806162039 : True := trivial
theorem PySem.W.Fast.tw15125965039129521640 : True := trivial
theorem PySem.W.Fast.tw4127320581375647369 : True := trivial
theorem PySem.W.Fast.tw6419507777848101331 : True := trivial
theorem PySem.W.Fast.tw14665846589549347863 : True := trivial
theorem PySem.W.Fast.tw6953055801717982358 : True := trivial
theorem PySem.W.Fast.tw7868414543430665598 : True := trivial
theorem PySem.W.Fast.tw6550928281171000240 : True := trivial
theorem PySem.W.Fast.tw3698964658018878190 : True := trivial
theorem PySem.W.Fast.tw8765409905218213123 : True := trivial
theorem PySem.W.Fast.tw14869152748830965700 : True := trivial
theorem PySem.W.Fast.tw223803242702623637 : True := trivial
theorem PySem.W.Fast.tw9898593227211548722 : True := trivial
theorem PySem.W.Fast.tw6454201968981261818 : True := trivial
theorem PySem.W.Fast.tw9556628643770086924 : True := trivial
theorem PySem.W.Fast.tw6407711594355490904 : True := trivial
theorem PySem.W.Fast.tw17672577705263819153 : True := trivial
theorem PySem.W.Fast.tw1990555202357198377 : True := trivial
theorem PySem.W.Fast.tw10205662287275471145 : True := trivial
theorem PySem.W.Fast.tw11573064206915681635 : True := trivial
theorem PySem.W.Fast.tw3027990631952994999 : True := trivial
theorem PySem.W.Fast.tw18097436337240308343 : True := trivial
theorem PySem.W.Fast.tw6964567157305166473 : True := trivial
theorem PySem.W.Fast.tw15464410197155666637 : True := trivial
theorem PySem.W.Fast.tw4069129708018251527 : True := trivial
theorem PySem.W.Fast.tw13559969935410952916 : True := trivial
theorem PySem.W.Fast.tw2547149687646097418 : True := trivial
theorem PySem.W.Fast.tw2405020638918551768 : True := trivial
theorem PySem.W.Fast.tw16902879309324585824 : True := trivial
theorem PySem.W.Fast.tw14790427958450516416 : True := trivial
theorem PySem.W.Fast.tw8382647313319366159 : True := trivial
theorem PySem.W.Fast.tw13084988857810351536 : True := trivial
theorem PySem.W.Fast.tw3285252131342648783 : True := trivial
theorem PySem.W.Fast.tw2384093462111426163 : True := trivial
theorem PySem.W.Fast.tw6650593672825687280 : True := trivial
theorem PySem.W.Fast.tw387068590938629206 : True := trivial
theorem PySem.W.Fast.tw10504344386175324609 : True := trivial
theorem PySem.W.Fast.tw9134504619402661858 : True := trivial
theorem PySem.W.Fast.tw3755046226099044004 : True := trivial
theorem PySem.W.Fast.tw11951329531180286613 : True := trivial
theorem PySem.W.Fast.tw2656127814025092091 : True := trivial
theorem PySem.W.Fast.tw17770191719278921248 : True := trivial
theorem PySem.W.Fast.tw14098592229599270506 : True := trivial
theorem PySem.W.Fast.tw10610769666418931861 : True := trivial
theorem PySem.W.Fast.tw17930880377558263003 : True := trivial
theorem PySem.W.Fast.tw14669289978108008045 : True := trivial
theorem PySem.W.Fast.tw14103534495250973524 : True := trivial
theorem PySem.W.Fast.tw10498108142232794132 : True := trivial
theorem PySem.W.Fast.tw11043438903306184569 : True := trivial
theorem PySem.W.Fast.tw5183914073096947416 : True := trivial
theorem PySem.W.Fast.tw12904796548158191915 : True := trivial
theorem PySem.W.Fast.tw8118081524780927354 : True := trivial
theorem PySem.W.Fast.tw17471794179445932623 : True := trivial
theorem PySem.W.Fast.tw1575729508672751336 : True := trivial
theorem PySem.W.Fast.tw7939496980289961808 : True := trivial
theorem PySem.W.Fast.tw9949370478074272021 : True := trivial
theorem PySem.W.Fast.tw15764997447479554315 : True := trivial
theorem PySem.W.Fast.tw1785897519470036432 : True := trivial
theorem PySem.W.Fast.tw1046345744036605200 : True := trivial
theorem PySem.W.Fast.tw15726990004482765967 : True := trivial
theorem PySem.W.Fast.tw14269813965773691954 : True := trivial
theorem PySem.W.Fast.tw8591617664971452611 : True := trivial
theorem PySem.W.Fast.tw779849134345474043 : True := trivial
theorem PySem.W.Fast.tw809256122539452625 : True := trivial
theorem PySem.W.Fast.tw16105067355859643417 : True := trivial
theorem PySem.W.Fast.tw3161595162698356648 : True := trivial
theorem PySem.W.Fast.tw12256292171622489673 : True := trivial
theorem PySem.W.Fast.tw5127935004304555554 : True := trivial
theorem PySem.W.Fast.tw1090861654389381008 : True := trivial
theorem PySem.W.Fast.tw14702474061799991461 : True := trivial
theorem PySem.W.Fast.tw17950897041151837367 : True := trivial
theorem PySem.W.Fast.tw8160766307580845088 : True := trivial
theorem PySem.W.Fast.tw7913317915954968348 : True := trivial
theorem PySem.W.Fast.tw6345792826755940162 : True := trivial
theorem PySem.W.Fast.tw5631302238391390207 : True := trivial
theorem PySem.W.Fast.tw2258581255292167097 : True := trivial
theorem PySem.W.Fast.tw1780288772935972682 : True := trivial
theorem PySem.W.Fast.tw3020232507698492417 : True := trivial
theorem PySem.W.Fast.tw7730622401012196119 : True := trivial
theorem PySem.W.Fast.tw8531024033892134936 : True := trivial
theorem PySem.W.Fast.tw5034302662092048728 : True := trivial
theorem PySem.W.Fast.tw8368537457751894577 : True := trivial
theorem PySem.W.Fast.tw16153194474707910080 : True := trivial
theorem PySem.W.Fast.tw16244576984579624462 : True := trivial
theorem PySem.W.Fast.tw15830826013374661237 : True := trivial
theorem PySem.W.Fast.tw12606334975908961579 : True := trivial
theorem PySem.W.Fast.tw6663880700939120174 : True := trivial
theorem PySem.W.Fast.tw3286437190197348792 : True := trivial
theorem PySem.W.Fast.tw12461683806504882413 : True := trivial
theorem PySem.W.Fast.tw1204419738984687891 : True := trivial
theorem PySem.W.Fast.tw4343392355444752567 : True := trivial
theorem PySem.W.Fast.tw12854376398384222332 : True := trivial
theorem PySem.W.Fast.tw9432024615894349036 : True := trivial
theorem PySem.W.Fast.tw17823448175277133081 : True := trivial
theorem PySem.W.Fast.tw14402718957456059909 : True := trivial
theorem PySem.W.Fast.tw1275356491560933101 : True := trivial
theorem PySem.W.Fast.tw10809746343945091327 : True := trivial
theorem PySem.W.Fast.tw9993847208308129258 : True := trivial
theorem PySem.W.Fast.tw17475433684406279823 : True := trivial
theorem PySem.W.Fast.tw2078744622580667820 : True := trivial
theorem PySem.W.Fast.tw17635064516415575197 : True := trivial
theorem PySem.W.Fast.tw13450617793010356718 : True := trivial
theorem PySem.W.Fast.tw5584422700035753760 : True := trivial
theorem PySem.W.Fast.tw17394070186290407701 : True := trivial
theorem PySem.W.Fast.tw2419458013058076871 : True := trivial
theorem PySem.W.Fast.tw6985574040863422031 : True := trivial
theorem PySem.W.Fast.tw17407065481947670653 : True := trivial
theorem PySem.W.Fast.tw5661497756335873648 : True := trivial
theorem PySem.W.Fast.tw1311105135925515860 : True := trivial
theorem PySem.W.Fast.tw9242690203668965622 : True := trivial
theorem PySem.W.Fast.tw7277728741544266886 : True := trivial
theorem PySem.W.Fast.tw1355988479009724139 : True := trivial
theorem PySem.W.Fast.tw4422322360857517985 : True := trivial
theorem PySem.W.Fast.tw12222071878390532031 : True := trivial
theorem PySem.W.Fast.tw14055836236928985653 : True := trivial
theorem PySem.W.Fast.tw14948798994163287796 : True := trivial
theorem PySem.W.Fast.tw1612187535777361377 : True := trivial
theorem PySem.W.Fast.tw2972447071146687849 : True := trivial
theorem PySem.W.Fast.tw9966716126133996942 : True := trivial
theorem PySem.W.Fast.tw28398002152958186 : True := trivial
theorem PySem.W.Fast.tw315667170376502339 : True := trivial
theorem PySem.W.Fast.tw8042224217811918022 : True := trivial
theorem PySem.W.Fast.tw9992254857282540577 : True := trivial
theorem PySem.W.Fast.tw11693004453426233687 : True := trivial
theorem PySem.W.Fast.tw1309125316960471401 : True := trivial
theorem PySem.W.Fast.tw1449840695478424225 : True := trivial
theorem PySem.W.Fast.tw279405328185395956 : True := trivial
theorem PySem.W.Fast.tw805376283327601672 : True := trivial
theorem PySem.W.Fast.tw671769505412169084 : True := trivial
theorem PySem.W.Fast.tw8165119279308871593 : True := trivial
theorem PySem.W.Fast.tw1965196184266834721 : True := trivial
theorem PySem.W.Fast.tw10379795310501841521 : True := trivial
theorem PySem.W.Fast.tw13847107622276792761 : True := trivial
theorem PySem.W.Fast.tw5279526920245255382 : True := trivial
theorem PySem.W.Fast.tw17486797620130446914 : True := trivial
theorem PySem.W.Fast.tw8939992699395451241 : True := trivial
theorem PySem.W.Fast.tw1282141941436507740 : True := trivial
theorem PySem.W.Fast.tw9673485973159712699 : True := trivial
theorem PySem.W.Fast.tw2439994124421626644 : True := trivial
theorem PySem.W.Fast.tw16957994721462318284 : True := trivial
theorem PySem.W.Fast.tw7539551563602260550 : True := trivial
theorem PySem.W.Fast.tw14240456290882832678 : True := trivial
theorem PySem.W.Fast.tw17838875152553510438 : True := trivial
theorem PySem.W.Fast.tw12453031759997598031 : True := trivial
theorem PySem.W.Fast.tw734190199064815913 : True := trivial
theorem PySem.W.Fast.tw12805356376929124901 : True := trivial
theorem PySem.W.Fast.tw4340327296012233533 : True := trivial
theorem PySem.W.Fast.tw12098845828251640233 : True := trivial
theorem PySem.W.Fast.tw12045891589578842589 : True := trivial
theorem PySem.W.Fast.tw5810675689517042155 : True := trivial
theorem PySem.W.Fast.tw13723087074498907252 : True := trivial
theorem PySem.W.Fast.tw5897697705385331970 : True := trivial
theorem PySem.W.Fast.tw3137411926573219458 : True := trivial
theorem PySem.W.Fast.tw2868881029156413046 : True := trivial
theorem PySem.W.Fast.tw13075610242632701552 : True := trivial
theorem PySem.W.Fast.tw9081488279755032208 : True := trivial
theorem PySem.W.Fast.tw4679058596324509638 : True := trivial
theorem PySem.W.Fast.tw14226856808787530559 : True := trivial
theorem PySem.W.Fast.tw14458265446636144825 : True := trivial
theorem PySem.W.Fast.tw1472857961113669318 : True := trivial
theorem PySem.W.Fast.tw17358341422714575514 : True := trivial
theorem PySem.W.Fast.tw15068857304939269422 : True := trivial
theorem PySem.W.Fast.tw3963602321258966602 : True := trivial
theorem PySem.W.Fast.tw2693096296205818005 : True := trivial
theorem PySem.W.Fast.tw3611544581447919156 : True := trivial
theorem PySem.W.Fast.tw16731606187960340550 : True := trivial
theorem PySem.W.Fast.tw3394149024059669177 : True := trivial
theorem PySem.W.Fast.tw10140972828536567176 : True := trivial
theorem PySem.W.Fast.tw4203648261327942301 : True := trivial
theorem PySem.W.Fast.tw18289421573771483703 : True := trivial
theorem PySem.W.Fast.tw15121752337583153164 : True := trivial
theorem PySem.W.Fast.tw12757696886623015353 : True := trivial
theorem PySem.W.Fast.tw16104226408195176010 : True := trivial
theorem PySem.W.Fast.tw6866652003334003679 : True := trivial
theorem PySem.W.Fast.tw13173790982154762418 : True := trivial
theorem PySem.W.Fast.tw10508926930808804295 : True := trivial
theorem PySem.W.Fast.tw4146481461729043859 : True := trivial
theorem PySem.W.Fast.tw14680294717916831332 : True := trivial
theorem PySem.W.Fast.tw17169740162810470628 : True := trivial
theorem PySem.W.Fast.tw13130855184298789124 : True := trivial
theorem PySem.W.Fast.tw10126716955901943500 : True := trivial
theorem PySem.W.Fast.tw15024314663822051820 : True := trivial
theorem PySem.W.Fast.tw12397005885194411289 : True := trivial
theorem PySem.W.Fast.tw10331749097980710616 : True := trivial
theorem PySem.W.Fast.tw10014356003351585619 : True := trivial
theorem PySem.W.Fast.tw17627370974283611305 : True := trivial
theorem PySem.W.Fast.tw1700122714423535601 : True := trivial
theorem PySem.W.Fast.tw8463658582019027418 : True := trivial
theorem PySem.W.Fast.tw9362869757627060317 : True := trivial
theorem PySem.W.Fast.tw1312793873347295943 : True := trivial
theorem PySem.W.Fast.tw11877576716192557070 : True := trivial
theorem PySem.W.Fast.tw16715557125809450884 : True := trivial
theorem PySem.W.Fast.tw12701133378999136878 : True := trivial
theorem PySem.W.Fast.tw12746697446480678089 : True := trivial
theorem PySem.W.Fast.tw11302790648896195207 : True := trivial
theorem PySem.W.Fast.tw11525582309709650042 : True := trivial
theorem PySem.W.Fast.tw417126157397615736 : True := trivial
theorem PySem.W.Fast.tw4392419956424158801 : True := trivial
theorem PySem.W.Fast.tw10978017255724208507 : True := trivial
theorem PySem.W.Fast.tw17111559906138895988 : True := trivial
theorem PySem.W.Fast.tw10798983924528969840 : True := trivial
theorem PySem.W.Fast.tw9885318287580040436 : True := trivial
theorem PySem.W.Fast.tw603495501614125668 : True := trivial
theorem PySem.W.Fast.tw17553713046167899094 : True := trivial
theorem PySem.W.Fast.tw16595881311559905538 : True := trivial
theorem PySem.W.Fast.tw11888003333980516008 : True := trivial
theorem PySem.W.Fast.tw9129622335896642390 : True := trivial
theorem PySem.W.Fast.tw4129460242043492260 : True := trivial
theorem PySem.W.Fast.tw4534397685016582065 : True := trivial
theorem PySem.W.Fast.tw2156458078186167540 : True := trivial
theorem PySem.W.Fast.tw6332729919409777224 : True := trivial
theorem PySem.W.Fast.tw9881732626629889971 : True := trivial
theorem PySem.W.Fast.tw13101474439454810074 : True := trivial
theorem PySem.W.Fast.tw1600858727967909401 : True := trivial
theorem PySem.W.Fast.tw4866224601127891860 : True := trivial
theorem PySem.W.Fast.tw16018538611308797857 : True := trivial
theorem PySem.W.Fast.tw15323928301111193072 : True := trivial
theorem PySem.W.Fast.tw12050473931555432224 : True := trivial
theorem PySem.W.Fast.tw2927872465719006242 : True := trivial
theorem PySem.W.Fast.tw5298885687347131258 : True := trivial
theorem PySem.W.Fast.tw4714341346873992525 : True := trivial
theorem PySem.W.Fast.tw17551855042199672852 : True := trivial
theorem PySem.W.Fast.tw16816283735740816672 : True := trivial
theorem PySem.W.Fast.tw12728112303525005671 : True := trivial
theorem PySem.W.Fast.tw7262508048575253887 : True := trivial
theorem PySem.W.Fast.tw12418944378640674869 : True := trivial
theorem PySem.W.Fast.tw14986008598089216225 : True := trivial
theorem PySem.W.Fast.tw9188123012539381980 : True := trivial
theorem PySem.W.Fast.tw10422748184896303633 : True := trivial
theorem PySem.W.Fast.tw1409082875816876410 : True := trivial
theorem PySem.W.Fast.tw8488763560478735326 : True := trivial
theorem PySem.W.Fast.tw6073064731107832726 : True := trivial
theorem PySem.W.Fast.tw16540960109569342423 : True := trivial
theorem PySem.W.Fast.tw8169567617471122896 : True := trivial
theorem PySem.W.Fast.tw2249700533508864718 : True := trivial
theorem PySem.W.Fast.tw18004029631185165357 : True := trivial
theorem PySem.W.Fast.tw2443800926453044007 : True := trivial
theorem PySem.W.Fast.tw16005438483217523286 : True := trivial
theorem PySem.W.Fast.tw6378441475432093567 : True := trivial
theorem PySem.W.Fast.tw14249031996413481853 : True := trivial
theorem PySem.W.Fast.tw13343819204574147375 : True := trivial
theorem PySem.W.Fast.tw16569726933743590961 : True := trivial
theorem PySem.W.Fast.tw9771628044518043436 : True := trivial
theorem PySem.W.Fast.tw14575684628357647189 : True := trivial
theorem PySem.W.Fast.tw3179888978359752193 : True := trivial
theorem PySem.W.Fast.tw5534024663320399755 : True := trivial
theorem PySem.W.Fast.tw5816269308621234880 : True := trivial
theorem PySem.W.Fast.tw10729843657327499743 : True := trivial
theorem PySem.W.Fast.tw16152762695331865350 : True := trivial
theorem PySem.W.Fast.tw9629521042751599231 : True := trivial
theorem PySem.W.Fast.tw4171138497412060531 : True := trivial
theorem PySem.W.Fast.tw11122353039260928725 : True := trivial
theorem PySem.W.Fast.tw4268604312444488738 : True := trivial
theorem PySem.W.Fast.tw8949794107447992270 : True := trivial
theorem PySem.W.Fast.tw13964354380303945835 : True := trivial
theorem PySem.W.Fast.tw1926098309359431205 : True := trivial
theorem PySem.W.Fast.tw7436827664851933233 : True := trivial
theorem PySem.W.Fast.tw17355534599017073137 : True := trivial
theorem PySem.W.Fast.tw13693941024294403226 : True := trivial
theorem PySem.W.Fast.tw10931740131314509920 : True := trivial
theorem PySem.W.Fast.tw8267492266007156892 : True := trivial
theorem PySem.W.Fast.tw735582631313865826 : True := trivial
theorem PySem.W.Fast.tw15442830241191720340 : True := trivial
theorem PySem.W.Fast.tw6127745483861406178 : True := trivial
theorem PySem.W.Fast.tw14788725356972180958 : True := trivial
theorem PySem.W.Fast.tw17181821508393278849 : True := trivial
theorem PySem.W.Fast.tw17233373997785482424 : True := trivial
theorem PySem.W.Fast.tw9106122995530514277 : True := trivial
theorem PySem.W.Fast.tw17201667104004682871 : True := trivial
theorem PySem.W.Fast.tw9063760295564705165 : True := trivial
theorem PySem.W.Fast.tw15260131831742131196 : True := trivial
theorem PySem.W.Fast.tw11961506305840038893 : True := trivial
theorem PySem.W.Fast.tw1839872133955533844 : True := trivial
theorem PySem.W.Fast.tw14174871230929174460 : True := trivial
theorem PySem.W.Fast.tw657579132134107838 : True := trivial
theorem PySem.W.Fast.tw2403945336480701932 : True := trivial
theorem PySem.W.Fast.tw1794901162875791175 : True := trivial
theorem PySem.W.Fast.tw15831634702223119764 : True := trivial
theorem PySem.W.Fast.tw17923863160075804574 : True := trivial
theorem PySem.W.Fast.tw13585452847269398381 : True := trivial
theorem PySem.W.Fast.tw10772279644528958487 : True := trivial
theorem PySem.W.Fast.tw15446078787354503153 : True := trivial
theorem PySem.W.Fast.tw2640062846447593171 : True := trivial
theorem PySem.W.Fast.tw4166735119594560812 : True := trivial
theorem PySem.W.Fast.tw7032824555636435020 : True := trivial
theorem PySem.W.Fast.tw5354950537855766359 : True := trivial
theorem PySem.W.Fast.tw16206558818151679180 : True := trivial
theorem PySem.W.Fast.tw9908862638925479322 : True := trivial
theorem PySem.W.Fast.tw5481398519178273801 : True := trivial
theorem PySem.W.Fast.tw13998118798649347027 : True := trivial
theorem PySem.W.Fast.tw15347085281759354785 : True := trivial
theorem PySem.W.Fast.tw2534271053998337887 : True := trivial
theorem PySem.W.Fast.tw2602068604556425139 : True := trivial
theorem PySem.W.Fast.tw14502519041717443107 : True := trivial
theorem PySem.W.Fast.tw8361741560555616374 : True := trivial
theorem PySem.W.Fast.tw16971917342031032434 : True := trivial
theorem PySem.W.Fast.tw2447540121678281813 : True := trivial
theorem PySem.W.Fast.tw10238440372074270751 : True := trivial
open PySem PySem.W PyProof.Rows
set_option maxRecDepth 100000 in
set_option maxHeartbeats 0 in
theorem PySem.Challenge.cw_shelfbook_k03_whole_pieces_holds : PySem.Challenge.rw_shelfbook_k03_whole_pieces.Holds := by
  w_on; o_law; k_head; (case hw => w_witness2)
  k_fill
  refine T2.walk (l := PySem.Challenge.rw_shelfbook_k03_whole_pieces) rfl rfl (fun w h Y => PySem.W.kIn_of Y) ?F
  case F =>
    intro w mg fa h KX G hmg
    refine' T2.all_mk KX G hmg ?bl0 ?bl1 ?bl2 ?bl3 ?bl4 ?bl5 ?bl6 ?bl7 ?bl8 ?bl9 ?mShop ?mOrder ?mSale ?mNoKind ?mNoOrder ?mNoSale ?mNoMany ?mTooMany ?mTooFew ?mBroke ?xNoKind ?xNoOrder ?xNoSale ?xNoMany ?xTooMany ?xTooFew ?xBroke ?pgShop ?hdShop ?poShop ?saShop ?mkShop ?kcShop ?nShop_till ?nShop_prices ?nShop_shelf ?nShop_owed ?nShop_orders ?nShop_sales ?nShop_entries ?pgOrder ?hdOrder ?poOrder ?saOrder ?mkOrder ?kcOrder ?nOrder_kind ?nOrder_price ?nOrder_owed ?pgSale ?hdSale ?poSale ?saSale ?mkSale ?kcSale ?nSale_kind ?nSale_out ?e0_0 ?e1_0 ?e1_1 ?e2_0 ?e2_1 ?e2_2 ?e3_0 ?e3_1 ?e3_2 ?e3_3 ?e4_0 ?e4_1 ?e4_2 ?e4_3 ?e4_4 ?e5_0 ?e5_1 ?e5_2 ?e5_3 ?e5_4 ?e5_5 ?e6_0 ?e6_1 ?e6_2 ?e6_3 ?e6_4 ?e6_5 ?e6_6 ?a0 ?l0 ?c0 ?k0 ?a1 ?i1 ?l1 ?c1 ?k1 ?a2 ?i2 ?l2 ?c2 ?k2 ?a3 ?i3 ?l3 ?c3 ?k3 ?a4 ?i4 ?l4 ?c4 ?k4 ?a5 ?i5 ?l5 ?c5 ?k5 ?a6 ?i6 ?l6 ?c6 ?k6 ?a7 ?i7 ?l7 ?c7 ?k7 ?a8 ?i8 ?l8 ?c8 ?k8 ?a9 ?i9 ?l9 ?c9 ?k9 ?a10 ?i10 ?l10 ?c10 ?k10 ?a11 ?i11 ?l11 ?c11 ?k11 ?a12 ?i12 ?l12 ?c12 ?k12 ?a13 ?l13 ?c13 ?k13 ?a14 ?l14 ?c14 ?k14 ?a15 ?i15 ?l15 ?c15 ?k15 ?a16 ?l16 ?c16 ?k16 ?a17 ?l17 ?c17 ?k17 ?a18 ?l18 ?c18 ?k18 ?a19 ?l19 ?c19 ?k19 ?a20 ?l20 ?c20 ?k20 ?a21 ?l21 ?c21 ?k21 ?a22 ?l22 ?c22 ?k22 ?a23 ?l23 ?c23 ?k23 ?a24 ?l24 ?c24 ?k24 ?a25 ?l25 ?c25 ?k25 ?a26 ?l26 ?c26 ?k26 ?a27 ?l27 ?c27 ?k27 ?a28 ?l28 ?c28 ?k28 ?a29 ?l29 ?c29 ?k29 ?a30 ?l30 ?c30 ?k30 ?a31 ?l31 ?c31 ?k31
    (case bl0 => k_is)
    (case bl1 => k_is)
    (case bl2 => k_is)
    (case bl3 => k_is)
    (case bl4 => k_is)
    (case bl5 => k_is)
    (case bl6 => k_is)
    (case bl7 => k_is)
    (case bl8 => k_is)
    (case bl9 => k_is)
    (case mShop => k_is)
    (case mOrder => k_is)
    (case mSale => k_is)
    (case mNoKind => k_is)
    (case mNoOrder => k_is)
    (case mNoSale => k_is)
    (case mNoMany => k_is)
    (case mTooMany => k_is)
    (case mTooFew => k_is)
    (case mBroke => k_is)
    (case xNoKind => k_exc)
    (case xNoOrder => k_exc)
    (case xNoSale => k_exc)
    (case xNoMany => k_exc)
    (case xTooMany => k_exc)
    (case xTooFew => k_exc)
    (case xBroke => k_exc)
    (case pgShop => k_is)
    (case hdShop => k_is)
    (case poShop => k_is)
    (case saShop => k_is)
    (case mkShop => k_is)
    (case kcShop => k_is)
    (case nShop_till => k_is)
    (case nShop_prices => k_is)
    (case nShop_shelf => k_is)
    (case nShop_owed => k_is)
    (case nShop_orders => k_is)
    (case nShop_sales => k_is)
    (case nShop_entries => k_is)
    (case pgOrder => k_is)
    (case hdOrder => k_is)
    (case poOrder => k_is)
    (case saOrder => k_is)
    (case mkOrder => k_is)
    (case kcOrder => k_is)
    (case nOrder_kind => k_is)
    (case nOrder_price => k_is)
    (case nOrder_owed => k_is)
    (case pgSale => k_is)
    (case hdSale => k_is)
    (case poSale => k_is)
    (case saSale => k_is)
    (case mkSale => k_is)
    (case kcSale => k_is)
    (case nSale_kind => k_is)
    (case nSale_out => k_is)
    (case e0_0 => kts_exm)
    (case e1_0 => kts_exm)
    (case e1_1 => kts_exm)
    (case e2_0 => kts_exm)
    (case e2_1 => kts_exm)
    (case e2_2 => kts_exm)
    (case e3_0 => kts_exm)
    (case e3_1 => kts_exm)
    (case e3_2 => kts_exm)
    (case e3_3 => kts_exm)
    (case e4_0 => kts_exm)
    (case e4_1 => kts_exm)
    (case e4_2 => kts_exm)
    (case e4_3 => kts_exm)
    (case e4_4 => kts_exm)
    (case e5_0 => kts_exm)
    (case e5_1 => kts_exm)
    (case e5_2 => kts_exm)
    (case e5_3 => kts_exm)
    (case e5_4 => kts_exm)
    (case e5_5 => kts_exm)
    (case e6_0 => kts_exm)
    (case e6_1 => kts_exm)
    (case e6_2 => kts_exm)
    (case e6_3 => kts_exm)
    (case e6_4 => kts_exm)
    (case e6_5 => kts_exm)
    (case e6_6 => kts_exm)
    (case a0 => k_is)
    (case l0 => k_is)
    (case c0 => k_is)
    (case k0 => k_is)
    (case a1 => k_is)
    (case i1 => k_is)
    (case l1 => k_is)
    (case c1 => k_is)
    (case k1 => k_is)
    (case a2 => k_is)
    (case i2 => k_is)
    (case l2 => k_is)
    (case c2 => k_is)
    (case k2 => k_is)
    (case a3 => k_is)
    (case i3 => k_is)
    (case l3 => k_is)
    (case c3 => k_is)
    (case k3 => k_is)
    (case a4 => k_is)
    (case i4 => k_is)
    (case l4 => k_is)
    (case c4 => k_is)
    (case k4 => k_is)
    (case a5 => k_is)
    (case i5 => k_is)
    (case l5 => k_is)
    (case c5 => k_is)
    (case k5 => k_is)
    (case a6 => k_is)
    (case i6 => k_is)
    (case l6 => k_is)
    (case c6 => k_is)
    (case k6 => k_is)
    (case a7 => k_is)
    (case i7 => k_is)
    (case l7 => k_is)
    (case c7 => k_is)
    (case k7 => k_is)
    (case a8 => k_is)
    (case i8 => k_is)
    (case l8 => k_is)
    (case c8 => k_is)
    (case k8 => k_is)
    (case a9 => k_is)
    (case i9 => k_is)
    (case l9 => k_is)
    (case c9 => k_is)
    (case k9 => k_is)
    (case a10 => k_is)
    (case i10 => k_is)
    (case l10 => k_is)
    (case c10 => k_is)
    (case k10 => k_is)
    (case a11 => k_is)
    (case i11 => k_is)
    (case l11 => k_is)
    (case c11 => k_is)
    (case k11 => k_is)
    (case a12 => k_is)
    (case i12 => k_is)
    (case l12 => k_is)
    (case c12 => k_is)
    (case k12 => k_is)
    (case a13 => k_is)
    (case l13 => k_is)
    (case c13 => k_is)
    (case k13 => k_is)
    (case a14 => k_is)
    (case l14 => k_is)
    (case c14 => k_is)
    (case k14 => k_is)
    (case a15 => k_is)
    (case i15 => k_is)
    (case l15 => k_is)
    (case c15 => k_is)
    (case k15 => k_is)
    (case a16 => k_is)
    (case l16 => k_is)
    (case c16 => k_is)
    (case k16 => k_is)
    (case a17 => k_is)
    (case l17 => k_is)
    (case c17 => k_is)
    (case k17 => k_is)
    (case a18 => k_is)
    (case l18 => k_is)
    (case c18 => k_is)
    (case k18 => k_is)
    (case a19 => k_is)
    (case l19 => k_is)
    (case c19 => k_is)
    (case k19 => k_is)
    (case a20 => k_is)
    (case l20 => k_is)
    (case c20 => k_is)
    (case k20 => k_is)
    (case a21 => k_is)
    (case l21 => k_is)
    (case c21 => k_is)
    (case k21 => k_is)
    (case a22 => k_is)
    (case l22 => k_is)
    (case c22 => k_is)
    (case k22 => k_is)
    (case a23 => k_is)
    (case l23 => k_is)
    (case c23 => k_is)
    (case k23 => k_is)
    (case a24 => k_is)
    (case l24 => k_is)
    (case c24 => k_is)
    (case k24 => k_is)
    (case a25 => k_is)
    (case l25 => k_is)
    (case c25 => k_is)
    (case k25 => k_is)
    (case a26 => k_is)
    (case l26 => k_is)
    (case c26 => k_is)
    (case k26 => k_is)
    (case a27 => k_is)
    (case l27 => k_is)
    (case c27 => k_is)
    (case k27 => k_is)
    (case a28 => k_is)
    (case l28 => k_is)
    (case c28 => k_is)
    (case k28 => k_is)
    (case a29 => k_is)
    (case l29 => k_is)
    (case c29 => k_is)
    (case k29 => k_is)
    (case a30 => k_is)
    (case l30 => k_is)
    (case c30 => k_is)
    (case k30 => k_is)
    (case a31 => k_is)
    (case l31 => k_is)
    (case c31 => k_is)
    (case k31 => k_is)

