import PyProof.Rows.All
import Wide.All
import OpenK.AllK
import Wide.FinOn
import Lean
import PyProof.EqAt
import PyProof.EqKinds
import PyProof.TupleCall
import PySem.Challenge.RW_berthline_k04_whole_no_two_meet
set_option Elab.async false
set_option linter.all false
set_option maxRecDepth 100000
namespace L2
open PySem PySem.Spec PyProof.Rows

/-- a key: an int or a str -/
abbrev Key := Sum Int Str
def keyIs : Key → Value → Bool
  | .inl k, v => Value.isInt k v
  | .inr x, v => Value.isStrOf x v
def keyH (w : World) : Key → Int
  | .inl k => hashInt k
  | .inr x => hashStr w x
theorem keyIs_shape : ∀ {k : Key} {v : Value}, keyIs k v = true → (∃ i t, k = Sum.inl i ∧ v = Value.int i t) ∨ (∃ x t, k = Sum.inr x ∧ v = Value.str x t)
  | .inl i, v, h => by
    obtain ⟨t, e⟩ := Value.isInt_shape (k := i) (v := v) h
    exact .inl ⟨i, t, rfl, e⟩
  | .inr x, v, h => by
    obtain ⟨t, e⟩ := Value.isStrOf_shape (x := x) (v := v) h
    exact .inr ⟨x, t, rfl, e⟩
theorem keyIs_int (i : Int) (t : Tok) : keyIs (.inl i) (.int i t) = true := by simp [keyIs, Value.isInt]
theorem keyIs_str (x : Str) (t : Tok) : keyIs (.inr x) (.str x t) = true := by simp [keyIs, Value.isStrOf]
theorem key_ll (a b : Int) : decide ((Sum.inl a : Key) = Sum.inl b) = (a == b) := by
  by_cases e : a = b
  · subst e; simp
  · have h : ¬ (Sum.inl a : Key) = Sum.inl b := fun q => e (Sum.inl.inj q)
    rw [decide_eq_false h]
    exact (beq_eq_false_iff_ne.mpr e).symm
theorem key_rr (a b : Str) : decide ((Sum.inr a : Key) = Sum.inr b) = decide (a = b) := by
  by_cases e : a = b
  · subst e; simp
  · have h : ¬ (Sum.inr a : Key) = Sum.inr b := fun q => e (Sum.inr.inj q)
    rw [decide_eq_false h, decide_eq_false e]
theorem key_lr (a : Int) (b : Str) : decide ((Sum.inl a : Key) = Sum.inr b) = false := decide_eq_false (fun q => nomatch q)
theorem key_rl (a : Str) (b : Int) : decide ((Sum.inr a : Key) = Sum.inl b) = false := decide_eq_false (fun q => nomatch q)

def mixKind (prog : Program) (w : World) : PySem.KeyKind prog w Key where
  is := keyIs
  hash := keyH w
  inj := fun v a b ha hb => by
    rcases keyIs_shape ha with ⟨i, t, rfl, rfl⟩ | ⟨x, t, rfl, rfl⟩
    · rcases keyIs_shape hb with ⟨j, u, rfl, e⟩ | ⟨y, u, rfl, e⟩
      · injection e with e1 _; rw [e1]
      · exact nomatch e
    · rcases keyIs_shape hb with ⟨j, u, rfl, e⟩ | ⟨y, u, rfl, e⟩
      · exact nomatch e
      · injection e with e1 _; rw [e1]
  byValue := fun k v h => by
    rcases keyIs_shape h with ⟨i, t, rfl, rfl⟩ | ⟨x, t, rfl, rfl⟩ <;> rfl
  pyHash := fun hv h => by
    rcases keyIs_shape hv with ⟨i, t, rfl, rfl⟩ | ⟨x, t, rfl, rfl⟩
    · exact wpAny_pyHash_int h
    · exact wpAny_pyHash_str h
  eqBool := fun hu hv h => by
    rcases keyIs_shape hu with ⟨i, t, rfl, rfl⟩ | ⟨x, t, rfl, rfl⟩
    · rcases keyIs_shape hv with ⟨j, u, rfl, rfl⟩ | ⟨y, u, rfl, rfl⟩
      · rw [key_ll] at h; exact wpAny_eqBool_int h
      · rw [key_lr] at h; exact SeqAt.EqAt.int_str i t y u _ _ _ _ h
    · rcases keyIs_shape hv with ⟨j, u, rfl, rfl⟩ | ⟨y, u, rfl, rfl⟩
      · rw [key_rl] at h; exact SeqAt.EqAt.str_int x t j u _ _ _ _ h
      · rw [key_rr] at h; exact wpAny_eqBool_str h
  «strs» := fun k x t v h => by
    rcases keyIs_shape h with ⟨i, u, rfl, e⟩ | ⟨y, u, rfl, e⟩
    · exact nomatch e
    · injection e with e1 _
      subst e1
      cases v <;> rfl

theorem mixKind_is (prog : Program) (w : World) (k : Key) (v : Value) : (mixKind prog w).is k v = keyIs k v := rfl
theorem mixKind_int (prog : Program) (w : World) (i : Int) (t : Tok) : (mixKind prog w).is (.inl i) (.int i t) = true := keyIs_int i t
theorem mixKind_str (prog : Program) (w : World) (x : Str) (t : Tok) : (mixKind prog w).is (.inr x) (.str x t) = true := keyIs_str x t
end L2

namespace L2
open PySem PySem.Spec PyProof.Rows

/-- a value, without the heap -/
inductive V where
  | non | bl (b : Bool) | int (i : Int) | str (x : Str) | byt (b : Array UInt8) | flt (b : UInt64) | ref (a : Addr) | ty (n : String)
  deriving DecidableEq

def RelV : V → Value → Prop
  | .non, u => u = Value.none
  | .bl b, u => u = Value.bool b
  | .int i, u => ∃ t, u = Value.int i t
  | .str x, u => ∃ t, u = Value.str x t
  | .byt b, u => ∃ t, u = Value.bytes b t
  | .flt b, u => ∃ t, u = Value.float b t
  | .ref a, u => u = Value.ref a
  | .ty n, u => u = Value.type n

abbrev Vals : List V → List Value → Prop := Paired RelV
theorem Vals.length {xs : List V} {us : List Value} (r : Vals xs us) : xs.length = us.length := Paired.length r
theorem Vals.get : ∀ {xs : List V} {us : List Value} {i : Nat} {x : V}, Vals xs us → xs[i]? = some x → ∃ u, us[i]? = some u ∧ RelV x u
  | _, _, _, _, .nil, e => by simp at e
  | _, _, 0, _, .cons r _, e => by simp at e; subst e; exact ⟨_, rfl, r⟩
  | _, _, i + 1, x, .cons _ t, e => by
    obtain ⟨u, h1, h2⟩ := Vals.get (i := i) (x := x) t (by simpa using e)
    exact ⟨u, by simpa using h1, h2⟩
theorem Vals.set {x : V} {u : Value} (r : RelV x u) : ∀ {xs : List V} {us : List Value} (i : Nat), Vals xs us → Vals (xs.set i x) (us.set i u)
  | _, _, _, .nil => .nil
  | _, _, 0, .cons _ t => .cons r t
  | _, _, i + 1, .cons q t => .cons q (Vals.set r i t)
theorem Vals.append : ∀ {xs ys : List V} {us ws : List Value}, Vals xs us → Vals ys ws → Vals (xs ++ ys) (us ++ ws)
  | _, _, _, _, .nil, s => s
  | _, _, _, _, .cons r t, s => .cons r (Vals.append t s)
theorem Vals.take : ∀ {xs : List V} {us : List Value} (n : Nat), Vals xs us → Vals (xs.take n) (us.take n)
  | _, _, 0, _ => .nil
  | _, _, _ + 1, .nil => .nil
  | _, _, n + 1, .cons r t => .cons r (Vals.take n t)
theorem Vals.drop : ∀ {xs : List V} {us : List Value} (n : Nat), Vals xs us → Vals (xs.drop n) (us.drop n)
  | _, _, 0, r => r
  | _, _, _ + 1, .nil => .nil
  | _, _, n + 1, .cons _ t => Vals.drop n t
theorem Vals.none_of : ∀ {xs : List V} {us : List Value} {i : Nat}, Vals xs us → xs[i]? = none → us[i]? = none := fun {xs us i} r e => by
  have h1 := r.length
  have h2 : xs.length ≤ i := List.getElem?_eq_none_iff.mp e
  exact List.getElem?_eq_none_iff.mpr (by omega)

def RelO : Option V → Option Value → Prop
  | some v, some u => RelV v u
  | none, none => True
  | _, _ => False
def KV {κ : Type} : List (κ × V) → List (κ × Value) → Prop := Paired fun (p : κ × V) (q : κ × Value) => p.1 = q.1 ∧ RelV p.2 q.2

/-- a key of a dict (00_mix): an int or a text -/
def kV : Key → V
  | .inl i => .int i
  | .inr x => .str x

/-- what stands at a tracked address -/
inductive HO where
  /-- a list -/
  | lst (xs : List V)
  /-- a tuple (never changes) -/
  | tup (xs : List V)
  /-- a dict whose keys are ints and texts; one whose keys are tuples of ints and texts (the empty one is both) -/
  | dK (kvs : List (Key × V)) | dT (kvs : List (List Key × V))
  /-- a set of ints: its members, its size -/
  | set (S : Int → Bool) (n : Nat)
  /-- an instance of the class at C, its dict at dx, its attributes -/
  | ins (C dx : Addr) (fs : List (Str × V))
  /-- the dict of the instance at x -/
  | own (x : Addr)
  /-- the dict of an exception -/
  | xd (fs : List (Str × V))
  /-- a bound method, f of x -/
  | met (f x : Addr)
  /-- a range object lo, lo + 1, .. below hi -/
  | rng (lo hi : Int)
  /-- a thing that is known to the object (the script; a dict while a loop walks it): read, never written while it is so -/
  | frz (o : Obj) (u : HO)
  /-- a code object's table -/
  | tbl (ps : Array Value)
  /-- any other thing, by what is true of its one object (a def of one's own: SetO a S n := HO.ext fun h => ..) -/
  | ext (φ : Heap → Prop)

abbrev Hp := Addr → Option HO
def upd (H : Hp) (a : Addr) (o : HO) : Hp := fun b => if b = a then some o else H b
theorem upd_same {H : Hp} {a : Addr} {o : HO} : upd H a o a = some o := by unfold upd; rw [if_pos rfl]
theorem upd_ne {H : Hp} {a b : Addr} {o : HO} (h : b ≠ a) : upd H a o b = H b := by unfold upd; rw [if_neg h]
theorem upd_upd {H : Hp} {a : Addr} {o u : HO} : upd (upd H a o) a u = upd H a u := by
  funext b; unfold upd; split <;> rfl
/-- two objects of different content stand apart -/
theorem ne_of {H : Hp} {a b : Addr} {o u : HO} (h : H a = some o) (h' : H b = some u) (d : o ≠ u) : a ≠ b := by
  intro e; subst e; rw [h] at h'; exact d (Option.some.inj h')
theorem ne_of_none {H : Hp} {a b : Addr} {o : HO} (h : H a = some o) (h' : H b = none) : a ≠ b := by
  intro e; subst e; rw [h] at h'; cases h'

section
variable (P : Program) (w : World)
def ObjOk (H : Hp) (h : Heap) (a : Addr) : HO → Prop
  | .lst xs => xs.length ≤ sizeLine ∧ ∃ (its : List Value) (n : Nat), Vals xs its ∧ h.get? a = some { cls := .type "list", data := .seq its.toArray n }
  | .tup xs => xs.length ≤ sizeLine ∧ ∃ its : List Value, Vals xs its ∧ IsTup h a its.toArray
  | .dK kvs => kvs.length ≤ sizeLine ∧ (a == sysModules) = false ∧ ∃ vs, KV kvs vs ∧ h.DictOf (mixKind P w) a vs
  | .dT kvs => kvs.length ≤ sizeLine ∧ (a == sysModules) = false ∧ ∃ xs : List (List Key × Addr × Value),
      Paired (fun (p : List Key × V) (q : List Key × Addr × Value) => p.1 = q.1 ∧ H q.2.1 = some (.tup (p.1.map kV)) ∧ RelV p.2 q.2.2) kvs xs ∧
      ∃ o es ep, h.get? a = some o ∧ o.ExactDict ∧ o.data = .dict es ep ∧ es.toList = xs.map (entryOfKey (tupleKind (mixKind P w))) ∧ (xs.map (·.1)).Nodup
  | .set S n => h.SetOf (intKind P w) a S n
  | .ins C dx fs => H dx = some (.own a) ∧ fs.length ≤ 1000 ∧ dx ≠ a ∧ h.get? a = some (PySem.W.instObj C dx) ∧
      ∃ mA, h.Ns1 dx mA ∧ (∀ f, RelO (fs.lookup f) (mA f)) ∧ PySem.Within mA (fs.map (·.1))
  | .own _ => ∃ o, h.get? a = some o
  | .xd fs => ∃ mA, h.Ns1 a mA ∧ ∀ f, RelO (fs.lookup f) (mA f)
  | .rng lo hi => ∃ t u v, h.get? a = some { cls := .type "range", data := .fields #[.int lo t, .int hi u, .int 1 v] }
  | .frz o u => h.get? a = some o ∧ ObjOk H h a u
  | .tbl ps => ∃ qs : Array Value, h.get? a = some { cls := .none, data := .fields qs } ∧ (qs = #[] ∨ ∃ (c : Addr) (oc : Obj) (vs : Array Value) (l k : Value) (q : Str) (t t' : Tok) (more : List Value),
      ps.toList = l :: k :: .str q t :: more ∧ qs = #[l, k, .ref c] ∧ H c = some (.own a) ∧ h.get? c = some oc ∧ oc.data = .fields vs ∧ vs[1]? = some (.str q t'))
  | .met f x => h.get? a = some (PySem.W.methodObj (.ref f) (.ref x))
  | .ext φ => φ h ∧ (∃ o, h.get? a = some o) ∧ ∀ h1 h2 : Heap, φ h1 → (∀ o, h1.get? a = some o → h2.get? a = some o) → φ h2
/-- the abstract heap is held -/
def HOk (H : Hp) (h : Heap) : Prop := ∀ a o, H a = some o → ObjOk P w H h a o
end

section
variable {P : Program} {w : World} {H H' : Hp} {h h' : Heap} {a : Addr} {o : HO}
theorem ObjOk.lt (x : ObjOk P w H h a o) : a < h.objs.size := by
  cases o with
  | lst xs => obtain ⟨_, _, _, _, e⟩ := x; exact Heap.lt_size e
  | tup xs => obtain ⟨_, _, _, p⟩ := x; exact p.lt
  | dK kvs => obtain ⟨_, _, _, _, o, _, _, e, _⟩ := x; exact Heap.lt_size e
  | dT kvs => obtain ⟨_, _, _, _, o, _, _, e, _⟩ := x; exact Heap.lt_size e
  | set S n => obtain ⟨o, _, _, _, e, _⟩ := x; exact Heap.lt_size e
  | ins C dx fs => obtain ⟨_, _, _, e, _⟩ := x; exact Heap.lt_size e
  | own y => obtain ⟨_, e⟩ := x; exact Heap.lt_size e
  | xd fs => obtain ⟨_, ⟨_, _, _, e, _⟩, _⟩ := x; exact Heap.lt_size e
  | rng lo hi => obtain ⟨_, _, _, e⟩ := x; exact Heap.lt_size e
  | frz ob u => obtain ⟨e, _⟩ := x; exact Heap.lt_size e
  | tbl ps => obtain ⟨_, e, _⟩ := x; exact Heap.lt_size e
  | met f y => exact Heap.lt_size (show h.get? a = some _ from x)
  | ext φ => obtain ⟨_, ⟨_, e⟩, _⟩ := x; exact Heap.lt_size e
theorem Paired.mapP {α β : Type} {F G : α → β → Prop} : ∀ {l₁ : List α} {l₂ : List β}, Paired F l₁ l₂ → (∀ a b, F a b → G a b) → Paired G l₁ l₂
  | _, _, .nil, _ => .nil
  | _, _, .cons r t, f => .cons (f _ _ r) (Paired.mapP t f)
theorem Paired.imp' {α β : Type} {F G : α → β → Prop} (f : ∀ a b, F a b → G a b) {l₁ : List α} {l₂ : List β} (r : Paired F l₁ l₂) : Paired G l₁ l₂ := Paired.mapP r f
/-- what an object's description leans on: its own object, its own dict, the tuples -/
theorem ObjOk.stay (x : ObjOk P w H h a o) (k : ∀ b u, (b = a ∨ H b = some (.own a)) → h.get? b = some u → h'.get? b = some u)
    (ho : ∀ b, H b = some (.own a) → H' b = some (.own a)) (ht : ∀ b xs, H b = some (.tup xs) → H' b = some (.tup xs)) : ObjOk P w H' h' a o := by
  induction o with
  | lst xs => obtain ⟨z, its, n, r, e⟩ := x; exact ⟨z, its, n, r, k _ _ (.inl rfl) e⟩
  | tup xs => obtain ⟨z, its, r, ob, e, c⟩ := x; exact ⟨z, its, r, ob, k _ _ (.inl rfl) e, c⟩
  | dK kvs => obtain ⟨z, y, vs, r, ob, es, ep, e, c⟩ := x; exact ⟨z, y, vs, r, ob, es, ep, k _ _ (.inl rfl) e, c⟩
  | dT kvs =>
    obtain ⟨z, y, xs, r, ob, es, ep, e, c⟩ := x
    exact ⟨z, y, xs, Paired.mapP r fun p q z => ⟨z.1, ht _ _ z.2.1, z.2.2⟩, ob, es, ep, k _ _ (.inl rfl) e, c⟩
  | set S n => obtain ⟨ob, es, ep, t, e, c⟩ := x; exact ⟨ob, es, ep, t, k _ _ (.inl rfl) e, c⟩
  | ins C dx fs =>
    obtain ⟨d, z, ne, e, mA, ⟨od, es, ep, e2, c⟩, r⟩ := x
    exact ⟨ho _ d, z, ne, k _ _ (.inl rfl) e, mA, ⟨od, es, ep, k _ _ (.inr d) e2, c⟩, r⟩
  | own y => obtain ⟨ob, e⟩ := x; exact ⟨ob, k _ _ (.inl rfl) e⟩
  | xd fs => obtain ⟨mA, ⟨od, es, ep, e, c⟩, r⟩ := x; exact ⟨mA, ⟨od, es, ep, k _ _ (.inl rfl) e, c⟩, r⟩
  | rng lo hi => obtain ⟨t, u, v, e⟩ := x; exact ⟨t, u, v, k _ _ (.inl rfl) e⟩
  | frz ob u ih => obtain ⟨e, q⟩ := x; exact ⟨k _ _ (.inl rfl) e, ih q⟩
  | tbl ps =>
    obtain ⟨qs, e, r⟩ := x
    refine ⟨qs, k a _ (.inl rfl) e, ?_⟩
    rcases r with r | ⟨c, oc, vs, l, kk, q, t, t', more, h1, h2, h3, h4, h5, h6⟩
    · exact .inl r
    · exact .inr ⟨c, oc, vs, l, kk, q, t, t', more, h1, h2, ho _ h3, k c _ (.inr h3) h4, h5, h6⟩
  | met f y =>
    have e : h.get? a = some (PySem.W.methodObj (.ref f) (.ref y)) := x
    show h'.get? a = some (PySem.W.methodObj (.ref f) (.ref y))
    exact k a _ (.inl rfl) e
  | ext φ => obtain ⟨p, ⟨o, e⟩, st⟩ := x; exact ⟨st _ _ p fun o q => k _ _ (.inl rfl) q, ⟨o, k _ _ (.inl rfl) e⟩, st⟩
theorem HOk.lt (x : HOk P w H h) (e : H a = some o) : a < h.objs.size := (x a o e).lt
theorem HOk.fresh (x : HOk P w H h) (e : h.objs.size ≤ a) : H a = none := by
  cases q : H a with
  | none => rfl
  | some u => exact absurd (Nat.lt_of_lt_of_le (x.lt q) e) (Nat.lt_irrefl _)
/-- every object of the heap is kept -/
theorem HOk.kept (x : HOk P w H h) (k : ∀ b u, h.get? b = some u → h'.get? b = some u) : HOk P w H h' := fun a o e =>
  (x a o e).stay (fun b u _ q => k b u q) (fun _ q => q) fun _ _ q => q
/-- a new object is laid and tracked -/
theorem HOk.laid (x : HOk P w H h) (k : ∀ b u, h.get? b = some u → h'.get? b = some u) (hp : h.objs.size ≤ a) (new : ObjOk P w (upd H a o) h' a o) : HOk P w (upd H a o) h' := fun b u e => by
  have hn := x.fresh hp
  by_cases hb : b = a
  · subst hb; rw [upd_same] at e; cases e; exact new
  · rw [upd_ne hb] at e
    exact (x b u e).stay (fun c v _ q => k c v q) (fun c q => by rw [upd_ne (ne_of_none q hn)]; exact q) fun c xs q => by rw [upd_ne (ne_of_none q hn)]; exact q
end

/-- what may be read as u: it is u, or a known u -/
def Rd (H : Hp) (a : Addr) (u : HO) : Prop := H a = some u ∨ ∃ o, H a = some (.frz o u)
theorem Rd.of {H : Hp} {a : Addr} {u : HO} (h : H a = some u) : Rd H a u := .inl h
theorem Rd.ok {P : Program} {w : World} {H : Hp} {h : Heap} {a : Addr} {u : HO} (r : Rd H a u) (x : HOk P w H h) : ObjOk P w H h a u := by
  rcases r with r | ⟨o, r⟩
  · exact x a u r
  · obtain ⟨_, q⟩ := x a _ r
    exact q
/-- what may be written -/
def Mut : Option HO → Prop
  | some (.lst _) => True
  | some (.dK _) => True
  | some (.dT _) => True
  | some (.set _ _) => True
  | some (.ins _ _ _) => True
  | some (.ext _) => True
  | _ => False
section
variable {P : Program} {w : World} {H : Hp} {h h' : Heap} {x e : Addr} {o' : HO}
/-- the object at e is changed: x itself, or the dict of the instance x -/
theorem HOk.write (ok : HOk P w H h) (mu : Mut (H x)) (he : e = x ∨ H e = some (.own x)) (k : ∀ b u, b ≠ e → h.get? b = some u → h'.get? b = some u) (heo : ∃ u, h'.get? e = some u)
    (new : ObjOk P w (upd H x o') h' x o') : HOk P w (upd H x o') h' := fun b u q => by
  have nown : ∀ c y, H c = some (.own y) → c ≠ x := fun c y r z => by subst z; rw [r] at mu; exact mu
  have ntup : ∀ c xs, H c = some (.tup xs) → c ≠ x := fun c xs r z => by subst z; rw [r] at mu; exact mu
  by_cases hb : b = x
  · subst hb; rw [upd_same] at q; cases q; exact new
  · rw [upd_ne hb] at q
    by_cases hbe : b = e
    · have q' : H b = some (.own x) := by
        rcases he with z | z
        · exact absurd (hbe.trans z) hb
        · rw [hbe]; exact z
      rw [q] at q'; cases q'
      obtain ⟨v, hv⟩ := heo
      exact ⟨v, by rw [hbe]; exact hv⟩
    · refine (ok b u q).stay (fun c v hc r => k c v ?_ r) (fun c r => by rw [upd_ne (nown c b r)]; exact r) fun c xs r => by rw [upd_ne (ntup c xs r)]; exact r
      rcases hc with rfl | hc
      · exact hbe
      · rintro rfl
        rcases he with z | z
        · exact nown c b hc z
        · rw [hc] at z; cases z; exact hb rfl
end

/-! ### kept unless tracked; of the frames at fs (the callers') the slots may change (an exception that passes writes there); of the records at ex (iterators) nothing is said -/
structure Un (fs ex : List Addr) (H H' : Hp) (h h' : Heap) : Prop where
  keep : ∀ b o, h.get? b = some o → H b = none → b ∉ fs → b ∉ ex → h'.get? b = some o
  slot : ∀ b o, h.get? b = some o → H b = none → b ∈ fs → b ∉ ex → ∃ sl, h'.get? b = some { o with slots := sl }
  free : ∀ b o, h.get? b = some o → H b = none → b ∉ ex → H' b = none
  there : ∀ b o, h.get? b = some o → b ∉ ex → ∃ o', h'.get? b = some o'
  tups : ∀ b xs, H b = some (.tup xs) → H' b = some (.tup xs)
  frzs : ∀ b o u, H b = some (.frz o u) → H' b = some (.frz o u)
  tbls : ∀ b ps, H b = some (.tbl ps) → ∃ more, H' b = some (.tbl (ps ++ more))
section
variable {fs fs' ex ex' : List Addr} {H H1 H2 : Hp} {h h1 h2 h' : Heap} {a x e : Addr} {o : HO}
theorem Un.any (u : Un fs ex H H1 h h1) {b : Addr} {ob : Obj} (q : h.get? b = some ob) (n : H b = none) (hx : b ∉ ex) : ∃ sl, h1.get? b = some { ob with slots := sl } := by
  by_cases hb : b ∈ fs
  · exact u.slot b ob q n hb hx
  · exact ⟨ob.slots, u.keep b ob q n hb hx⟩
theorem Un.trans (a : Un fs ex H H1 h h1) (b : Un fs ex H1 H2 h1 h2) : Un fs ex H H2 h h2 where
  keep := fun c ob q n hc hx => b.keep c ob (a.keep c ob q n hc hx) (a.free c ob q n hx) hc hx
  slot := fun c ob q n hc hx => by
    obtain ⟨sl, e1⟩ := a.slot c ob q n hc hx
    obtain ⟨sl', e2⟩ := b.slot c _ e1 (a.free c ob q n hx) hc hx
    exact ⟨sl', e2⟩
  free := fun c ob q n hx => by
    obtain ⟨o', e1⟩ := a.there c ob q hx
    exact b.free c o' e1 (a.free c ob q n hx) hx
  there := fun c ob q hx => by
    obtain ⟨o', e1⟩ := a.there c ob q hx
    exact b.there c o' e1 hx
  tups := fun c xs q => b.tups c xs (a.tups c xs q)
  frzs := fun c ob xs q => b.frzs c ob xs (a.frzs c ob xs q)
  tbls := fun c ps q => by
    obtain ⟨m1, e1⟩ := a.tbls c ps q
    obtain ⟨m2, e2⟩ := b.tbls c _ e1
    exact ⟨m1 ++ m2, by rw [e2, Array.append_assoc]⟩
theorem Un.kept (k : ∀ b u, h.get? b = some u → h'.get? b = some u) : Un fs ex H H h h' :=
  ⟨fun b ob q _ _ _ => k b ob q, fun b ob q _ _ _ => ⟨ob.slots, k b ob q⟩, fun _ _ _ n _ => n, fun b ob q _ => ⟨ob, k b ob q⟩, fun _ _ q => q, fun _ _ _ q => q, fun _ ps q => ⟨#[], by rw [q]; simp⟩⟩
theorem Un.refl : Un fs ex H H h h := Un.kept fun _ _ q => q
theorem Un.laid (k : ∀ b u, h.get? b = some u → h'.get? b = some u) (hp : h.objs.size ≤ a) (hn : H a = none) : Un fs ex H (upd H a o) h h' where
  keep := fun b u q _ _ _ => k b u q
  slot := fun b u q _ _ _ => ⟨u.slots, k b u q⟩
  free := fun b u q n _ => by rw [upd_ne (Nat.ne_of_lt (Nat.lt_of_lt_of_le (Heap.lt_size q) hp))]; exact n
  there := fun b u q _ => ⟨u, k b u q⟩
  tups := fun b xs q => by rw [upd_ne (ne_of_none q hn)]; exact q
  frzs := fun b u xs q => by rw [upd_ne (ne_of_none q hn)]; exact q
  tbls := fun b ps q => ⟨#[], by rw [upd_ne (ne_of_none q hn), q]; simp⟩
theorem Un.write (mu : Mut (H x)) (he : e = x ∨ H e = some (.own x)) (k : ∀ b u, b ≠ e → h.get? b = some u → h'.get? b = some u) (heo : ∃ u, h'.get? e = some u) : Un fs ex H (upd H x o) h h' := by
  have hx : ∀ b, H b = none → b ≠ x := fun b n z => by subst z; rw [n] at mu; exact mu
  have hb : ∀ b, H b = none → b ≠ e := fun b n z => by
    subst z
    rcases he with r | r
    · exact hx b n r
    · rw [n] at r; cases r
  have hm : ∀ b u, H b = some u → ¬ Mut (some u) → b ≠ x := fun b u q nm z => by subst z; rw [q] at mu; exact nm mu
  refine ⟨fun b u q n _ _ => k b u (hb b n) q, fun b u q n _ _ => ⟨u.slots, k b u (hb b n) q⟩, fun b u q n _ => by rw [upd_ne (hx b n)]; exact n, fun b u q _ => ?_,
    fun b xs q => by rw [upd_ne (hm b _ q fun z => z)]; exact q, fun b u xs q => by rw [upd_ne (hm b _ q fun z => z)]; exact q, fun b ps q => ⟨#[], by rw [upd_ne (hm b _ q fun z => z), q]; simp⟩⟩
  by_cases hbe : b = e
  · subst hbe; exact heo
  · exact ⟨u, k b u hbe q⟩
theorem Un.mono (u : Un fs ex H H1 h h1) (hs : ∀ b ∈ fs, b ∈ fs') (hx : ∀ b ∈ ex, b ∈ ex') : Un fs' ex' H H1 h h1 :=
  ⟨fun b ob q n hb he => u.keep b ob q n (fun z => hb (hs b z)) fun z => he (hx b z), fun _ _ q n _ he => u.any q n fun z => he (hx _ z), fun b ob q n he => u.free b ob q n fun z => he (hx b z), fun b ob q he => u.there b ob q fun z => he (hx b z), u.tups, u.frzs, u.tbls⟩
end

/-! ### the heap without what is tracked -/
def trk (h : Heap) (H : Hp) : List Addr := (List.range h.objs.size).filter fun a => (H a).isSome
def hidT (h : Heap) (H : Hp) : Heap := PySem.W.hideAll h (trk h H)
theorem hidT_size (h : Heap) (H : Hp) : (hidT h H).objs.size = h.objs.size := PySem.W.hideAll_size _ _
theorem hidT_get {h : Heap} {H : Hp} {b : Addr} {o : Obj} (e : h.get? b = some o) (n : H b = none) : (hidT h H).get? b = some o :=
  PySem.W.hideAll_get _ e fun hm => by
    have q : (H b).isSome = true := (List.mem_filter.mp hm).2
    rw [n] at q; simp at q
theorem of_hidT {h : Heap} {H : Hp} {b : Addr} {o : Obj} (e : (hidT h H).get? b = some o) : h.get? b = some o ∧ H b = none := by
  have e' : h.get? b = some o := PySem.W.of_hideAll (trk h H) e
  refine ⟨e', ?_⟩
  cases q : H b with
  | none => rfl
  | some x =>
    have hm : b ∈ trk h H := List.mem_filter.mpr ⟨List.mem_range.mpr (Heap.lt_size e'), by simp [q]⟩
    have z : (hidT h H).get? b = none := PySem.W.hideAll_none (trk h H) hm
    rw [z] at e; cases e

/-! ### OpenK's ledger, filled with every new object but one -/
def allNews (g h : Heap) (L : Addr) : List (Addr × Obj) := (List.range h.objs.size).filterMap fun a => if a = L ∨ (g.get? a).isSome = true then none else (h.get? a).map fun o => (a, o)
theorem mem_allNews {g h : Heap} {L a : Addr} {o : Obj} (h1 : a ≠ L) (h2 : g.get? a = none) (h3 : h.get? a = some o) : (a, o) ∈ allNews g h L :=
  List.mem_filterMap.mpr ⟨a, List.mem_range.mpr (Heap.lt_size h3), by simp [h1, h2, h3]⟩
theorem of_mem_allNews {g h : Heap} {L : Addr} {p : Addr × Obj} (hp : p ∈ allNews g h L) : p.1 ≠ L ∧ g.get? p.1 = none ∧ h.get? p.1 = some p.2 := by
  obtain ⟨b, _, e⟩ := List.mem_filterMap.mp hp
  split at e
  · cases e
  · rename_i hn
    cases q : h.get? b with
    | none => rw [q] at e; simp at e
    | some u =>
      rw [q] at e
      simp only [Option.map_some, Option.some.injEq] at e
      subst e
      refine ⟨fun z => hn (.inl z), ?_, q⟩
      show g.get? b = none
      cases r : g.get? b with
      | none => rfl
      | some v => exact (hn (.inr (by simp [r]))).elim
def rest (g h : Heap) (L d : Addr) : List (Addr × Obj) := (allNews g h L).filter fun p => decide (p.1 ≠ d)
theorem rest_ne {g h : Heap} {L d : Addr} : ∀ p ∈ rest g h L d, p.1 ≠ d := fun p hp => of_decide_eq_true (List.mem_filter.mp hp).2
theorem mem_rest {g h : Heap} {L d a : Addr} {o : Obj} (h1 : a ≠ L) (h2 : g.get? a = none) (h3 : h.get? a = some o) (h4 : a ≠ d) : (a, o) ∈ rest g h L d :=
  List.mem_filter.mpr ⟨mem_allNews h1 h2 h3, decide_eq_true h4⟩
theorem news_all {g h : Heap} {L : Addr} : News g L h (allNews g h L) := fun p hp => let ⟨a, b, c⟩ := of_mem_allNews hp; ⟨c, a, b⟩
theorem news_at {g h : Heap} {L d : Addr} {o : Obj} (h1 : d ≠ L) (h2 : g.get? d = none) (h3 : h.get? d = some o) : News g L h ((d, o) :: rest g h L d) := fun p hp => by
  rcases List.mem_cons.mp hp with rfl | hp
  · exact ⟨h3, h1, h2⟩
  · exact news_all p (List.mem_filter.mp hp).1
/-- behind a rule that changed d alone: all else but the frame is kept -/
theorem kept_of_news {g h h' : Heap} {L d : Addr} {m : Str → Option Value} (k : ∀ b o, g.get? b = some o → h.get? b = some o) (F : Fr g L h' m) (N : News g L h' (rest g h L d)) :
    ∀ b o, b ≠ L → b ≠ d → h.get? b = some o → h'.get? b = some o := fun b o h1 h2 e => by
  cases q : g.get? b with
  | some u =>
    have := k b u q
    rw [e] at this; cases this
    exact F.keep b _ q
  | none => exact (N (b, o) (mem_rest h1 q e h2)).1
end L2

namespace L2
open PySem PySem.Spec PyProof.Rows

/-- the module's facts, over the base: the heap at the law's entry without what is tracked there -/
structure Mod (K : PySem.W.Frag) (mg : Str → Option Value) (base : Heap) : Prop where
  kin : K.In base
  glob : base.Ns mainGlobals mg
  blt : ∃ mb, base.Ns builtinsNs mb ∧ ∀ x : Str, x ≠ "__name__" → mb x = bootBuiltins x
  nolimit : base.NoLimit

/-- the context: a def's body (or a comprehension's block) running. base: fixed through the whole law; s₀, H₀: the entry; outer: the frames whose slots others may change (a def's callers); stack: all frames that run;
   ex: iterators that were made ahead of the entry and are walked here (a comprehension's); fn: the names whose cells were made at the entry (a def: all; a comprehension's block: its own); calm: not within an except suite; pn: pins that every state bears; xe: what is wanted of an exception that leaves the code -/
structure Cx where
  prog : Program
  w : World
  K : PySem.W.Frag
  mg : Str → Option Value
  base : Heap
  A : Around
  N : List Str
  s₀ : Shared
  H₀ : Hp
  env : Env
  outer : List Env
  stack : List Env
  ex : List Addr
  fn : Str → Bool
  calm : Bool
  pn : List (Addr × Obj)
  xe : Value → Shared → Prop
/-- the callers' frames -/
def frs (l : List Env) : List Addr := l.filterMap (·.frame)
abbrev Cx.fs (X : Cx) : List Addr := frs X.outer

def Vis (sc : Scope) (x : Str) : Prop := sc.names.lookup x = some .local ∨ sc.names.lookup x = some .cell ∨ sc.names.lookup x = some .free
def Loc (sc : Scope) (x : Str) : Prop := sc.names.lookup x = some .local ∨ sc.names.lookup x = some .cell
def Look (env : Env) (h : Heap) (m : Str → Option Value) (x : Str) (u : Value) : Prop :=
  (env.kindOf x = some .local ∧ m x = some u) ∨ ((env.kindOf x = some .cell ∨ env.kindOf x = some .free) ∧ ∃ c, env.cells.lookup x = some c ∧ h.IsCell c (some u))

structure Cx.Ok (X : Cx) : Prop where
  mod : Mod X.K X.mg X.base
  kind : X.env.scope.kind = .function
  glob : X.env.globals = mainGlobals
  blt : X.env.builtins = builtinsNs
  above : X.s₀.heap.objs.size ≤ X.env.locals
  inj : ∀ x y c, X.env.cells.lookup x = some c → X.env.cells.lookup y = some c → x = y
  has : ∀ x, (X.env.kindOf x = some .cell ∨ X.env.kindOf x = some .free) → ∃ c, X.env.cells.lookup x = some c
  cab : ∀ x c, X.fn x = true → X.env.cells.lookup x = some c → X.s₀.heap.objs.size ≤ c
  hd : X.calm = true → X.A.handled = none
  frames : X.A.frames = some X.stack
  stk : X.stack = X.outer ∨ (X.stack = X.env :: X.outer ∧ X.env.frame = some X.env.locals)
  exf : ∀ b ∈ X.ex, b ≠ X.env.locals ∧ ∀ x c, X.env.cells.lookup x = some c → c ≠ b
  bs : ∀ b o, X.base.get? b = some o → X.s₀.heap.get? b = some o ∧ X.H₀ b = none
  bsz : X.base.objs.size ≤ X.s₀.heap.objs.size
  noex : ∀ b o, X.base.get? b = some o → b ∉ X.ex
  exfs : ∀ b ∈ X.ex, b ∉ X.fs
  funs : X.s₀.heap.FunFrames X.base X.outer
  frf : ∀ b ∈ X.fs, X.H₀ b = none

structure Inv (X : Cx) (pins : List (Addr × Obj)) (σ : List (Option V)) (H : Hp) (s : Shared) : Prop where
  ok : X.Ok
  os : s.os = X.s₀.os
  bare : AllBare s.gens
  base : Un X.fs X.ex X.H₀ H X.s₀.heap s.heap
  loc : ∃ m, s.heap.Ns X.env.locals m ∧ ∀ (i : Nat) (x : Str) (v : V), X.N[i]? = some x → σ[i]? = some (some v) → Vis X.env.scope x → ∃ u, RelV v u ∧ Look X.env s.heap m x u
  cell : ∀ x c, X.env.cells.lookup x = some c → ∃ v, s.heap.IsCell c v
  free : H X.env.locals = none
  freeC : ∀ x c, X.env.cells.lookup x = some c → H c = none
  pin : ∀ p ∈ X.pn ++ pins, s.heap.get? p.1 = some p.2 ∧ H p.1 = none ∧ p.1 ≠ X.env.locals ∧ p.1 ∉ X.fs ∧ ∀ v, p.2.data ≠ .cell v
  hok : HOk X.prog X.w H s.heap
  len : σ.length = X.N.length

section
variable {X : Cx} {pins : List (Addr × Obj)} {σ : List (Option V)} {H H' : Hp} {s : Shared} {h' : Heap}

theorem Cx.Ok.nofr (ok : X.Ok) {b : Addr} {o : Obj} (e : X.base.get? b = some o) : b ∉ X.fs := fun hb => by
  have := (ok.funs.mem hb).1
  rw [e] at this; cases this
theorem Inv.bs (I : Inv X pins σ H s) : ∀ b o, X.base.get? b = some o → s.heap.get? b = some o ∧ H b = none := fun b o e =>
  ⟨I.base.keep b o (I.ok.bs b o e).1 (I.ok.bs b o e).2 (I.ok.nofr e) (I.ok.noex b o e), I.base.free b o (I.ok.bs b o e).1 (I.ok.bs b o e).2 (I.ok.noex b o e)⟩
theorem Inv.bk (I : Inv X pins σ H s) : ∀ b o, X.base.get? b = some o → s.heap.get? b = some o := fun b o e => (I.bs b o e).1
theorem Inv.mod (I : Inv X pins σ H s) : Mod X.K X.mg X.base := I.ok.mod
theorem Inv.kIn (I : Inv X pins σ H s) : X.K.In s.heap := I.ok.mod.kin.keeps I.bk
theorem Inv.nolimit (I : Inv X pins σ H s) : s.heap.NoLimit := I.ok.mod.nolimit.keeps I.bk
/-- the frame over the base: for OpenK's rules (K.In X.base is I.mod.kin) -/
theorem Inv.fr (I : Inv X pins σ H s) : ∃ m, Fr X.base X.env.locals s.heap m :=
  let ⟨m, hn, _⟩ := I.loc
  ⟨m, hn, I.bk, Nat.le_trans I.ok.bsz I.ok.above⟩
theorem Inv.lt (I : Inv X pins σ H s) : X.env.locals < s.heap.objs.size := let ⟨_, hn, _⟩ := I.loc; hn.lt
theorem Inv.sz (I : Inv X pins σ H s) : X.s₀.heap.objs.size ≤ s.heap.objs.size := Nat.le_trans I.ok.above (Nat.le_of_lt I.lt)
theorem Inv.nofs (I : Inv X pins σ H s) {a : Addr} (h : s.heap.objs.size ≤ a) : a ∉ X.fs := fun hb => by
  obtain ⟨_, o, ho, _⟩ := I.ok.funs.mem hb
  exact absurd (Nat.lt_of_lt_of_le (Heap.lt_size ho) (Nat.le_trans I.sz h)) (Nat.lt_irrefl _)
theorem Inv.cne (I : Inv X pins σ H s) : ∀ x c, X.env.cells.lookup x = some c → c ≠ X.env.locals := fun x c e z => by
  obtain ⟨v, o, ho, hd⟩ := I.cell x c e
  obtain ⟨m, ⟨o', es, ep, ho', hd', _⟩, _⟩ := I.loc
  rw [z, ho'] at ho; cases ho; rw [hd'] at hd; cases hd
theorem Inv.funs (I : Inv X pins σ H s) : s.heap.FunFrames X.base X.outer := by
  have all : ∀ (l : List Env), (∀ b ∈ frs l, b ∈ X.fs) → X.s₀.heap.FunFrames X.base l → s.heap.FunFrames X.base l := by
    intro l
    induction l with
    | nil => intro _ _; trivial
    | cons env r ih =>
      intro hs hl
      obtain ⟨hk, ⟨L, o, hf, hn, ho, hd⟩, hr⟩ := hl
      have hL : L ∈ X.fs := hs L (by unfold frs; rw [List.filterMap_cons, hf]; exact List.mem_cons_self)
      obtain ⟨sl, e⟩ := I.base.slot L o ho (I.ok.frf L hL) hL fun z => I.ok.exfs L z hL
      exact ⟨hk, ⟨L, _, hf, hn, e, hd⟩, ih (fun b hb => hs b (by unfold frs; rw [List.filterMap_cons, hf]; exact List.mem_cons_of_mem _ hb)) hr⟩
  exact all X.outer (fun _ hb => hb) I.ok.funs

/-- the frames that run, for a call -/
theorem Inv.stack (I : Inv X pins σ H s) : s.heap.FunFrames X.base X.stack := by
  rcases I.ok.stk with e | ⟨e, hf⟩
  · rw [e]; exact I.funs
  · rw [e]
    obtain ⟨m, hn, _⟩ := I.loc
    refine .cons (by rw [I.ok.kind]; decide) hf hn ?_ I.funs
    exact Heap.get?_none_of_le (Nat.le_trans I.ok.bsz I.ok.above)
theorem Inv.stkSub (I : Inv X pins σ H s) : ∀ b ∈ frs X.stack, b ∈ X.env.locals :: X.fs := fun b hb => by
  rcases I.ok.stk with e | ⟨e, hf⟩
  · rw [e] at hb; exact List.mem_cons_of_mem _ hb
  · rw [e] at hb
    unfold frs at hb
    rw [List.filterMap_cons, hf] at hb
    exact hb
theorem Inv.stkFree (I : Inv X pins σ H s) : ∀ b ∈ frs X.stack, H b = none := fun b hb => by
  rcases List.mem_cons.mp (I.stkSub b hb) with e | hb
  · rw [e]; exact I.free
  · obtain ⟨_, o, ho, _⟩ := I.ok.funs.mem hb
    exact I.base.free b o ho (I.ok.frf b hb) fun z => I.ok.exfs b z hb

/-- THE STEP: the untracked objects but the frame and the records at ch are kept (the callers' frames up to slots), the frame's map is kept, the new abstract heap is held -/
theorem Inv.step {g' : Array GenState} {t' : Nat} {d' : Drawn} {ch : List Addr} (I : Inv X pins σ H s)
    (hch : ∀ b ∈ ch, (b ∈ X.ex ∨ X.s₀.heap.objs.size ≤ b) ∧ b ≠ X.env.locals ∧ (∀ x c, X.env.cells.lookup x = some c → c ≠ b) ∧ ∀ p ∈ X.pn ++ pins, p.1 ≠ b)
    (keep : ∀ b o, b ≠ X.env.locals → b ∉ X.fs → b ∉ ch → s.heap.get? b = some o → H b = none → h'.get? b = some o)
    (slot : ∀ b o, b ≠ X.env.locals → b ∈ X.fs → b ∉ ch → s.heap.get? b = some o → H b = none → ∃ sl, h'.get? b = some { o with slots := sl }) (free : ∀ b o, b ∉ ch → s.heap.get? b = some o → H b = none → H' b = none)
    (there : ∀ b o, b ∉ ch → s.heap.get? b = some o → ∃ o', h'.get? b = some o')
    (tups : ∀ b xs, H b = some (.tup xs) → H' b = some (.tup xs)) (frzs : ∀ b o u, H b = some (.frz o u) → H' b = some (.frz o u)) (tbls : ∀ b ps, H b = some (.tbl ps) → ∃ more, H' b = some (.tbl (ps ++ more)))
    (ns : ∀ m, s.heap.Ns X.env.locals m → h'.Ns X.env.locals m) (hok : HOk X.prog X.w H' h') (hg : AllBare g') :
    Inv X pins σ H' { s with heap := h', gens := g', drawn := d', toks := t' } := by
  have neL : ∀ b o, X.s₀.heap.get? b = some o → b ≠ X.env.locals := fun b o e => Nat.ne_of_lt (Nat.lt_of_lt_of_le (Heap.lt_size e) I.ok.above)
  have neC : ∀ b o, X.s₀.heap.get? b = some o → b ∉ X.ex → b ∉ ch := fun b o e hx hb => by
    rcases (hch b hb).1 with z | z
    · exact hx z
    · exact absurd (Nat.lt_of_lt_of_le (Heap.lt_size e) z) (Nat.lt_irrefl _)
  have cellK : ∀ x c, X.env.cells.lookup x = some c → ∀ v, s.heap.IsCell c v → h'.IsCell c v := fun x c e v ⟨o, ho, hd⟩ => by
    have nch : c ∉ ch := fun z => (hch c z).2.2.1 x c e rfl
    by_cases hc : c ∈ X.fs
    · obtain ⟨sl, q⟩ := slot c o (I.cne x c e) hc nch ho (I.freeC x c e)
      exact ⟨_, q, hd⟩
    · exact ⟨o, keep c o (I.cne x c e) hc nch ho (I.freeC x c e), hd⟩
  refine ⟨I.ok, I.os, hg, ⟨fun b o e n hb hx => ?_, fun b o e n hb hx => ?_, fun b o e n hx => ?_, fun b o e hx => ?_, fun b xs e => tups b xs (I.base.tups b xs e), fun b o xs e => frzs b o xs (I.base.frzs b o xs e), fun b ps e => ?_⟩, ?_, fun x c e => ?_, ?_, fun x c e => ?_, fun p hp => ?_, hok, I.len⟩
  · exact keep b o (neL b o e) hb (neC b o e hx) (I.base.keep b o e n hb hx) (I.base.free b o e n hx)
  · obtain ⟨sl, e1⟩ := I.base.slot b o e n hb hx
    obtain ⟨sl', e2⟩ := slot b _ (neL b o e) hb (neC b o e hx) e1 (I.base.free b o e n hx)
    exact ⟨sl', e2⟩
  · obtain ⟨o', e1⟩ := I.base.there b o e hx
    exact free b o' (neC b o e hx) e1 (I.base.free b o e n hx)
  · obtain ⟨o', e1⟩ := I.base.there b o e hx
    exact there b o' (neC b o e hx) e1
  · obtain ⟨m1, e1⟩ := I.base.tbls b ps e
    obtain ⟨m2, e2⟩ := tbls b _ e1
    exact ⟨m1 ++ m2, by rw [e2, Array.append_assoc]⟩
  · obtain ⟨m, hn, hl⟩ := I.loc
    refine ⟨m, ns m hn, fun i x v e1 e2 e3 => ?_⟩
    obtain ⟨u, r, l⟩ := hl i x v e1 e2 e3
    refine ⟨u, r, ?_⟩
    rcases l with l | ⟨k, c, e, z⟩
    · exact .inl l
    · exact .inr ⟨k, c, e, cellK x c e _ z⟩
  · obtain ⟨v, z⟩ := I.cell x c e
    exact ⟨v, cellK x c e v z⟩
  · obtain ⟨m, ⟨o, _, _, ho, _⟩, _⟩ := I.loc
    exact free _ o (fun z => (hch _ z).2.1 rfl) ho I.free
  · obtain ⟨v, o, ho, hd⟩ := I.cell x c e
    exact free c o (fun z => (hch c z).2.2.1 x c e rfl) ho (I.freeC x c e)
  · obtain ⟨e, n, ne, nf, d⟩ := I.pin p hp
    have nch : p.1 ∉ ch := fun z => (hch p.1 z).2.2.2 p hp rfl
    exact ⟨keep p.1 p.2 ne nf nch e n, free p.1 p.2 nch e n, ne, nf, d⟩
/-- .. where the frame's own object is kept too -/
theorem Inv.un {t' : Nat} (I : Inv X pins σ H s) (u : Un X.fs [] H H' s.heap h') (hok : HOk X.prog X.w H' h') : Inv X pins σ H' { s with heap := h', toks := t' } := by
  obtain ⟨m, ⟨o, es, ep, ho, r⟩, _⟩ := id I.loc
  obtain ⟨sl, hL⟩ := u.any ho I.free (by simp)
  exact I.step (g' := s.gens) (d' := s.drawn) (ch := []) (fun _ z => nomatch z) (fun b o _ hb _ e n => u.keep b o e n hb (by simp)) (fun b o _ hb _ e n => u.slot b o e n hb (by simp)) (fun b o _ e n => u.free b o e n (by simp)) (fun b o _ e => u.there b o e (by simp)) u.tups u.frzs u.tbls (fun m' hm => by
    obtain ⟨o', es', ep', ho', r'⟩ := hm
    rw [ho] at ho'; cases ho'
    exact ⟨_, es', ep', hL, r'⟩) hok I.bare
/-- behind a call (or a comprehension's block): the slots of this frame may have changed too, the records at ch may have turned -/
theorem Inv.call {g' : Array GenState} {t' : Nat} {d' : Drawn} {ch : List Addr} (I : Inv X pins σ H s) (u : Un (frs X.stack) ch H H' s.heap h') (hok : HOk X.prog X.w H' h') (hg : AllBare g')
    (hch : ∀ b ∈ ch, (b ∈ X.ex ∨ X.s₀.heap.objs.size ≤ b) ∧ b ≠ X.env.locals ∧ (∀ x c, X.env.cells.lookup x = some c → c ≠ b) ∧ ∀ p ∈ X.pn ++ pins, p.1 ≠ b) :
    Inv X pins σ H' { s with heap := h', gens := g', drawn := d', toks := t' } := by
  obtain ⟨m, ⟨o, es, ep, ho, r⟩, _⟩ := id I.loc
  obtain ⟨sl, hL⟩ := u.any ho I.free fun z => (hch _ z).2.1 rfl
  exact I.step (ch := ch) hch (fun b o hL hb hc e n => u.keep b o e n (fun z => (List.mem_cons.mp (I.stkSub b z)).elim hL hb) hc) (fun b o _ _ hc e n => u.any e n hc) (fun b o hc e n => u.free b o e n hc) (fun b o hc e => u.there b o e hc) u.tups u.frzs u.tbls (fun m' hm => by
    obtain ⟨o', es', ep', ho', r'⟩ := hm
    rw [ho] at ho'; cases ho'
    exact ⟨_, es', ep', hL, r'⟩) hok hg
/-- an untracked record of ours (an iterator) has turned -/
theorem Inv.turned {t' : Nat} {it : Addr} (I : Inv X pins σ H s) (k : ∀ b o, b ≠ it → s.heap.get? b = some o → h'.get? b = some o) (hn : H it = none) (hL : it ≠ X.env.locals)
    (h1 : it ∈ X.ex ∨ X.s₀.heap.objs.size ≤ it) (h2 : ∀ x c, X.env.cells.lookup x = some c → c ≠ it) (h3 : ∀ p ∈ X.pn ++ pins, p.1 ≠ it) : Inv X pins σ H { s with heap := h', toks := t' } := by
  have nit : ∀ b u, H b = some u → b ≠ it := fun b u e z => by rw [z, hn] at e; cases e
  refine I.step (g' := s.gens) (d' := s.drawn) (ch := [it]) (fun b hb => ?_) (fun b o _ _ hc e _ => k b o (fun z => hc (by simp [z])) e) (fun b o _ _ hc e _ => ⟨o.slots, k b o (fun z => hc (by simp [z])) e⟩) (fun _ _ _ _ n => n)
    (fun b o hc e => ⟨o, k b o (fun z => hc (by simp [z])) e⟩) (fun _ _ e => e) (fun _ _ _ e => e) (fun b ps e => ⟨#[], by rw [e]; simp⟩) (fun m hm => ?_) (fun b u e => ?_) I.bare
  · have e : b = it := by simpa using hb
    subst e
    exact ⟨h1, hL, h2, h3⟩
  · obtain ⟨o, es, ep, ho, r⟩ := hm
    exact ⟨o, es, ep, k _ o (Ne.symm hL) ho, r⟩
  · refine (I.hok b u e).stay (fun c v hc q => k c v ?_ q) (fun _ q => q) fun _ _ q => q
    rcases hc with z | z
    · rw [z]; exact nit b u e
    · exact nit c _ z
theorem Inv.tok (I : Inv X pins σ H s) (t : Nat) : Inv X pins σ H { s with toks := t } := I.un (h' := s.heap) (t' := t) Un.refl I.hok
/-- all objects kept -/
theorem Inv.kept {t' : Nat} (I : Inv X pins σ H s) (k : ∀ b u, s.heap.get? b = some u → h'.get? b = some u) : Inv X pins σ H { s with heap := h', toks := t' } := I.un (Un.kept k) (I.hok.kept k)
/-- a new object laid and tracked -/
theorem Inv.laid {a : Addr} {o : HO} {t' : Nat} (I : Inv X pins σ H s) (k : ∀ b u, s.heap.get? b = some u → h'.get? b = some u) (hp : s.heap.objs.size ≤ a) (new : ObjOk X.prog X.w (upd H a o) h' a o) :
    Inv X pins σ (upd H a o) { s with heap := h', toks := t' } := I.un (Un.laid k hp (I.hok.fresh hp)) (I.hok.laid k hp new)
/-- an object written -/
theorem Inv.write {x e : Addr} {o : HO} {t' : Nat} (I : Inv X pins σ H s) (mu : Mut (H x)) (he : e = x ∨ H e = some (.own x)) (k : ∀ b u, b ≠ e → s.heap.get? b = some u → h'.get? b = some u) (heo : ∃ u, h'.get? e = some u)
    (new : ObjOk X.prog X.w (upd H x o) h' x o) : Inv X pins σ (upd H x o) { s with heap := h', toks := t' } := I.un (Un.write mu he k heo) (I.hok.write mu he k heo new)
/-- forgetting slots, pins -/
theorem Inv.weak {σ' : List (Option V)} (I : Inv X pins σ H s) (hl : σ'.length = σ.length) (w : ∀ (i : Nat) v, σ'[i]? = some (some v) → σ[i]? = some (some v)) : Inv X pins σ' H s :=
  ⟨I.ok, I.os, I.bare, I.base, let ⟨m, hn, hl'⟩ := I.loc; ⟨m, hn, fun i x v e1 e2 e3 => hl' i x v e1 (w i v e2) e3⟩, I.cell, I.free, I.freeC, I.pin, I.hok, hl.trans I.len⟩
theorem Inv.pins_of {pins' : List (Addr × Obj)} (I : Inv X pins σ H s) (h : ∀ p ∈ pins', s.heap.get? p.1 = some p.2 ∧ H p.1 = none ∧ p.1 ≠ X.env.locals ∧ p.1 ∉ X.fs ∧ ∀ v, p.2.data ≠ .cell v) : Inv X pins' σ H s :=
  ⟨I.ok, I.os, I.bare, I.base, I.loc, I.cell, I.free, I.freeC, fun p hp => (List.mem_append.mp hp).elim (fun z => I.pin p (List.mem_append_left _ z)) (h p), I.hok, I.len⟩

theorem nodup_ix {N : List Str} (hN : N.Nodup) {i j : Nat} {x : Str} (a : N[i]? = some x) (b : N[j]? = some x) : i = j := by
  obtain ⟨h1, e1⟩ := List.getElem?_eq_some_iff.mp a
  obtain ⟨h2, e2⟩ := List.getElem?_eq_some_iff.mp b
  exact (List.getElem_inj hN).mp (e1.trans e2.symm)

/-- a name is stored; what changed -/
theorem store_ok2 {M : Model} {A : Around} {E : Value → Shared → Prop} {i : Nat} {x : Str} {v : V} {u : Value} {Q : Unit → Shared → Prop} (I : Inv X pins σ H s) (hN : X.N.Nodup) (hi : X.N[i]? = some x) (hx : Loc X.env.scope x) (r : RelV v u)
    (h : ∀ s', Inv X pins (σ.set i (some v)) H s' → (∃ a, Heap.SameBut a s.heap s'.heap ∧ (a = X.env.locals ∨ X.env.cells.lookup x = some a)) → Q () s') (hf : X.fn x = true ∨ X.env.scope.names.lookup x = some .local := by first | exact .inl rfl | exact .inr rfl | assumption) : wpAny M A (storeName X.env x u) Q E s := by
  obtain ⟨m, hn, hl⟩ := id I.loc
  have hcls : (X.env.scope.kind == .class || (X.env.scope.kind == .module && X.env.locals != X.env.globals)) = false := by rw [I.ok.kind]; rfl
  have hiσ : i < σ.length := by rw [I.len]; exact (List.getElem?_eq_some_iff.mp hi).1
  have cne := I.cne
  have tracked : ∀ {a : Addr} {h' : Heap}, (∃ o, s.heap.get? a = some o ∧ H a = none) → Heap.SameBut a s.heap h' → HOk X.prog X.w H h' := fun {a h'} ha hs b ob e => by
    obtain ⟨_, _, hfree⟩ := ha
    refine (I.hok b ob e).stay (fun c w' hc q => (hs.2 c ?_).trans q) (fun _ q => q) fun _ _ q => q
    rintro rfl
    rcases hc with rfl | hc
    · rw [hfree] at e; cases e
    · rw [hfree] at hc; cases hc
  rcases hx with hk | hk
  · refine wpAny_storeName_local hk hn (fun h' hn' hs => ?_) hcls
    obtain ⟨oL, _, _, hoL, _⟩ := id hn
    refine h _ ⟨I.ok, I.os, I.bare, ⟨fun b o e n hb hx => ?_, fun b o e n hb hx => ?_, I.base.free, fun b o e hx => ?_, I.base.tups, I.base.frzs, I.base.tbls⟩, ⟨_, hn', fun j y v' e1 e2 e3 => ?_⟩, fun y c e => ?_, I.free, I.freeC, fun p hp => ?_, tracked ⟨oL, hoL, I.free⟩ hs, by simpa using I.len⟩ ⟨_, hs, .inl rfl⟩
    · exact (hs.2 b (Nat.ne_of_lt (Nat.lt_of_lt_of_le (Heap.lt_size e) I.ok.above))).trans (I.base.keep b o e n hb hx)
    · obtain ⟨sl, e1⟩ := I.base.slot b o e n hb hx
      exact ⟨sl, (hs.2 b (Nat.ne_of_lt (Nat.lt_of_lt_of_le (Heap.lt_size e) I.ok.above))).trans e1⟩
    · obtain ⟨o', e1⟩ := I.base.there b o e hx
      exact ⟨o', (hs.2 b (Nat.ne_of_lt (Nat.lt_of_lt_of_le (Heap.lt_size e) I.ok.above))).trans e1⟩
    · by_cases hj : j = i
      · subst hj
        rw [hi] at e1; cases e1
        rw [List.getElem?_set_self hiσ] at e2
        cases e2
        exact ⟨u, r, .inl ⟨hk, by simp⟩⟩
      · rw [List.getElem?_set_ne (Ne.symm hj)] at e2
        obtain ⟨u', r', q⟩ := hl j y v' e1 e2 e3
        refine ⟨u', r', ?_⟩
        rcases q with ⟨k, e⟩ | ⟨k, c, e, z⟩
        · refine .inl ⟨k, ?_⟩
          have : y ≠ x := fun e => hj (nodup_ix hN e1 (e ▸ hi))
          simp [this, e]
        · exact .inr ⟨k, c, e, z.sameBut hs (cne y c e)⟩
    · obtain ⟨w', z⟩ := I.cell y c e
      exact ⟨w', z.sameBut hs (cne y c e)⟩
    · obtain ⟨e, n, ne, nf, d⟩ := I.pin p hp
      exact ⟨(hs.2 p.1 ne).trans e, n, ne, nf, d⟩
  · have hfn : X.fn x = true := by
      rcases hf with z | z
      · exact z
      · rw [z] at hk; cases hk
    obtain ⟨c, hc⟩ := I.ok.has x (.inl hk)
    obtain ⟨w', z⟩ := I.cell x c hc
    refine wpAny_storeName_cell I.ok.kind hk hc z (fun h' hc' hs => ?_)
    obtain ⟨oc, hoc, hocd⟩ := id z
    refine h { s with heap := h' } ⟨I.ok, I.os, I.bare, ⟨fun b o e n hb hx => ?_, fun b o e n hb hx => ?_, I.base.free, fun b o e hx => ?_, I.base.tups, I.base.frzs, I.base.tbls⟩, ⟨m, hn.sameBut hs (Ne.symm (cne x c hc)), fun j y v' e1 e2 e3 => ?_⟩, fun y c' e => ?_, I.free, I.freeC, fun p hp => ?_, tracked ⟨oc, hoc, I.freeC x c hc⟩ hs, by simpa using I.len⟩ ⟨c, hs, .inr hc⟩
    · exact (hs.2 b (Nat.ne_of_lt (Nat.lt_of_lt_of_le (Heap.lt_size e) (I.ok.cab x c hfn hc)))).trans (I.base.keep b o e n hb hx)
    · obtain ⟨sl, e1⟩ := I.base.slot b o e n hb hx
      exact ⟨sl, (hs.2 b (Nat.ne_of_lt (Nat.lt_of_lt_of_le (Heap.lt_size e) (I.ok.cab x c hfn hc)))).trans e1⟩
    · obtain ⟨o', e1⟩ := I.base.there b o e hx
      exact ⟨o', (hs.2 b (Nat.ne_of_lt (Nat.lt_of_lt_of_le (Heap.lt_size e) (I.ok.cab x c hfn hc)))).trans e1⟩
    · by_cases hj : j = i
      · subst hj
        rw [hi] at e1; cases e1
        rw [List.getElem?_set_self hiσ] at e2
        cases e2
        exact ⟨u, r, .inr ⟨.inl hk, c, hc, hc'⟩⟩
      · rw [List.getElem?_set_ne (Ne.symm hj)] at e2
        obtain ⟨u', r', q⟩ := hl j y v' e1 e2 e3
        refine ⟨u', r', ?_⟩
        rcases q with q | ⟨k, c', e, z'⟩
        · exact .inl q
        · refine .inr ⟨k, c', e, z'.sameBut hs ?_⟩
          rintro rfl
          exact hj (nodup_ix hN e1 (I.ok.inj _ _ _ e hc ▸ hi))
    · by_cases hcc : c' = c
      · subst hcc; exact ⟨_, hc'⟩
      · obtain ⟨w2, z2⟩ := I.cell y c' e
        exact ⟨w2, z2.sameBut hs hcc⟩
    · obtain ⟨e, n, ne, nf, d⟩ := I.pin p hp
      refine ⟨(hs.2 p.1 ?_).trans e, n, ne, nf, d⟩
      intro q
      rw [q, hoc] at e
      have q' : oc = p.2 := Option.some.inj e
      exact d w' (by rw [← q']; exact hocd)
theorem store_ok {M : Model} {A : Around} {E : Value → Shared → Prop} {i : Nat} {x : Str} {v : V} {u : Value} {Q : Unit → Shared → Prop} (I : Inv X pins σ H s) (hN : X.N.Nodup) (hi : X.N[i]? = some x) (hx : Loc X.env.scope x) (r : RelV v u)
    (h : ∀ s', Inv X pins (σ.set i (some v)) H s' → Q () s') (hf : X.fn x = true ∨ X.env.scope.names.lookup x = some .local := by first | exact .inl rfl | exact .inr rfl | assumption) : wpAny M A (storeName X.env x u) Q E s :=
  store_ok2 I hN hi hx r (fun s' I' _ => h s' I') hf
/-- behind a call or a block, the state as it is -/
theorem Inv.call' {s' : Shared} {ch : List Addr} (I : Inv X pins σ H s) (ho : s'.os = s.os) (u : Un (frs X.stack) ch H H' s.heap s'.heap) (hok : HOk X.prog X.w H' s'.heap) (hg : AllBare s'.gens)
    (hch : ∀ b ∈ ch, (b ∈ X.ex ∨ X.s₀.heap.objs.size ≤ b) ∧ b ≠ X.env.locals ∧ (∀ x c, X.env.cells.lookup x = some c → c ≠ b) ∧ ∀ p ∈ X.pn ++ pins, p.1 ≠ b) : Inv X pins σ H' s' := by
  obtain ⟨h', g', d', t', o'⟩ := s'
  have e : o' = s.os := ho
  subst e
  exact I.call (g' := g') (t' := t') (d' := d') u hok hg hch
end

/-! ### the judgements -/
/-- an exception: its class, its own dict's address (where it has one), the abstract heap behind it -/
abbrev XK := Value → Option Addr → Hp → Prop
abbrev St := List (Option V)
abbrev VK := V → Hp → Prop
/-- an expression's reading; a test's; an argument list's -/
abbrev TE := St → Hp → VK → Prop
abbrev TT := St → Hp → (Bool → Hp → Prop) → Prop
abbrev TA := St → Hp → (List V → Hp → Prop) → Prop
/-- what is wanted behind a statement -/
structure Ends where
  nx : St → Hp → Prop
  rt : VK
  bk : St → Hp → Prop := fun _ _ => False
  ct : St → Hp → Prop := fun _ _ => False
abbrev TS := Ends → St → Hp → Prop

def EP (X : Cx) (pins : List (Addr × Obj)) (σ : St) (Q : VK) (u : Value) (s' : Shared) : Prop := ∃ v H', Inv X pins σ H' s' ∧ RelV v u ∧ Q v H'
def TP (X : Cx) (pins : List (Addr × Obj)) (σ : St) (Q : Bool → Hp → Prop) (b : Bool) (s' : Shared) : Prop := ∃ H', Inv X pins σ H' s' ∧ Q b H'
def AP (X : Cx) (pins : List (Addr × Obj)) (σ : St) (Q : List V → Hp → Prop) (us : List Value) (s' : Shared) : Prop := ∃ vs H', Inv X pins σ H' s' ∧ Vals vs us ∧ Q vs H'
def SP (X : Cx) (pins : List (Addr × Obj)) (D : Ends) (f : Flow) (s' : Shared) : Prop :=
  match f with
  | .next => ∃ σ' H', Inv X pins σ' H' s' ∧ D.nx σ' H'
  | .brk => ∃ σ' H', Inv X pins σ' H' s' ∧ D.bk σ' H'
  | .cont => ∃ σ' H', Inv X pins σ' H' s' ∧ D.ct σ' H'
  | .ret u => ∃ v σ' H', Inv X pins σ' H' s' ∧ RelV v u ∧ D.rt v H'

def PE (X : Cx) (e : Expr) (t : TE) : Prop :=
  ∀ (pins : List (Addr × Obj)) (s : Shared) (σ : St) (H : Hp) (Q : VK), Inv X pins σ H s → t σ H Q → wpAny (model X.prog X.w) X.A (eval e X.env) (EP X pins σ Q) X.xe s
def PT (X : Cx) (e : Expr) (t : TT) : Prop :=
  ∀ (pins : List (Addr × Obj)) (s : Shared) (σ : St) (H : Hp) (Q : Bool → Hp → Prop), Inv X pins σ H s → t σ H Q → wpAny (model X.prog X.w) X.A (isTrue e X.env (eval e X.env)) (TP X pins σ Q) X.xe s
/-- a test whatever its 'whole' is (and, or) -/
def PW (X : Cx) (e : Expr) (t : TT) : Prop :=
  ∀ (whole : Sem Value) (pins : List (Addr × Obj)) (s : Shared) (σ : St) (H : Hp) (Q : Bool → Hp → Prop), Inv X pins σ H s → t σ H Q → wpAny (model X.prog X.w) X.A (isTrue e X.env whole) (TP X pins σ Q) X.xe s
theorem PW.pt {X : Cx} {e : Expr} {t : TT} (h : PW X e t) : PT X e t := h _
/-- an argument list (no star), from the left -/
def PA (X : Cx) (es : List Expr) (t : TA) : Prop :=
  ∀ (pos : Pos) (pins : List (Addr × Obj)) (s : Shared) (σ : St) (H : Hp) (Q : List V → Hp → Prop), Inv X pins σ H s → t σ H Q → wpAny (model X.prog X.w) X.A (spliced (backTo pos (starEach es X.env))) (AP X pins σ Q) X.xe s
def PS (X : Cx) (st : Stmt) (t : TS) : Prop :=
  ∀ (pins : List (Addr × Obj)) (s : Shared) (σ : St) (H : Hp) (D : Ends), Inv X pins σ H s → t D σ H → wpAny (model X.prog X.w) X.A (exec st X.env) (SP X pins D) X.xe s
def PSs (X : Cx) (st : List Stmt) (t : TS) : Prop :=
  ∀ (pins : List (Addr × Obj)) (s : Shared) (σ : St) (H : Hp) (D : Ends), Inv X pins σ H s → t D σ H → wpAny (model X.prog X.w) X.A (execs st X.env) (SP X pins D) X.xe s
/-- weaken the end -/
theorem thn {α : Type} {t : Sem α} {Q Q' : α → Shared → Prop} {M : Model} {A : Around} {E : Value → Shared → Prop} {s : Shared} (h : wpAny M A t Q E s) (hQ : ∀ a s, Q a s → Q' a s) : wpAny M A t Q' E s := wpAny_mono h hQ fun _ _ x => x
end L2

namespace L2
open PySem PySem.Spec PyProof.Rows
section
variable {X : Cx}

/-- two expressions in a row -/
theorem bin {a b : Expr} {ta tb : TE} (ha : PE X a ta) (hb : PE X b tb) {pins : List (Addr × Obj)} {s : Shared} {σ : St} {H : Hp} {R : V → V → Hp → Prop} (I : Inv X pins σ H s) (h : ta σ H fun x H1 => tb σ H1 fun y H2 => R x y H2)
    {α : Type} {Q : α → Shared → Prop} {f : Value → Value → Sem α}
    (hf : ∀ v u s2 x y H2, Inv X pins σ H2 s2 → RelV x v → RelV y u → R x y H2 → wpAny (model X.prog X.w) X.A (f v u) Q X.xe s2) :
    wpAny (model X.prog X.w) X.A (eval a X.env) (fun v s₁ => wpAny (model X.prog X.w) X.A (eval b X.env) (fun u s₂ => wpAny (model X.prog X.w) X.A (f v u) Q X.xe s₂) X.xe s₁) X.xe s := by
  refine thn (ha pins s σ H _ I h) fun v s1 ⟨x, H1, I1, r1, q1⟩ => ?_
  refine thn (hb pins s1 σ H1 _ I1 q1) fun u s2 ⟨y, H2, I2, r2, q2⟩ => ?_
  exact hf v u s2 x y H2 I2 r1 r2 q2

/-! ### names and constants -/
def tVar (i : Nat) : TE := fun σ H Q => ∃ v, σ[i]? = some (some v) ∧ Q v H
def tC (v : V) : TE := fun _ H Q => Q v H
theorem pe_var {i : Nat} {x : Str} {pos : Pos} (hN : X.N[i]? = some x) (hv : Vis X.env.scope x) (hd : (x == ("__debug__" : Str)) = false := by decide) (hcd : (x == ("__classdict__" : Str)) = false := by decide) : PE X (.Name x pos) (tVar i) := by
  intro pins s σ H Q I h
  obtain ⟨v, e, h⟩ := h
  obtain ⟨m, hn, hl⟩ := I.loc
  obtain ⟨u, r, l⟩ := hl i x v hN e hv
  have fin : EP X pins σ Q u s := ⟨v, H, I, r, h⟩
  rcases l with ⟨hk, hm⟩ | ⟨hk, c, hc, hcell⟩
  · exact wpAny_Name (wpAny_loadName_local I.ok.kind hk hn hm fin) hd
  · rcases hk with hk | hk
    · exact wpAny_Name (wpAny_loadName_cell I.ok.kind hk hc hcell fin) hd
    · exact wpAny_Name (wpAny_loadName_free I.ok.kind hk hc hcell fin hcd) hd
theorem pe_int {i j pos} : PE X (.Constant (.int i) j pos) (tC (.int i)) := fun _ _ _ H _ I h => wpAny_Constant_int ⟨.int i, H, I.tok _, ⟨_, rfl⟩, h⟩
theorem pe_bl {b j pos} : PE X (.Constant (.bool b) j pos) (tC (.bl b)) := fun _ _ _ H _ I h => Constant_bool ⟨.bl b, H, I, rfl, h⟩
theorem pe_non {j pos} : PE X (.Constant .none j pos) (tC .non) := fun _ _ _ H _ I h => Constant_none ⟨.non, H, I, rfl, h⟩
theorem pe_str {x j pos} : PE X (.Constant (.str x) j pos) (tC (.str x)) := fun _ _ _ H _ I h => Calls.Constant_str ⟨.str x, H, I.tok _, ⟨_, rfl⟩, h⟩

/-- a global name of the def -/
def Gl (X : Cx) (x : Str) : Prop := X.env.kindOf x = some .globalImplicit
theorem ld_glob {E : Value → Shared → Prop} {pins : List (Addr × Obj)} {s : Shared} {σ : St} {H : Hp} {x : Str} {u : Value} {pos : Pos} {Q : Value → Shared → Prop} (I : Inv X pins σ H s) (hg : Gl X x) (hm : X.mg x = some u) (h : Q u s)
    (hd : (x == ("__debug__" : Str)) = false := by decide) : wpAny (model X.prog X.w) X.A (eval (.Name x pos) X.env) Q E s :=
  Calls.Name_function_global I.ok.kind hg (Calls.loadGlobal_global (by rw [I.ok.glob]; exact I.mod.glob.keeps I.bk) hm h) hd
theorem ld_blt {E : Value → Shared → Prop} {pins : List (Addr × Obj)} {s : Shared} {σ : St} {H : Hp} {x : Str} {u : Value} {pos : Pos} {Q : Value → Shared → Prop} (I : Inv X pins σ H s) (hg : Gl X x) (hm : X.mg x = none) (hv : bootBuiltins x = some u) (h : Q u s)
    (hn : x ≠ "__name__" := by decide) (hd : (x == ("__debug__" : Str)) = false := by decide) : wpAny (model X.prog X.w) X.A (eval (.Name x pos) X.env) Q E s := by
  obtain ⟨mb, h1, h2⟩ := I.mod.blt
  exact Calls.Name_function_global I.ok.kind hg (Calls.loadGlobal_builtin (by rw [I.ok.glob]; exact I.mod.glob.keeps I.bk) hm (by rw [I.ok.blt]; exact h1.keeps I.bk) ((h2 x hn).trans hv) h) hd
/-- a module's constant, a class, a function, as a value -/
theorem pe_glob {x : Str} {v : V} {u : Value} {pos : Pos} (hg : Gl X x) (hm : X.mg x = some u) (r : RelV v u) (hd : (x == ("__debug__" : Str)) = false := by decide) : PE X (.Name x pos) (tC v) :=
  fun _ _ _ H _ I h => ld_glob I hg hm ⟨v, H, I, r, h⟩ hd
theorem pe_bltn {x : Str} {v : V} {u : Value} {pos : Pos} (hg : Gl X x) (hm : X.mg x = none) (hv : bootBuiltins x = some u) (r : RelV v u) (hn : x ≠ "__name__" := by decide) (hd : (x == ("__debug__" : Str)) = false := by decide) : PE X (.Name x pos) (tC v) :=
  fun _ _ _ H _ I h => ld_blt I hg hm hv ⟨v, H, I, r, h⟩ hn hd

/-! ### arithmetic -/
/-- two ints -/
def t2I (ta tb : TE) (k : Int → Int → Hp → Prop) : St → Hp → Prop := fun σ H => ta σ H fun x H1 => tb σ H1 fun y H2 => ∃ i j, x = .int i ∧ y = .int j ∧ k i j H2
def tAdd (ta tb : TE) : TE := fun σ H Q => t2I ta tb (fun i j H2 => Q (.int (i + j)) H2) σ H
def tSub (ta tb : TE) : TE := fun σ H Q => t2I ta tb (fun i j H2 => Q (.int (i - j)) H2) σ H
/-- the left factor below 2^64 -/
def tMul (ta tb : TE) : TE := fun σ H Q => t2I ta tb (fun i j H2 => (-(2 ^ 64) < i ∧ i < 2 ^ 64) ∧ Q (.int (i * j)) H2) σ H
variable {a b : Expr} {ta tb : TE} {pos : Pos}
theorem pe_add (ha : PE X a ta) (hb : PE X b tb) : PE X (.BinOp a .Add b pos) (tAdd ta tb) := by
  intro pins s σ H Q I h
  refine wpAny_BinOp (bin ha hb I h fun v u s2 x y H2 I2 rx ry q => ?_)
  obtain ⟨i, j, rfl, rfl, q⟩ := q
  obtain ⟨t, rfl⟩ := rx
  obtain ⟨t', rfl⟩ := ry
  exact add_int ⟨.int _, H2, I2.tok _, ⟨_, rfl⟩, q⟩
theorem pe_sub (ha : PE X a ta) (hb : PE X b tb) : PE X (.BinOp a .Sub b pos) (tSub ta tb) := by
  intro pins s σ H Q I h
  refine wpAny_BinOp (bin ha hb I h fun v u s2 x y H2 I2 rx ry q => ?_)
  obtain ⟨i, j, rfl, rfl, q⟩ := q
  obtain ⟨t, rfl⟩ := rx
  obtain ⟨t', rfl⟩ := ry
  exact sub_int ⟨.int _, H2, I2.tok _, ⟨_, rfl⟩, q⟩
theorem pe_mul (ha : PE X a ta) (hb : PE X b tb) : PE X (.BinOp a .Mult b pos) (tMul ta tb) := by
  intro pins s σ H Q I h
  refine wpAny_BinOp (bin ha hb I h fun v u s2 x y H2 I2 rx ry q => ?_)
  obtain ⟨i, j, rfl, rfl, ⟨q1, q2⟩, q⟩ := q
  obtain ⟨t, rfl⟩ := rx
  obtain ⟨t', rfl⟩ := ry
  exact mul_int ⟨.int _, H2, I2.tok _, ⟨_, rfl⟩, q⟩ (.of_left (intBits_le_64 q1 q2))

/-! ### comparisons -/
def PC (X : Cx) (op : CmpOp) (a b : Expr) (t : TE) : Prop :=
  ∀ (pins : List (Addr × Obj)) (s : Shared) (σ : St) (H : Hp) (Q : VK), Inv X pins σ H s → t σ H Q →
    wpAny (model X.prog X.w) X.A (eval a X.env) (fun v s₁ => wpAny (model X.prog X.w) X.A (eval b X.env) (fun u s₂ => wpAny (model X.prog X.w) X.A (compareOp op v u) (EP X pins σ Q) X.xe s₂) X.xe s₁) X.xe s
theorem nobehind (b : Expr) {op : CmpOp} (h : op ≠ .In) (h2 : op ≠ .NotIn) : behindInMarks op b = false := by
  have e1 : (op == CmpOp.In) = false := by cases op <;> first | rfl | exact absurd rfl h
  have e2 : (op == CmpOp.NotIn) = false := by cases op <;> first | rfl | exact absurd rfl h2
  cases b <;> simp [behindInMarks, e1, e2]
def tCmp (p : Int → Int → Bool) (ta tb : TE) : TE := fun σ H Q => t2I ta tb (fun i j H2 => Q (.bl (p i j)) H2) σ H
abbrev tLt : TE → TE → TE := tCmp fun i j => decide (i < j)
abbrev tLe : TE → TE → TE := tCmp fun i j => decide (i ≤ j)
abbrev tGt : TE → TE → TE := tCmp fun i j => decide (j < i)
abbrev tGe : TE → TE → TE := tCmp fun i j => decide (j ≤ i)
abbrev tEqI : TE → TE → TE := tCmp fun i j => decide (i = j)
abbrev tNeI : TE → TE → TE := tCmp fun i j => !decide (i = j)
/-- a comparison of two ints, by its rule -/
theorem pc_int {op : CmpOp} {p : Int → Int → Bool} (ha : PE X a ta) (hb : PE X b tb)
    (rule : ∀ (i j : Int) (t u : Tok) (Q : Value → Shared → Prop) (s : Shared), Q (.bool (p i j)) s → wpAny (model X.prog X.w) X.A (compareOp op (.int i t) (.int j u)) Q X.xe s) : PC X op a b (tCmp p ta tb) := by
  intro pins s σ H Q I h
  refine bin ha hb I h fun v u s2 x y H2 I2 rx ry q => ?_
  obtain ⟨i, j, rfl, rfl, q⟩ := q
  obtain ⟨t, rfl⟩ := rx
  obtain ⟨t', rfl⟩ := ry
  exact rule i j t t' _ s2 ⟨.bl _, H2, I2, rfl, q⟩
theorem pc_lt (ha : PE X a ta) (hb : PE X b tb) : PC X .Lt a b (tLt ta tb) := pc_int ha hb fun _ _ _ _ _ _ h => lt_int h
theorem pc_le (ha : PE X a ta) (hb : PE X b tb) : PC X .LtE a b (tLe ta tb) := pc_int ha hb fun _ _ _ _ _ _ h => le_int h
theorem pc_gt (ha : PE X a ta) (hb : PE X b tb) : PC X .Gt a b (tGt ta tb) := pc_int ha hb fun _ _ _ _ _ _ h => gt_int h
theorem pc_ge (ha : PE X a ta) (hb : PE X b tb) : PC X .GtE a b (tGe ta tb) := pc_int ha hb fun _ _ _ _ _ _ h => ge_int h
theorem pc_eqI (ha : PE X a ta) (hb : PE X b tb) : PC X .Eq a b (tEqI ta tb) := pc_int ha hb fun _ _ _ _ _ _ h => eq_int (by rw [Bool.beq_eq_decide_eq]; exact h)
theorem pc_neI (ha : PE X a ta) (hb : PE X b tb) : PC X .NotEq a b (tNeI ta tb) := pc_int ha hb fun _ _ _ _ _ _ h => ne_int (by rw [bne, Bool.beq_eq_decide_eq]; exact h)
/-- is None -/
def tIsN (ta : TE) : TE := fun σ H Q => ta σ H fun x H1 => Q (.bl (decide (x = .non))) H1
def tNotN (ta : TE) : TE := fun σ H Q => ta σ H fun x H1 => Q (.bl (!decide (x = .non))) H1
theorem RelV.none_iff {x : V} {v : Value} (r : RelV x v) : (v == Value.none) = decide (x = .non) := by
  cases x with
  | non => cases r; rfl
  | bl _ => cases r; rfl
  | int _ => obtain ⟨t, rfl⟩ := r; rfl
  | str _ => obtain ⟨t, rfl⟩ := r; rfl
  | byt _ => obtain ⟨t, rfl⟩ := r; rfl
  | flt _ => obtain ⟨t, rfl⟩ := r; rfl
  | ref _ => cases r; rfl
  | ty _ => cases r; rfl
theorem pc_isN {j pos'} (ha : PE X a ta) : PC X .Is a (.Constant .none j pos') (tIsN ta) := by
  intro pins s σ H Q I h
  refine thn (ha pins s σ H _ I h) fun v s1 ⟨x, H1, I1, r1, q1⟩ => ?_
  exact Constant_none (is_none_gen ⟨.bl _, H1, I1, by rw [r1.none_iff]; rfl, q1⟩)
theorem pc_notN {j pos'} (ha : PE X a ta) : PC X .IsNot a (.Constant .none j pos') (tNotN ta) := by
  intro pins s σ H Q I h
  refine thn (ha pins s σ H _ I h) fun v s1 ⟨x, H1, I1, r1, q1⟩ => ?_
  exact Constant_none (isnot_none_gen ⟨.bl _, H1, I1, by rw [r1.none_iff]; rfl, q1⟩)
/-- a comparison as a value, as a test -/
def tB (t : TE) : TT := fun σ H Q => t σ H fun x H1 => ∃ c, x = .bl c ∧ Q c H1
theorem pe_cmp {op : CmpOp} {t : TE} (h : PC X op a b t) (h1 : behindInMarks op b = false := by first | exact nobehind _ (by decide) (by decide) | rfl) : PE X (.Compare a [op] [b] pos) t := fun pins s σ H Q I hw => wpAny_Compare1 (h pins s σ H Q I hw) h1
theorem pt_cmp {op : CmpOp} {t : TE} (h : PC X op a b t) (h1 : behindInMarks op b = false := by first | exact nobehind _ (by decide) (by decide) | rfl) : PT X (.Compare a [op] [b] pos) (tB t) := by
  intro pins s σ H Q I hw
  refine wpAny_isTrue_Compare1 (thn (h pins s σ H _ I hw) fun v s1 h1 => thn h1 fun u s2 h2 => thn h2 fun c s3 ⟨x, H1, I1, r1, q1⟩ => ?_) h1
  obtain ⟨d, rfl, q⟩ := q1
  cases r1
  exact wpAny_truthy_bool ⟨H1, I1, q⟩
/-- an expression whose value is a bool, as a test -/
theorem pt_val {e : Expr} {t : TE} (h : PE X e t) (he : ∀ whole, isTrue e X.env whole = (do let v ← whole; standAt e.pos; holding [v] (truthy v)) := by intro _; rfl) : PT X e (tB t) := by
  intro pins s σ H Q I hw
  refine isTrue_plain (thn (h pins s σ H _ I hw) fun v s1 ⟨x, H1, I1, r1, q1⟩ => ?_) (he _)
  obtain ⟨d, rfl, q⟩ := q1
  cases r1
  exact wpAny_truthy_bool ⟨H1, I1, q⟩

/-! ### and, or, not -/
variable {tA tB' : TT} {rest : List Expr}
def tAnd (t u : TT) : TT := fun σ H Q => t σ H fun c H1 => if c = true then u σ H1 Q else Q false H1
def tOr (t u : TT) : TT := fun σ H Q => t σ H fun c H1 => if c = true then Q true H1 else u σ H1 Q
def tNot (t : TT) : TT := fun σ H Q => t σ H fun c H1 => Q (!c) H1
theorem pw_and1 (ha : PT X a tA) : PW X (.BoolOp .And [a] pos) tA := by
  intro wh pins s σ H Q I h
  refine isTrue_and (thn (ha pins s σ H Q I h) fun c s1 e => ?_)
  cases c with
  | true => exact isTrue_and_nil e
  | false => exact e
theorem pw_or1 (ha : PT X a tA) : PW X (.BoolOp .Or [a] pos) tA := by
  intro wh pins s σ H Q I h
  refine isTrue_or (thn (ha pins s σ H Q I h) fun c s1 e => ?_)
  cases c with
  | false => exact isTrue_or_nil e
  | true => exact e
theorem pw_and (ha : PT X a tA) (hb : PW X (.BoolOp .And (b :: rest) pos) tB') : PW X (.BoolOp .And (a :: b :: rest) pos) (tAnd tA tB') := by
  intro wh pins s σ H Q I h
  refine isTrue_and (thn (ha pins s σ H _ I h) fun c s1 ⟨H1, I1, q1⟩ => ?_)
  cases c with
  | true => exact hb wh pins s1 σ H1 Q I1 q1
  | false => exact ⟨H1, I1, q1⟩
theorem pw_or (ha : PT X a tA) (hb : PW X (.BoolOp .Or (b :: rest) pos) tB') : PW X (.BoolOp .Or (a :: b :: rest) pos) (tOr tA tB') := by
  intro wh pins s σ H Q I h
  refine isTrue_or (thn (ha pins s σ H _ I h) fun c s1 ⟨H1, I1, q1⟩ => ?_)
  cases c with
  | true => exact ⟨H1, I1, q1⟩
  | false => exact hb wh pins s1 σ H1 Q I1 q1
theorem pt_not (ha : PT X a tA) : PT X (.UnaryOp .Not a pos) (tNot tA) := by
  intro pins s σ H Q I h
  exact isTrue_not (ha pins s σ H (fun c H1 => Q (!c) H1) I h)
/-- .. as values (bools) -/
def tAndV (ta tb : TE) : TE := fun σ H Q => ta σ H fun x H1 => ∃ c, x = .bl c ∧ if c = true then tb σ H1 Q else Q (.bl false) H1
def tOrV (ta tb : TE) : TE := fun σ H Q => ta σ H fun x H1 => ∃ c, x = .bl c ∧ if c = true then Q (.bl true) H1 else tb σ H1 Q
def tNotV (ta : TE) : TE := fun σ H Q => ta σ H fun x H1 => ∃ c, x = .bl c ∧ Q (.bl (!c)) H1
theorem pe_one {op} {t : TE} (h : PE X a t) : PE X (.BoolOp op [a] pos) t := fun pins s σ H Q I hw => BoolOp_one (h pins s σ H Q I hw)
theorem pe_and (ha : PE X a ta) (hb : PE X (.BoolOp .And (b :: rest) pos) tb) : PE X (.BoolOp .And (a :: b :: rest) pos) (tAndV ta tb) := by
  intro pins s σ H Q I h
  refine BoolOp_and (thn (ha pins s σ H _ I h) fun v s1 ⟨x, H1, I1, r1, q1⟩ => ?_)
  obtain ⟨c, rfl, q1⟩ := q1
  cases r1
  refine wpAny_truthy_bool ?_
  cases c with
  | true => exact hb pins s1 σ H1 Q I1 q1
  | false => exact ⟨.bl false, H1, I1, rfl, q1⟩
theorem pe_or (ha : PE X a ta) (hb : PE X (.BoolOp .Or (b :: rest) pos) tb) : PE X (.BoolOp .Or (a :: b :: rest) pos) (tOrV ta tb) := by
  intro pins s σ H Q I h
  refine BoolOp_or (thn (ha pins s σ H _ I h) fun v s1 ⟨x, H1, I1, r1, q1⟩ => ?_)
  obtain ⟨c, rfl, q1⟩ := q1
  cases r1
  refine wpAny_truthy_bool ?_
  cases c with
  | false => exact hb pins s1 σ H1 Q I1 q1
  | true => exact ⟨.bl true, H1, I1, rfl, q1⟩
theorem pe_not (ha : PE X a ta) : PE X (.UnaryOp .Not a pos) (tNotV ta) := by
  intro pins s σ H Q I h
  refine UnaryOp_ (thn (ha pins s σ H _ I h) fun v s1 ⟨x, H1, I1, r1, q1⟩ => ?_)
  obtain ⟨c, rfl, q1⟩ := q1
  cases r1
  exact not_of (wpAny_truthy_bool ⟨.bl (!c), H1, I1, rfl, q1⟩)
/-- a if t else b -/
def tIf (t : TT) (ta tb : TE) : TE := fun σ H Q => t σ H fun c H1 => if c = true then ta σ H1 Q else tb σ H1 Q
theorem pe_ifExp {c : Expr} (hc : PT X c tA) (ha : PE X a ta) (hb : PE X b tb) : PE X (.IfExp c a b pos) (tIf tA ta tb) := by
  intro pins s σ H Q I h
  refine wpAny_IfExp (thn (hc pins s σ H _ I h) fun d s1 ⟨H1, I1, q1⟩ => ?_)
  cases d with
  | true => exact ha pins s1 σ H1 Q I1 q1
  | false => exact hb pins s1 σ H1 Q I1 q1
end
end L2

namespace L2
open PySem PySem.Spec PyProof.Rows

/-! ### a list, a tuple that is read: tracked, frozen, or an object of the module -/
def SqL (K : PySem.W.Frag) (H : Hp) (a : Addr) (xs : List V) : Prop :=
  Rd H a (.lst xs) ∨
    ∃ (o : Obj) (its : Array Value) (n : Nat), K.lookup a = some o ∧ o.cls = .type "list" ∧ o.dict = none ∧ o.data = .seq its n ∧ its.size ≤ sizeLine ∧ Vals xs its.toList
def SqT (K : PySem.W.Frag) (H : Hp) (a : Addr) (xs : List V) : Prop :=
  Rd H a (.tup xs) ∨
    ∃ (o : Obj) (its : Array Value) (n : Nat), K.lookup a = some o ∧ o.cls = .type "tuple" ∧ o.data = .seq its n ∧ its.size ≤ sizeLine ∧ Vals xs its.toList
def absV : Value → Option V
  | .none => some .non
  | .bool b => some (.bl b)
  | .int i _ => some (.int i)
  | .str x _ => some (.str x)
  | .bytes b _ => some (.byt b)
  | .float b _ => some (.flt b)
  | .ref a => some (.ref a)
  | .type n => some (.ty n)
  | _ => none
theorem RelV.abs {x : V} {u : Value} (r : RelV x u) : absV u = some x := by
  cases x with
  | non => cases r; rfl
  | bl _ => cases r; rfl
  | int _ => obtain ⟨t, rfl⟩ := r; rfl
  | str _ => obtain ⟨t, rfl⟩ := r; rfl
  | byt _ => obtain ⟨t, rfl⟩ := r; rfl
  | flt _ => obtain ⟨t, rfl⟩ := r; rfl
  | ref _ => cases r; rfl
  | ty _ => cases r; rfl
theorem RelV.inj {x y : V} {u : Value} (r : RelV x u) (q : RelV y u) : x = y := Option.some.inj (r.abs.symm.trans q.abs)
theorem Vals.inj : ∀ {xs ys : List V} {us : List Value}, Vals xs us → Vals ys us → xs = ys
  | _, _, _, .nil, .nil => rfl
  | _, _, _, .cons r t, .cons r' t' => by rw [r.inj r', Vals.inj t t']
section
variable {X : Cx} {pins : List (Addr × Obj)} {σ : St} {H : Hp} {s : Shared} {a : Addr} {xs ys : List V}
theorem SqL.of {K : PySem.W.Frag} (h : H a = some (.lst xs)) : SqL K H a xs := .inl (.inl h)
theorem SqT.of {K : PySem.W.Frag} (h : H a = some (.tup xs)) : SqT K H a xs := .inl (.inl h)
theorem Inv.list (I : Inv X pins σ H s) (h : SqL X.K H a xs) : ∃ its : List Value, Vals xs its ∧ PlainL s.heap a its.toArray ∧ xs.length ≤ sizeLine := by
  rcases h with h | ⟨o, its, n, hk, hc, hd, hs, hz, r⟩
  · obtain ⟨z, its, n, r, e⟩ := h.ok I.hok
    exact ⟨its, r, ⟨_, n, e, rfl, rfl, rfl⟩, z⟩
  · refine ⟨its.toList, r, ⟨o, n, I.kIn a o hk, hc, hd, by simpa using hs⟩, ?_⟩
    have e := r.length
    simp only [Array.length_toList] at e
    omega
theorem Inv.tuple (I : Inv X pins σ H s) (h : SqT X.K H a xs) : ∃ its : List Value, Vals xs its ∧ IsTup s.heap a its.toArray ∧ xs.length ≤ sizeLine := by
  rcases h with h | ⟨o, its, n, hk, hc, hs, hz, r⟩
  · obtain ⟨z, its, r, p⟩ := h.ok I.hok
    exact ⟨its, r, p, z⟩
  · refine ⟨its.toList, r, ⟨o, I.kIn a o hk, hc, n, by simpa using hs⟩, ?_⟩
    have e := r.length
    simp only [Array.length_toList] at e
    omega
theorem Inv.list_inj (I : Inv X pins σ H s) (h : SqL X.K H a xs) (h' : SqL X.K H a ys) : xs = ys := by
  obtain ⟨its, r, ⟨o, n, e, _, _, d⟩, _⟩ := I.list h
  obtain ⟨its', r', ⟨o', n', e', _, _, d'⟩, _⟩ := I.list h'
  rw [e] at e'; cases e'
  rw [d] at d'
  injection d' with d1 _
  have : its = its' := by simpa using congrArg Array.toList d1
  subst this
  exact r.inj r'
theorem Inv.tuple_inj (I : Inv X pins σ H s) (h : SqT X.K H a xs) (h' : SqT X.K H a ys) : xs = ys := by
  obtain ⟨its, r, ⟨o, e, _, n, d⟩, _⟩ := I.tuple h
  obtain ⟨its', r', ⟨o', e', _, n', d'⟩, _⟩ := I.tuple h'
  rw [e] at e'; cases e'
  rw [d] at d'
  injection d' with d1 _
  have : its = its' := by simpa using congrArg Array.toList d1
  subst this
  exact r.inj r'
end

/-! ### another wish about exceptions -/
abbrev Cx.wish (X : Cx) (E : Value → Shared → Prop) : Cx := { X with xe := E }
/-- no exception leaves -/
abbrev Cx.nox (X : Cx) : Cx := X.wish fun _ _ => False
theorem Cx.Ok.wish {X : Cx} (ok : X.Ok) (E : Value → Shared → Prop) : (X.wish E).Ok :=
  ⟨ok.mod, ok.kind, ok.glob, ok.blt, ok.above, ok.inj, ok.has, ok.cab, ok.hd, ok.frames, ok.stk, ok.exf, ok.bs, ok.bsz, ok.noex, ok.exfs, ok.funs, ok.frf⟩
theorem Cx.Ok.unwish {X : Cx} {E : Value → Shared → Prop} (ok : (X.wish E).Ok) : X.Ok :=
  ⟨ok.mod, ok.kind, ok.glob, ok.blt, ok.above, ok.inj, ok.has, ok.cab, ok.hd, ok.frames, ok.stk, ok.exf, ok.bs, ok.bsz, ok.noex, ok.exfs, ok.funs, ok.frf⟩
section
variable {X : Cx} {pins : List (Addr × Obj)} {σ : St} {H : Hp} {s : Shared} {E : Value → Shared → Prop}
theorem Inv.wish (I : Inv X pins σ H s) (E : Value → Shared → Prop) : Inv (X.wish E) pins σ H s := ⟨I.ok.wish E, I.os, I.bare, I.base, I.loc, I.cell, I.free, I.freeC, I.pin, I.hok, I.len⟩
theorem Inv.unwish (I : Inv (X.wish E) pins σ H s) : Inv X pins σ H s := ⟨I.ok.unwish, I.os, I.bare, I.base, I.loc, I.cell, I.free, I.freeC, I.pin, I.hok, I.len⟩
theorem SP.unwish {D : Ends} {f : Flow} {s' : Shared} (h : SP (X.wish E) pins D f s') : SP X pins D f s' := by
  cases f with
  | next => obtain ⟨σ', H', I, q⟩ := h; exact ⟨σ', H', I.unwish, q⟩
  | brk => obtain ⟨σ', H', I, q⟩ := h; exact ⟨σ', H', I.unwish, q⟩
  | cont => obtain ⟨σ', H', I, q⟩ := h; exact ⟨σ', H', I.unwish, q⟩
  | ret u => obtain ⟨v, σ', H', I, r, q⟩ := h; exact ⟨v, σ', H', I.unwish, r, q⟩
theorem PE.nox {e : Expr} {t : TE} (h : PE X.nox e t) : PE X e t := fun pins s σ H Q I hw =>
  wpAny_mono (h pins s σ H Q (I.wish _) hw) (fun _ _ ⟨v, H', I', r, q⟩ => ⟨v, H', I'.unwish, r, q⟩) fun _ _ z => False.elim z
theorem PT.nox {e : Expr} {t : TT} (h : PT X.nox e t) : PT X e t := fun pins s σ H Q I hw =>
  wpAny_mono (h pins s σ H Q (I.wish _) hw) (fun _ _ ⟨H', I', q⟩ => ⟨H', I'.unwish, q⟩) fun _ _ z => False.elim z
theorem PSs.nox {st : List Stmt} {t : TS} (h : PSs X.nox st t) : PSs X st t := fun pins s σ H D I hw =>
  wpAny_mono (h pins s σ H D (I.wish _) hw) (fun _ _ q => q.unwish) fun _ _ z => False.elim z
end

/-! ### blocks and small statements -/
section
variable {X : Cx} {st : Stmt} {rest : List Stmt} {t u : TS} {e : Expr} {te : TE} {pos : Pos}
def tNext : TS := fun D σ H => D.nx σ H
def tSeq (t u : TS) : TS := fun D σ H => t { D with nx := u D } σ H
theorem pss_nil : PSs X [] tNext := fun _ _ σ H _ I h => wpAny_execs_nil ⟨σ, H, I, h⟩
theorem pss_cons (h1 : PS X st t) (h2 : PSs X rest u) : PSs X (st :: rest) (tSeq t u) := by
  intro pins s σ H D I h
  refine wpAny_execs_cons (thn (h1 pins s σ H { D with nx := u D } I h) fun f s1 q => ?_)
  cases f with
  | next =>
    obtain ⟨σ', H', I', q⟩ := q
    exact h2 pins s1 σ' H' D I' q
  | ret v => exact q
  | brk => exact q
  | cont => exact q
theorem pss_one (h1 : PS X st t) : PSs X [st] t := by
  intro pins s σ H D I h
  refine wpAny_execs_cons (thn (h1 pins s σ H D I h) fun f s1 q => ?_)
  cases f with
  | next => exact wpAny_execs_nil q
  | ret v => exact q
  | brk => exact q
  | cont => exact q
def tBreak : TS := fun D σ H => D.bk σ H
def tCont : TS := fun D σ H => D.ct σ H
theorem ps_pass : PS X (.Pass pos) tNext := fun _ _ σ H _ I h => wpAny_Pass ⟨σ, H, I, h⟩
theorem ps_break : PS X (.Break pos) tBreak := fun _ _ σ H _ I h => wpAny_Break ⟨σ, H, I, h⟩
theorem ps_continue : PS X (.Continue pos) tCont := fun _ _ σ H _ I h => wpAny_Continue ⟨σ, H, I, h⟩
/-- in a def's body nothing is shown -/
theorem Inv.quiet {pins : List (Addr × Obj)} {σ : St} {H : Hp} {s : Shared} (I : Inv X pins σ H s) : interactive X.env = false := by simp [interactive, I.ok.kind]
/-- a docstring -/
theorem ps_doc {x j pos pos'} : PS X (.Expr (.Constant (.str x) j pos) pos') tNext := fun _ s σ H _ I h => wpAny_Expr (Calls.Constant_str (show SP X _ _ .next { s with toks := s.toks + 1 } from ⟨σ, H, I.tok _, h⟩)) I.quiet
/-- an expression whose value is dropped -/
def tDrop (te : TE) : TS := fun D σ H => te σ H fun _ H1 => D.nx σ H1
theorem ps_expr (he : PE X e te) (hs : swapsWith e none pos.line X.env = pure false := by rfl) : PS X (.Expr e pos) (tDrop te) := by
  intro pins s σ H D I h
  exact wpAny_Expr_any (thn (he pins s σ H _ I h) fun v s1 ⟨x, H1, I1, r1, q1⟩ => ⟨σ, H1, I1, q1⟩) I.quiet hs
def tRet (te : TE) : TS := fun D σ H => te σ H D.rt
theorem ps_ret (he : PE X e te) : PS X (.Return (some e) pos) (tRet te) := by
  intro pins s σ H D I h
  exact wpAny_Return_some (thn (he pins s σ H _ I h) fun v s1 ⟨x, H1, I1, r1, q1⟩ => ⟨x, σ, H1, I1, r1, q1⟩)
def tRetN : TS := fun D _ H => D.rt .non H
theorem ps_retN : PS X (.Return none pos) tRetN := fun _ _ σ H _ I h => wpAny_Return_none ⟨.non, σ, H, I, rfl, h⟩
def tIfS (c : TT) (t u : TS) : TS := fun D σ H => c σ H fun b H1 => if b = true then t D σ H1 else u D σ H1
theorem ps_if {c : Expr} {a b : List Stmt} {tc : TT} (hc : PT X c tc) (ha : PSs X a t) (hb : PSs X b u) : PS X (.If c a b pos) (tIfS tc t u) := by
  intro pins s σ H D I h
  refine wpAny_If (thn (hc pins s σ H _ I h) fun d s1 ⟨H1, I1, q1⟩ => ?_)
  cases d with
  | true => exact ha pins s1 σ H1 D I1 q1
  | false => exact hb pins s1 σ H1 D I1 q1
/-- code that the proof never comes to -/
def tNever : TS := fun _ _ _ => False
theorem ps_never : PS X st tNever := fun _ _ _ _ _ _ h => h.elim
theorem pss_never {sts : List Stmt} : PSs X sts tNever := fun _ _ _ _ _ _ h => h.elim
end

/-! ### targets -/
abbrev TG := V → St → Hp → (St → Hp → Prop) → Prop
abbrev TGs := List V → St → Hp → (St → Hp → Prop) → Prop
def PG (X : Cx) (target : Expr) (t : TG) : Prop :=
  ∀ (pins : List (Addr × Obj)) (s : Shared) (σ : St) (H : Hp) (v : V) (u : Value) (Q : St → Hp → Prop), Inv X pins σ H s → RelV v u → t v σ H Q →
    wpAny (model X.prog X.w) X.A (assign target X.env u) (fun _ s' => ∃ σ' H', Inv X pins σ' H' s' ∧ Q σ' H') X.xe s
/-- several targets, one after another -/
def PGs (X : Cx) (ts : List Expr) (t : TGs) : Prop :=
  ∀ (pins : List (Addr × Obj)) (s : Shared) (σ : St) (H : Hp) (vs : List V) (us : List Value) (Q : St → Hp → Prop), Inv X pins σ H s → Vals vs us → t vs σ H Q →
    wpAny (model X.prog X.w) X.A (assignInOrder ((assignEach ts X.env).map (·.2)) us) (fun _ s' => ∃ σ' H', Inv X pins σ' H' s' ∧ Q σ' H') X.xe s
/-- o[i] = v, by values -/
abbrev TSet := V → V → V → Hp → (Hp → Prop) → Prop
def PSet (X : Cx) (t : TSet) : Prop :=
  ∀ (pins : List (Addr × Obj)) (s : Shared) (σ : St) (H : Hp) (o i v : V) (ov iv u : Value) (Q : Hp → Prop), Inv X pins σ H s → RelV o ov → RelV i iv → RelV v u → t o i v H Q →
    wpAny (model X.prog X.w) X.A (setItem ov iv u) (fun _ s' => ∃ H', Inv X pins σ H' s' ∧ Q H') X.xe s
/-- a op= b, by values -/
abbrev TIp := V → V → Hp → VK → Prop
def PIp (X : Cx) (op : Operator) (t : TIp) : Prop :=
  ∀ (pins : List (Addr × Obj)) (s : Shared) (σ : St) (H : Hp) (x y : V) (v u : Value) (Q : VK), Inv X pins σ H s → RelV x v → RelV y u → t x y H Q →
    wpAny (model X.prog X.w) X.A (inplaceOp op v u) (EP X pins σ Q) X.xe s
section
variable {X : Cx} {pos : Pos}
def gName (i : Nat) : TG := fun v σ H Q => Q (σ.set i (some v)) H
theorem pg_name {i : Nat} {x : Str} (hN : X.N.Nodup) (hi : X.N[i]? = some x) (hx : Loc X.env.scope x) (hf : X.fn x = true ∨ X.env.scope.names.lookup x = some .local := by first | exact .inl rfl | exact .inr rfl | assumption) : PG X (.Name x pos) (gName i) := by
  intro pins s σ H v u Q I r h
  exact wpAny_assign_Name (store_ok I hN hi hx r (fun s' I' => ⟨_, H, I', h⟩) hf)
def gNil : TGs := fun vs σ H Q => vs = [] ∧ Q σ H
def gCons (t : TG) (u : TGs) : TGs := fun vs σ H Q => ∃ v r, vs = v :: r ∧ t v σ H fun σ' H' => u r σ' H' Q
theorem pgs_nil : PGs X [] gNil := by
  intro pins s σ H vs us Q I r h
  obtain ⟨e, h⟩ := h
  subst e
  cases r
  exact assignInOrder_nil ⟨σ, H, I, h⟩
theorem pgs_cons {e : Expr} {es : List Expr} {t : TG} {u : TGs} (h1 : PG X e t) (h2 : PGs X es u)
    (hs : (assignEach (e :: es) X.env).map (·.2) = assign e X.env :: (assignEach es X.env).map (·.2) := by rfl) : PGs X (e :: es) (gCons t u) := by
  intro pins s σ H vs us Q I r h
  obtain ⟨v, vr, e1, h⟩ := h
  subst e1
  cases r with
  | cons r rr =>
    rw [hs]
    refine assignInOrder_cons (thn (h1 pins s σ H _ _ _ I r h) fun _ s1 ⟨σ1, H1, I1, q1⟩ => ?_)
    exact h2 pins s1 σ1 H1 _ _ Q I1 rr q1
/-- (a, b, ..) = a tuple of that length -/
def gTup (K : PySem.W.Frag) (n : Nat) (t : TGs) : TG := fun v σ H Q => ∃ a xs, v = .ref a ∧ SqT K H a xs ∧ xs.length = n ∧ t xs σ H Q
theorem pg_tup {es : List Expr} {k : Nat} {t : TGs} {n : Nat} (hc : X.calm = true) (h : PGs X es t)
    (hn : (assignEach es X.env).length = n := by rfl) (hst : (assignEach es X.env).findIdx? (·.1) = none := by rfl) : PG X (.Tuple es k pos) (gTup X.K n t) := by
  intro pins s σ H v u Q I r hw
  obtain ⟨a, xs, e1, hq, hl, hw⟩ := hw
  subst e1
  cases r
  obtain ⟨its, rv, ht, hz⟩ := I.tuple hq
  refine assign_Tuple_tuple (I.ok.hd hc) ht (by simp [hn, ← hl, rv.length]) hst fun h' hx => ?_
  have I1 : Inv X pins σ H { s with heap := h' } := I.kept (t' := s.toks) fun b o e => hx b o (Nat.ne_of_lt (Heap.lt_size e)) e
  exact h pins _ σ H xs _ Q I1 (by simpa using rv) hw
/-- o[i] = .. -/
def gSub (to ti : TE) (t : TSet) : TG := fun v σ H Q => to σ H fun o H1 => ti σ H1 fun i H2 => t o i v H2 fun H3 => Q σ H3
theorem pg_sub {o i : Expr} {to ti : TE} {t : TSet} (ho : PE X o to) (hi : PE X i ti) (hs : PSet X t)
    (ha : ∀ v, assign (.Subscript o i pos) X.env v = (do
      let ov ← holding [v] (eval o X.env)
      let iv ← holding [v, ov] (eval i X.env)
      standAt pos
      holding [v, ov, iv] (setItem ov iv v)
      release [v, ov, iv] []) := by intro _; rfl) : PG X (.Subscript o i pos) (gSub to ti t) := by
  intro pins s σ H v u Q I r h
  rw [ha]
  refine wpAny_bind (wpAny_holding (thn (ho pins s σ H _ I h) fun ov s1 ⟨x, H1, I1, r1, q1⟩ => ?_))
  refine wpAny_bind (wpAny_holding (thn (hi pins s1 σ H1 _ I1 q1) fun iv s2 ⟨y, H2, I2, r2, q2⟩ => ?_))
  refine wpAny_bind (wpAny_standAt (wpAny_bind (wpAny_holding (thn (hs pins s2 σ H2 x y v ov iv u _ I2 r1 r2 r q2) fun _ s3 ⟨H3, I3, q3⟩ => ?_))))
  exact wpAny_release ⟨σ, H3, I3, q3⟩
/-- target = value -/
def tAsg (te : TE) (g : TG) : TS := fun D σ H => te σ H fun x H1 => g x σ H1 D.nx
theorem ps_asg {tg e : Expr} {te : TE} {g : TG} (he : PE X e te) (hg : PG X tg g) (hs : swapsWithSole [tg] e pos.line X.env = pure false := by rfl) (hw : swappedStores [tg] e X.env = pure none := by rfl)
    (h1 : (assignEach [tg] X.env).map (·.2) = [assign tg X.env] := by rfl) : PS X (.Assign [tg] e pos) (tAsg te g) := by
  intro pins s σ H D I h
  refine wpAny_Assign_stores (thn (he pins s σ H _ I h) fun v s1 ⟨x, H1, I1, r1, q1⟩ => ?_) hs hw
  rw [h1]
  exact thn (hg pins s1 σ H1 x v _ I1 r1 q1) fun _ s2 q => q
/-- name = value -/
theorem ps_set {i : Nat} {x : Str} {e : Expr} {te : TE} {pos' : Pos} (hN : X.N.Nodup) (hi : X.N[i]? = some x) (hx : Loc X.env.scope x) (he : PE X e te) (hs : swapsWith e (some (.Name x pos')) pos.line X.env = pure false := by rfl) (hf : X.fn x = true ∨ X.env.scope.names.lookup x = some .local := by first | exact .inl rfl | exact .inr rfl | assumption) :
    PS X (.Assign [.Name x pos'] e pos) (tAsg te (gName i)) := by
  intro pins s σ H D I h
  refine wpAny_Assign_Name (thn (he pins s σ H _ I h) fun v s1 ⟨y, H1, I1, r1, q1⟩ => ?_) hs
  exact store_ok I1 hN hi hx r1 (fun s2 I2 => ⟨_, H1, I2, q1⟩) hf
/-- a, b = x, y with plain local names: stored from the right; the pair itself is not tracked (the opening rows as in PyProof/Rows/TupAssign.lean:23) -/
def tPar (i j : Nat) (ta : TA) : TS := fun D σ H => ta σ H fun vs H1 => ∃ v w, vs = [v, w] ∧ D.nx ((σ.set i (some v)).set j (some w)) H1
theorem ps_par {i j : Nat} {x y : Str} {a b : Expr} {ta : TA} {px py pt : Pos} {kt k2 pt2} (hc : X.calm = true) (hN : X.N.Nodup) (hi : X.N[i]? = some x) (hj : X.N[j]? = some y) (hij : i ≠ j)
    (hx : X.env.scope.names.lookup x = some .local) (hy : X.env.scope.names.lookup y = some .local) (ha : PA X [a, b] ta)
    (hw : swappedStores [.Tuple [.Name x px, .Name y py] kt pt] (.Tuple [a, b] k2 pt2) X.env = pure (some [x, y]))
    (hs : swapsWithSole [.Tuple [.Name x px, .Name y py] kt pt] (.Tuple [a, b] k2 pt2) pos.line X.env = pure false := by rfl) :
    PS X (.Assign [.Tuple [.Name x px, .Name y py] kt pt] (.Tuple [a, b] k2 pt2) pos) (tPar i j ta) := by
  intro pins s σ H D I h
  rw [exec_Assign_arm]
  refine wpAny_bind (wpAny_standAt ?_)
  rw [hs]
  refine wpAny_bind (wpAny_pure ?_)
  rw [if_neg (by decide)]
  refine wpAny_bind (Tuple_ (thn (ha _ pins s σ H _ I h) fun us s1 ⟨vs, H1, I1, r1, q1⟩ => ?_))
  obtain ⟨v, w, e1, q1⟩ := q1
  subst e1
  obtain ⟨u1, u2, rfl, rv, rw'⟩ : ∃ u1 u2, us = [u1, u2] ∧ RelV v u1 ∧ RelV w u2 := by
    cases r1 with
    | cons p q =>
      cases q with
      | cons p' q' =>
        cases q'
        exact ⟨_, _, rfl, p, p'⟩
  refine wpAny_newObj_type ?_ (by show 2 ≤ sizeLine; decide)
  have I2 : Inv X pins σ H1 { s1 with heap := s1.heap.push { cls := .type "tuple", data := .seq [u1, u2].toArray } } := I1.kept (t' := s1.toks) fun b o e => Heap.get?_push_of_some _ e
  rw [hw]
  refine wpAny_bind (wpAny_pure ?_)
  show wpAny (model X.prog X.w) X.A (do rule "assign.swapped-stores"; let items ← unpackItems (.ref s1.heap.objs.size) 2 none; assignInOrder [fun v => bindName X.env y v, fun v => bindName X.env x v] items.reverse; pure Flow.next) _ _ _
  refine wpAny_bind (wpAny_rule (wpAny_bind (unpackItems_tuple (items := #[u1, u2]) (I.ok.hd hc) (IsTup.new s1.heap _) fun h' hx' => ?_)))
  have I3 := I2.kept (h' := h') (t' := s1.toks) fun b o e => hx' b o (Nat.ne_of_lt (Heap.lt_size e)) e
  show wpAny _ _ (assignInOrder [fun v => bindName X.env y v, fun v => bindName X.env x v] [u2, u1] >>= fun _ => pure Flow.next) _ _ _
  refine wpAny_bind (assignInOrder_cons (wpAny_bindName (store_ok I3 hN hj (.inl hy) rw' (fun s2 I4 => ?_) (.inr hy))))
  refine assignInOrder_cons (wpAny_bindName (store_ok I4 hN hi (.inl hx) rv (fun s3 I5 => assignInOrder_nil (wpAny_pure ?_)) (.inr hx)))
  rw [List.set_comm _ _ (Ne.symm hij)] at I5
  exact ⟨_, H1, I5, q1⟩
/-- name op= e -/
def tAug (i : Nat) (te : TE) (ti : TIp) : TS := fun D σ H => ∃ x, σ[i]? = some (some x) ∧ te σ H fun y H1 => ti x y H1 fun z H2 => D.nx (σ.set i (some z)) H2
theorem ps_aug {i : Nat} {x : Str} {e : Expr} {te : TE} {op : Operator} {ti : TIp} {pos' : Pos} (hN : X.N.Nodup) (hi : X.N[i]? = some x) (hx : Loc X.env.scope x) (he : PE X e te) (ho : PIp X op ti) (hf : X.fn x = true ∨ X.env.scope.names.lookup x = some .local := by first | exact .inl rfl | exact .inr rfl | assumption) :
    PS X (.AugAssign (.Name x pos') op e pos) (tAug i te ti) := by
  intro pins s σ H D I h
  obtain ⟨v, e1, h⟩ := h
  obtain ⟨m, hn, hl⟩ := I.loc
  have vis : Vis X.env.scope x := by rcases hx with k | k; exact .inl k; exact .inr (.inl k)
  obtain ⟨u, r, l⟩ := hl i x v hi e1 vis
  refine wpAny_AugAssign_Name ?_
  have go : wpAny (model X.prog X.w) X.A (eval e X.env) (fun w s₂ => wpAny (model X.prog X.w) X.A (inplaceOp op u w) (fun r s₃ => wpAny (model X.prog X.w) X.A (storeName X.env x r) (fun _ => SP X pins D .next) X.xe s₃) X.xe s₂) X.xe s := by
    refine thn (he pins s σ H _ I h) fun w s1 ⟨y, H1, I1, r1, q1⟩ => ?_
    refine thn (ho pins s1 σ H1 v y u w _ I1 r r1 q1) fun z s2 ⟨zv, H2, I2, r2, q2⟩ => ?_
    exact store_ok I2 hN hi hx r2 (fun s3 I3 => ⟨_, H2, I3, q2⟩) hf
  rcases l with ⟨hk, hm⟩ | ⟨hk, c, hc, hcell⟩
  · exact wpAny_loadName_local I.ok.kind hk hn hm go
  · rcases hk with hk | hk
    · exact wpAny_loadName_cell I.ok.kind hk hc hcell go
    · rcases hx with k | k
      · have : X.env.scope.names.lookup x = some .free := hk
        rw [k] at this; cases this
      · have : X.env.scope.names.lookup x = some .free := hk
        rw [k] at this; cases this
/-- o[i] op= e -/
def tAugS (to ti te : TE) (tget : V → V → Hp → VK → Prop) (tip : TIp) (tset : TSet) : TS := fun D σ H => to σ H fun o H1 => ti σ H1 fun i H2 => tget o i H2 fun x H3 => te σ H3 fun y H4 => tip x y H4 fun z H5 => tset o i z H5 fun H6 => D.nx σ H6
/-- o[i], by values -/
def PGet (X : Cx) (t : V → V → Hp → VK → Prop) : Prop :=
  ∀ (pins : List (Addr × Obj)) (s : Shared) (σ : St) (H : Hp) (o i : V) (ov iv : Value) (Q : VK), Inv X pins σ H s → RelV o ov → RelV i iv → t o i H Q →
    wpAny (model X.prog X.w) X.A (getItem ov iv) (EP X pins σ Q) X.xe s
theorem ps_augS {o i e : Expr} {to ti te : TE} {tget : V → V → Hp → VK → Prop} {tip : TIp} {tset : TSet} {op : Operator} {tpos : Pos} (ho : PE X o to) (hi : PE X i ti) (hg : PGet X tget) (he : PE X e te) (hp : PIp X op tip) (hs : PSet X tset)
    (ha : ∀ ov iv new, augStore i ov iv new = (do holding [new, ov, iv] (setItem ov iv new); release [new, ov, iv] []; pure .next) := by intros; rfl) : PS X (.AugAssign (.Subscript o i tpos) op e pos) (tAugS to ti te tget tip tset) := by
  intro pins s σ H D I h
  refine wpAny_AugAssign_SubscriptAny (thn (ho pins s σ H _ I h) fun ov s1 ⟨x1, H1, I1, r1, q1⟩ => ?_) ha
  refine thn (hi pins s1 σ H1 _ I1 q1) fun iv s2 ⟨x2, H2, I2, r2, q2⟩ => ?_
  refine thn (hg pins s2 σ H2 x1 x2 ov iv _ I2 r1 r2 q2) fun old s3 ⟨x3, H3, I3, r3, q3⟩ => ?_
  refine thn (he pins s3 σ H3 _ I3 q3) fun v s4 ⟨x4, H4, I4, r4, q4⟩ => ?_
  refine thn (hp pins s4 σ H4 x3 x4 old v _ I4 r3 r4 q4) fun new s5 ⟨x5, H5, I5, r5, q5⟩ => ?_
  exact thn (hs pins s5 σ H5 x1 x2 x5 ov iv new _ I5 r1 r2 r5 q5) fun _ s6 ⟨H6, I6, q6⟩ => ⟨σ, H6, I6, q6⟩
/-- ints -/
def ipI (f : Int → Int → Int) : TIp := fun x y H Q => ∃ i j, x = .int i ∧ y = .int j ∧ Q (.int (f i j)) H
theorem ip_add : PIp X .Add (ipI fun i j => i + j) := by
  intro pins s σ H x y v u Q I r1 r2 h
  obtain ⟨i, j, e1, e2, q⟩ := h
  subst e1; subst e2
  obtain ⟨t, rfl⟩ := r1
  obtain ⟨t', rfl⟩ := r2
  exact iadd_int ⟨.int _, H, I.tok _, ⟨_, rfl⟩, q⟩
theorem ip_sub : PIp X .Sub (ipI fun i j => i - j) := by
  intro pins s σ H x y v u Q I r1 r2 h
  obtain ⟨i, j, e1, e2, q⟩ := h
  subst e1; subst e2
  obtain ⟨t, rfl⟩ := r1
  obtain ⟨t', rfl⟩ := r2
  exact isub_int ⟨.int _, H, I.tok _, ⟨_, rfl⟩, q⟩
end

/-! ### while -/
section
variable {X : Cx} {pos : Pos}
/-- the invariant W with its measure -/
def tWhile (c : TT) (tb : TS) : TS := fun D σ H => ∃ W : Nat → St → Hp → Prop, (∃ m, W m σ H) ∧ ∀ m σ H, W m σ H →
  c σ H fun b H1 => if b = true then ∃ N : St → Hp → Prop, (∀ σ' H', N σ' H' → ∃ m', m' < m ∧ W m' σ' H') ∧ tb { D with nx := N, ct := N, bk := D.nx } σ H1 else D.nx σ H1
theorem ps_while {c : Expr} {body : List Stmt} {tc : TT} {tb : TS} (hp : PassesOwn (model X.prog X.w) X.A X.env X.xe) (hc : PT X c tc) (hb : PSs X body tb) : PS X (.While c body [] pos) (tWhile tc tb) := by
  intro pins s σ H D I h
  obtain ⟨W, ⟨m0, w0⟩, turn⟩ := h
  refine wpAny_While (codeAny_whileLoop (fun n s' => ∃ σ' H', Inv X pins σ' H' s' ∧ W n σ' H') ?_ m0 ⟨σ, H, I, w0⟩)
  rintro n s1 ⟨σ1, H1, I1, w1⟩
  refine wpAny_passesOwn hp (thn (hc pins s1 σ1 H1 _ I1 (turn n σ1 H1 w1)) fun b s2 ⟨H2, I2, q2⟩ => ?_)
  cases b with
  | true =>
    obtain ⟨N, hN, q2⟩ := q2
    rw [if_pos rfl]
    refine wpAny_passesOwn hp (thn (hb pins s2 σ1 H2 _ I2 q2) fun f s3 q3 => ?_)
    cases f with
    | next =>
      obtain ⟨σ3, H3, I3, n3⟩ := q3
      obtain ⟨m', hm, w3⟩ := hN σ3 H3 n3
      exact ⟨m', hm, σ3, H3, I3, w3⟩
    | cont =>
      obtain ⟨σ3, H3, I3, n3⟩ := q3
      obtain ⟨m', hm, w3⟩ := hN σ3 H3 n3
      exact ⟨m', hm, σ3, H3, I3, w3⟩
    | brk => exact q3
    | ret v => exact q3
  | false =>
    rw [if_neg Bool.false_ne_true]
    exact wpAny_execs_nil ⟨σ1, H2, I2, q2⟩
end

/-! ### what a loop or a comprehension walks -/
/-- at turn i: it yields x (the heap may grow), or it stops -/
structure It where
  go : Nat → Hp → Prop
  yld : Nat → Hp → V → Hp → Prop
  stop : Nat → Hp → Prop
/-- the iterator's own objects may turn: they are not the frame's, not pinned, younger than the entry (or a comprehension's own) -/
def FpOk (X : Cx) (pins : List (Addr × Obj)) (H : Hp) (b : Addr) : Prop :=
  H b = none ∧ b ≠ X.env.locals ∧ b ∉ X.fs ∧ (b ∈ X.ex ∨ X.s₀.heap.objs.size ≤ b) ∧ (∀ x c, X.env.cells.lookup x = some c → c ≠ b) ∧ ∀ p ∈ X.pn ++ pins, p.1 ≠ b
theorem Inv.fpOk {X : Cx} {pins : List (Addr × Obj)} {σ : St} {H H' : Hp} {s : Shared} {b : Addr} (I : Inv X pins σ H s) (hb : s.heap.objs.size ≤ b) (hn : H' b = none) : FpOk X pins H' b := by
  refine ⟨hn, Nat.ne_of_gt (Nat.lt_of_lt_of_le I.lt hb), I.nofs hb, .inr (Nat.le_trans I.sz hb), fun x c e z => ?_, fun p hp z => ?_⟩
  · obtain ⟨v, q⟩ := I.cell x c e
    exact absurd (Nat.lt_of_lt_of_le q.lt (by rw [z]; exact hb)) (Nat.lt_irrefl _)
  · exact absurd (Nat.lt_of_lt_of_le (Heap.lt_size (I.pin p hp).1) (by rw [z]; exact hb)) (Nat.lt_irrefl _)
structure Turn (P : Program) (w : World) (K : PySem.W.Frag) (tg : Expr) (J : It) (fp : List Addr) (it : Addr) (tn : Nat → Heap → Prop) : Prop where
  mem : it ∈ fp
  obj : ∀ i h, tn i h → ∀ b ∈ fp, ∃ o, h.get? b = some o ∧ ∀ v, o.data ≠ .cell v
  keep : ∀ i h h', tn i h → (∀ b ∈ fp, ∀ o, h.get? b = some o → h'.get? b = some o) → tn i h'
  item : ∀ (X : Cx), X.prog = P → X.w = w → X.K = K → X.calm = true → ∀ (i : Nat) (pins : List (Addr × Obj)) (s : Shared) (σ : St) (H : Hp) (E : Value → Shared → Prop), Inv X pins σ H s → (∀ b ∈ fp, FpOk X pins H b) → tn i s.heap → J.go i H →
    wpAny (model P w) X.A (pyNext (.ref it)) (fun r s1 => ∃ u, r = some u ∧
      wpAny (model P w) X.A (letOwnedTupleGo tg (.ref it) u) (fun _ s2 => ∃ x H', Inv X pins σ H' s2 ∧ RelV x u ∧ J.yld i H x H' ∧ tn (i + 1) s2.heap ∧ ∀ b ∈ fp, H' b = none) E s1) E s
  done : ∀ (X : Cx), X.prog = P → X.w = w → X.K = K → X.calm = true → ∀ (i : Nat) (pins : List (Addr × Obj)) (s : Shared) (σ : St) (H : Hp) (E : Value → Shared → Prop), Inv X pins σ H s → (∀ b ∈ fp, FpOk X pins H b) → tn i s.heap → J.stop i H →
    wpAny (model P w) X.A (pyNext (.ref it)) (fun r s1 => r = none ∧ Inv X pins σ H s1) E s
  self : ∀ (A : Around) (i : Nat) (s : Shared) (Q : Value → Shared → Prop) (E : Value → Shared → Prop), tn i s.heap → Q (.ref it) s → wpAny (model P w) A (pyIter (.ref it)) Q E s
abbrev TI := St → Hp → (It → Hp → Prop) → Prop
/-- an iterator has come -/
def PIE (X : Cx) (pins : List (Addr × Obj)) (σ : St) (tg : Expr) (R : It → Hp → Prop) (itv : Value) (s2 : Shared) : Prop :=
  ∃ (it : Addr) (fp : List Addr) (tn : Nat → Heap → Prop) (J : It) (H' : Hp), itv = .ref it ∧ Inv X pins σ H' s2 ∧ Turn X.prog X.w X.K tg J fp it tn ∧ tn 0 s2.heap ∧ (∀ b ∈ fp, FpOk X pins H' b) ∧ R J H'
def PI (X : Cx) (tg iter : Expr) (wi : TI) : Prop :=
  ∀ (pins : List (Addr × Obj)) (s : Shared) (σ : St) (H : Hp) (R : It → Hp → Prop), Inv X pins σ H s → wi σ H R →
    wpAny (model X.prog X.w) X.A (eval iter X.env) (fun v s1 => wpAny (model X.prog X.w) X.A (pyIter v) (PIE X pins σ tg R) X.xe s1) X.xe s

/-- the step ahead of the store is nothing for an iterator that keeps no tuple -/
theorem go_of {M : Model} {A : Around} {E : Value → Shared → Prop} {s : Shared} {tg : Expr} {it : Addr} {u : Value} {o : Obj} {n : String} {vs : Array Value} {Q : Unit → Shared → Prop} (ho : s.heap.get? it = some o) (hc : o.cls = .type n) (hd : o.data = .fields vs)
    (hn : ["enumerate", "zip", "dict_itemiterator", "dict_reverseitemiterator", "odict_iterator", "itertools.zip_longest", "itertools.pairwise"].contains n = false) (hQ : Q () s) : wpAny M A (letOwnedTupleGo tg (.ref it) u) Q E s := by
  unfold letOwnedTupleGo
  cases tg <;> first
    | exact wpAny_pure hQ
    | (cases u <;> first
        | exact wpAny_pure hQ
        | (refine wpAny_bind (wpAny_load ho ?_)
           rw [hc, hd]
           show wpAny M A (if (["enumerate", "zip", "dict_itemiterator", "dict_reverseitemiterator", "odict_iterator", "itertools.zip_longest", "itertools.pairwise"].contains n && vs[0]? == some (rawInt _)) = true then _ else _) Q E s
           rw [if_neg (by intro h; rw [hn, Bool.false_and] at h; cases h)]
           exact wpAny_pure hQ))

/-- the list at a, as it stands at each turn (a loop may append to it) -/
def Itl (K : PySem.W.Frag) (a : Addr) : It :=
  ⟨fun i H => ∃ xs x, SqL K H a xs ∧ xs[i]? = some x, fun i H x H' => H' = H ∧ ∀ xs, SqL K H a xs → xs[i]? = some x, fun i H => ∃ xs, SqL K H a xs ∧ xs.length ≤ i⟩
def Itt (K : PySem.W.Frag) (a : Addr) : It :=
  ⟨fun i H => ∃ xs x, SqT K H a xs ∧ xs[i]? = some x, fun i H x H' => H' = H ∧ ∀ xs, SqT K H a xs → xs[i]? = some x, fun i H => ∃ xs, SqT K H a xs ∧ xs.length ≤ i⟩
/-- lo, lo + 1, .. (n of them) -/
def Itr (lo : Int) (n : Nat) : It := ⟨fun i _ => i < n, fun i H x H' => H' = H ∧ x = .int (lo + i), fun i _ => n ≤ i⟩
theorem turn_list {P : Program} {w : World} {K : PySem.W.Frag} {tg : Expr} (a it : Addr) : Turn P w K tg (Itl K a) [it] it (fun i h => h.IsListIter it a i) where
  mem := by simp
  obj := fun i h st b hb => by
    have e : b = it := by simpa using hb
    subst e
    obtain ⟨o, e, c, d⟩ := st
    exact ⟨o, e, fun v z => by rw [d] at z; cases z⟩
  keep := fun i h h' st k => st.at fun o e => k it (by simp) o e
  item := by
    intro X hP hw hK hc i pins s σ H E I hf st hg
    subst hP hw hK
    obtain ⟨xs, x, hq, hx⟩ := hg
    obtain ⟨its, rv, p, hz⟩ := I.list hq
    obtain ⟨u, hu, ru⟩ := rv.get hx
    obtain ⟨f0, f1, f2, f3, f4, f5⟩ := hf it (by simp)
    refine wpAny_pyNext_list_item st p.isList (x := u) (by simpa using hu) fun h' st' sb => ?_
    have I1 : Inv X pins σ H { s with heap := h' } := I.turned (t' := s.toks) (fun b o hb e => (sb.2 b hb).trans e) f0 f1 f3 f4 f5
    obtain ⟨o, e, c, d⟩ := id st'
    exact ⟨u, rfl, go_of (s := { s with heap := h' }) e c d (by decide) ⟨x, H, I1, ru, ⟨rfl, fun ys hy => by rw [I.list_inj hy hq]; exact hx⟩, st', fun b hb => (hf b hb).1⟩⟩
  done := by
    intro X hP hw hK hc i pins s σ H E I hf st hg
    subst hP hw hK
    obtain ⟨xs, hq, hx⟩ := hg
    obtain ⟨its, rv, p, hz⟩ := I.list hq
    obtain ⟨f0, f1, f2, f3, f4, f5⟩ := hf it (by simp)
    have hl := rv.length
    exact wpAny_pyNext_list_end (I.ok.hd hc) st p.isList (by simp; omega) fun h' eb => ⟨rfl, I.turned (t' := s.toks) (fun b o hb e => eb b o hb e) f0 f1 f3 f4 f5⟩
  self := fun _ _ _ _ _ st h => wpAny_pyIter_listiter st h
theorem turn_tuple {P : Program} {w : World} {K : PySem.W.Frag} {tg : Expr} (a it : Addr) : Turn P w K tg (Itt K a) [it] it (fun i h => h.IsTupleIter it a i) where
  mem := by simp
  obj := fun i h st b hb => by
    have e : b = it := by simpa using hb
    subst e
    obtain ⟨o, e, c, d⟩ := st
    exact ⟨o, e, fun v z => by rw [d] at z; cases z⟩
  keep := fun i h h' st k => st.at fun o e => k it (by simp) o e
  item := by
    intro X hP hw hK hc i pins s σ H E I hf st hg
    subst hP hw hK
    obtain ⟨xs, x, hq, hx⟩ := hg
    obtain ⟨its, rv, p, hz⟩ := I.tuple hq
    obtain ⟨u, hu, ru⟩ := rv.get hx
    obtain ⟨f0, f1, f2, f3, f4, f5⟩ := hf it (by simp)
    refine wpAny_pyNext_tuple_item st (show s.heap.IsTuple a its.toArray from p) (x := u) (by simpa using hu) fun h' st' sb => ?_
    have I1 : Inv X pins σ H { s with heap := h' } := I.turned (t' := s.toks) (fun b o hb e => (sb.2 b hb).trans e) f0 f1 f3 f4 f5
    obtain ⟨o, e, c, d⟩ := id st'
    exact ⟨u, rfl, go_of (s := { s with heap := h' }) e c d (by decide) ⟨x, H, I1, ru, ⟨rfl, fun ys hy => by rw [I.tuple_inj hy hq]; exact hx⟩, st', fun b hb => (hf b hb).1⟩⟩
  done := by
    intro X hP hw hK hc i pins s σ H E I hf st hg
    subst hP hw hK
    obtain ⟨xs, hq, hx⟩ := hg
    obtain ⟨its, rv, p, hz⟩ := I.tuple hq
    obtain ⟨f0, f1, f2, f3, f4, f5⟩ := hf it (by simp)
    have hl := rv.length
    exact wpAny_pyNext_tuple_end (I.ok.hd hc) st (show s.heap.IsTuple a its.toArray from p) (by simp; omega) fun h' eb => ⟨rfl, I.turned (t' := s.toks) (fun b o hb e => eb b o hb e) f0 f1 f3 f4 f5⟩
  self := fun _ _ _ _ _ st h => wpAny_pyIter_tupleiter st h
theorem turn_range {P : Program} {w : World} {K : PySem.W.Frag} {tg : Expr} (it : Addr) (lo : Int) (n : Nat) : Turn P w K tg (Itr lo n) [it] it (fun i h => IsRangeIter h it (lo + (i : Nat) * 1) ((n : Int) - (i : Nat)) 1) where
  mem := by simp
  obj := fun i h st b hb => by
    have e : b = it := by simpa using hb
    subst e
    exact ⟨_, st, fun v z => by
      have z' : Data.fields _ = Data.cell v := z
      cases z'⟩
  keep := fun i h h' st k => k it (by simp) _ st
  item := by
    intro X hP hw hK hc i pins s σ H E I hf st hg
    subst hP hw hK
    obtain ⟨f0, f1, f2, f3, f4, f5⟩ := hf it (by simp)
    have W := Walks.range (prog := X.prog) (w := X.w) (I.ok.hd hc) it lo 1 n
    refine W.item i s _ _ hg st fun v h' tk hv st' kk => ?_
    obtain ⟨t, rfl⟩ := hv
    have I1 : Inv X pins σ H { s with heap := h', toks := tk } := I.turned (fun b o hb e => kk b o (by simpa using hb) e) f0 f1 f3 f4 f5
    refine ⟨_, rfl, go_of (s := { s with heap := h', toks := tk }) (n := "range_iterator") st' rfl rfl (by decide) ⟨.int (lo + i), H, I1, ⟨t, ?_⟩, ⟨rfl, rfl⟩, st', fun b hb => (hf b hb).1⟩⟩
    rw [Int.mul_one]
  done := by
    intro X hP hw hK hc i pins s σ H E I hf st hg
    subst hP hw hK
    obtain ⟨f0, f1, f2, f3, f4, f5⟩ := hf it (by simp)
    exact wpAny_pyNext_range_end (I.ok.hd hc) st (by have : n ≤ i := hg; omega) fun h' eb => ⟨rfl, I.turned (t' := s.toks) (fun b o hb e => eb b o hb e) f0 f1 f3 f4 f5⟩
  self := fun _ _ _ _ _ st h => wpAny_pyIter_rangeiter st h
end L2

namespace L2
open PySem PySem.Spec PyProof.Rows
section
variable {X : Cx} {tg : Expr}
def iList (K : PySem.W.Frag) (tl : TE) : TI := fun σ H R => tl σ H fun x H1 => ∃ a, x = .ref a ∧ (∃ xs, SqL K H1 a xs) ∧ R (Itl K a) H1
def iTup (K : PySem.W.Frag) (tl : TE) : TI := fun σ H R => tl σ H fun x H1 => ∃ a, x = .ref a ∧ (∃ xs, SqT K H1 a xs) ∧ R (Itt K a) H1
theorem pi_list {l : Expr} {tl : TE} (hl : PE X l tl) : PI X tg l (iList X.K tl) := by
  intro pins s σ H R I h
  refine thn (hl pins s σ H _ I h) fun v s1 ⟨x, H1, I1, r1, q1⟩ => ?_
  obtain ⟨a, e, ⟨xs, hq⟩, q⟩ := q1
  subst e
  cases r1
  obtain ⟨its, rv, p, hz⟩ := I1.list hq
  refine wpAny_pyIter_list p.isList ?_
  refine ⟨s1.heap.objs.size, [s1.heap.objs.size], _, _, H1, rfl, I1.kept (t' := s1.toks) fun b o e => Heap.get?_push_of_some _ e, turn_list a _, ⟨_, Heap.get?_push_size _ rfl, rfl, rfl⟩, fun b hb => ?_, q⟩
  have e : b = s1.heap.objs.size := by simpa using hb
  subst e
  exact I1.fpOk (Nat.le_refl _) (I1.hok.fresh (Nat.le_refl _))
theorem pi_tup {l : Expr} {tl : TE} (hl : PE X l tl) : PI X tg l (iTup X.K tl) := by
  intro pins s σ H R I h
  refine thn (hl pins s σ H _ I h) fun v s1 ⟨x, H1, I1, r1, q1⟩ => ?_
  obtain ⟨a, e, ⟨xs, hq⟩, q⟩ := q1
  subst e
  cases r1
  obtain ⟨its, rv, p, hz⟩ := I1.tuple hq
  refine wpAny_pyIter_tuple (show s1.heap.IsTuple a its.toArray from p) ?_
  refine ⟨s1.heap.objs.size, [s1.heap.objs.size], _, _, H1, rfl, I1.kept (t' := s1.toks) fun b o e => Heap.get?_push_of_some _ e, turn_tuple a _, ⟨_, Heap.get?_push_size _ rfl, rfl, rfl⟩, fun b hb => ?_, q⟩
  have e : b = s1.heap.objs.size := by simpa using hb
  subst e
  exact I1.fpOk (Nat.le_refl _) (I1.hok.fresh (Nat.le_refl _))
/-- a range object just made, walked -/
theorem range_it {pins : List (Addr × Obj)} {σ : St} {H : Hp} {s : Shared} {R : It → Hp → Prop} {E : Value → Shared → Prop} {lo hi : Int} {t u v : Tok} {tk : Nat} (I : Inv X pins σ H s) (h1 : -(2 ^ 62) ≤ lo) (h2 : lo < 2 ^ 62) (h3 : -(2 ^ 62) ≤ hi) (h4 : hi < 2 ^ 62)
    (q : R (Itr lo (hi - lo).toNat) H) : wpAny (model X.prog X.w) X.A (pyIter (.ref s.heap.objs.size)) (PIE X pins σ tg R) E { s with heap := s.heap.push { cls := .type "range", data := .fields #[.int lo t, .int hi u, .int 1 v] }, toks := tk } := by
  refine wpAny_pyIter_range (IsRange.new ..) (small_one h1 h2 h3 h4) ?_
  have I1 : Inv X pins σ H { s with heap := s.heap.push { cls := .type "range", data := .fields #[.int lo t, .int hi u, .int 1 v] }, toks := tk } := I.kept fun b o e => Heap.get?_push_of_some _ e
  refine ⟨(s.heap.push { cls := .type "range", data := .fields #[.int lo t, .int hi u, .int 1 v] }).objs.size, [(s.heap.push { cls := .type "range", data := .fields #[.int lo t, .int hi u, .int 1 v] }).objs.size], _, _, H, rfl,
    I1.kept (t' := tk) fun b o e => Heap.get?_push_of_some _ e, turn_range _ lo (hi - lo).toNat, ?_, fun b hb => ?_, q⟩
  · have e1 : lo + ((0 : Nat) : Int) * 1 = lo := by simp
    have e2 : (((hi - lo).toNat : Nat) : Int) - ((0 : Nat) : Int) = Builtin.Range.rangeSize lo hi 1 := by rw [rangeSize_one]; split <;> omega
    show IsRangeIter _ _ (lo + ((0 : Nat) : Int) * 1) ((((hi - lo).toNat : Nat) : Int) - ((0 : Nat) : Int)) 1
    rw [e1, e2]
    exact Heap.get?_push_size _ rfl
  · have e : b = (s.heap.push { cls := .type "range", data := .fields #[.int lo t, .int hi u, .int 1 v] }).objs.size := by simpa using hb
    subst e
    exact I1.fpOk (Nat.le_refl _) (I1.hok.fresh (Nat.le_refl _))
def iRng1 (ta : TA) : TI := fun σ H R => ta σ H fun vs H1 => ∃ j : Int, vs = [.int j] ∧ -(2 ^ 62) ≤ j ∧ j < 2 ^ 62 ∧ R (Itr 0 j.toNat) H1
def iRng2 (ta : TA) : TI := fun σ H R => ta σ H fun vs H1 => ∃ i j : Int, vs = [.int i, .int j] ∧ (-(2 ^ 62) ≤ i ∧ i < 2 ^ 62 ∧ -(2 ^ 62) ≤ j ∧ j < 2 ^ 62) ∧ R (Itr i (j - i).toNat) H1
theorem pi_range1 {a : Expr} {ta : TA} {p pos : Pos} (hg : Gl X "range") (hm : X.mg "range" = none) (ha : PA X [a] ta) (hs : starEach [a] X.env = [(false, eval a X.env)] := by rfl) : PI X tg (.Call (.Name "range" p) [a] [] pos) (iRng1 ta) := by
  intro pins s σ H R I h
  refine Call_ (ld_blt I hg hm boot_range (PyProof.Rows.callWith_type1 (thn (ha pos pins s σ H _ I h) fun us s1 ⟨vs, H1, I1, r1, q1⟩ => ?_) hs rfl))
  obtain ⟨j, e, q1, q2, q⟩ := q1
  subst e
  cases r1 with
  | cons r rr =>
    cases rr
    obtain ⟨t, rfl⟩ := r
    exact call_range_1 (range_it I1 (by omega) (by omega) q1 q2 (by simpa using q))
theorem pi_range2 {a b : Expr} {ta : TA} {p pos : Pos} (hg : Gl X "range") (hm : X.mg "range" = none) (ha : PA X [a, b] ta) (hs : starEach [a, b] X.env = [(false, eval a X.env), (false, eval b X.env)] := by rfl) (hs2 : starEach [b] X.env = [(false, eval b X.env)] := by rfl) :
    PI X tg (.Call (.Name "range" p) [a, b] [] pos) (iRng2 ta) := by
  intro pins s σ H R I h
  refine Call_ (ld_blt I hg hm boot_range (PyProof.Rows.callWith_type1 (thn (ha pos pins s σ H _ I h) fun us s1 ⟨vs, H1, I1, r1, q1⟩ => ?_) (by rw [hs, hs2]) (by rw [hs2]; rfl)))
  obtain ⟨i, j, e, ⟨q1, q2, q3, q4⟩, q⟩ := q1
  subst e
  cases r1 with
  | cons r rr =>
    cases rr with
    | cons r' rr =>
      cases rr
      obtain ⟨t, rfl⟩ := r
      obtain ⟨t', rfl⟩ := r'
      exact call_range_2 (range_it I1 q1 q2 q3 q4 q)

/-! ### for -/
/-- W: the invariant by the turn and a measure; N: what the body is to reach -/
def tFor (wi : TI) (g : TG) (tb : TS) : TS := fun D σ H => wi σ H fun J H1 => ∃ W : Nat → Nat → St → Hp → Prop, (∃ m, W 0 m σ H1) ∧ ∀ i m σ H, W i m σ H →
  (J.stop i H ∧ D.nx σ H) ∨ (J.go i H ∧ ∃ N : St → Hp → Prop, (∀ σ' H', N σ' H' → ∃ m', m' < m ∧ W (i + 1) m' σ' H') ∧ ∀ x H', J.yld i H x H' → g x σ H' fun σ2 H2 => tb { D with nx := N, ct := N, bk := D.nx } σ2 H2)
/-- the records at fp as they stand -/
def pinsAt (fp : List Addr) (h : Heap) : List (Addr × Obj) := fp.filterMap fun b => (h.get? b).map fun o => (b, o)
theorem mem_pinsAt {fp : List Addr} {h : Heap} {b : Addr} {o : Obj} (hb : b ∈ fp) (e : h.get? b = some o) : (b, o) ∈ pinsAt fp h := List.mem_filterMap.mpr ⟨b, hb, by rw [e]; rfl⟩
theorem of_pinsAt {fp : List Addr} {h : Heap} {p : Addr × Obj} (hp : p ∈ pinsAt fp h) : p.1 ∈ fp ∧ h.get? p.1 = some p.2 := by
  obtain ⟨b, hb, e⟩ := List.mem_filterMap.mp hp
  cases q : h.get? b with
  | none => rw [q] at e; cases e
  | some o =>
    rw [q] at e
    have e' : (b, o) = p := Option.some.inj e
    subst e'
    exact ⟨hb, q⟩
theorem Inv.pinned {pins : List (Addr × Obj)} {σ : St} {H : Hp} {s : Shared} {fp : List Addr} (I : Inv X pins σ H s) (hf : ∀ b ∈ fp, FpOk X pins H b) (ho : ∀ b ∈ fp, ∃ o, s.heap.get? b = some o ∧ ∀ v, o.data ≠ .cell v) : Inv X (pins ++ pinsAt fp s.heap) σ H s :=
  I.pins_of fun p hp => (List.mem_append.mp hp).elim (fun z => I.pin p (List.mem_append_right _ z)) fun z => by
    obtain ⟨hb, e⟩ := of_pinsAt z
    obtain ⟨f0, f1, f2, _⟩ := hf p.1 hb
    obtain ⟨o, e', d⟩ := ho p.1 hb
    rw [e] at e'; cases e'
    exact ⟨e, f0, f1, f2, d⟩
theorem Inv.unpinned {pins pl : List (Addr × Obj)} {σ : St} {H : Hp} {s : Shared} (I : Inv X (pins ++ pl) σ H s) : Inv X pins σ H s := I.pins_of fun p hp => I.pin p (List.mem_append_right _ (List.mem_append_left _ hp))
theorem ps_for {iter : Expr} {body : List Stmt} {wi : TI} {g : TG} {tb : TS} {pos : Pos} (hp : PassesOwn (model X.prog X.w) X.A X.env X.xe) (hc : X.calm = true) (hi : PI X tg iter wi) (hg : PG X tg g) (hb : PSs X body tb)
    (hs : ∀ x, foldedSetIterable iter X.env x = pure x := by intro _; rfl) : PS X (.For tg iter body [] pos) (tFor wi g tb) := by
  intro pins s σ H D I h
  refine wpAny_For (thn (hi pins s σ H _ I h) fun v s1 h1 => thn h1 fun itv s2 h2 => ?_) hs
  obtain ⟨it, fp, tn, J, H2, e, I2, T, st2, f2, W, ⟨m0, w0⟩, turn⟩ := h2
  subst e
  -- what stays true of the iterator's objects through the loop
  have stat : ∀ {H' : Hp}, (∀ b ∈ fp, H' b = none) → ∀ b ∈ fp, FpOk X pins H' b := fun hn b hb => ⟨hn b hb, (f2 b hb).2⟩
  refine codeAny_forLoop_any (fun n s' => ∃ i σ' H', Inv X pins σ' H' s' ∧ tn i s'.heap ∧ (∀ b ∈ fp, H' b = none) ∧ W i n σ' H') ?_ m0 ⟨0, σ, H2, I2, st2, fun b hb => (f2 b hb).1, w0⟩
  rintro n s3 ⟨i, σ3, H3, I3, st3, fr3, w3⟩
  rcases turn i n σ3 H3 w3 with ⟨stop, qn⟩ | ⟨go, N, hN, step⟩
  · refine wpAny_passesOwn hp (thn (T.done X rfl rfl rfl hc i pins s3 σ3 H3 X.xe I3 (stat fr3) st3 stop) fun r s4 ⟨hr, I4⟩ => ?_)
    subst hr
    exact wpAny_execs_nil ⟨σ3, H3, I4, qn⟩
  · refine wpAny_passesOwn hp (thn (T.item X rfl rfl rfl hc i pins s3 σ3 H3 X.xe I3 (stat fr3) st3 go) fun r s4 ⟨u, hr, h4⟩ => ?_)
    subst hr
    refine wpAny_passesOwn hp (thn h4 fun _ s5 ⟨x, H5, I5, r5, y5, st5, fr5⟩ => ?_)
    have I5' := I5.pinned (stat fr5) (T.obj _ _ st5)
    refine wpAny_passesOwn hp (thn (hg _ s5 σ3 H5 x u _ I5' r5 (step x H5 y5)) fun _ s6 ⟨σ6, H6, I6, q6⟩ => ?_)
    refine wpAny_passesOwn hp (thn (hb _ s6 σ6 H6 _ I6 q6) fun f s7 q7 => ?_)
    have again : ∀ {σ7 : St} {H7 : Hp}, Inv X (pins ++ pinsAt fp s5.heap) σ7 H7 s7 → N σ7 H7 → ∃ m, m < n ∧ ∃ i σ' H', Inv X pins σ' H' s7 ∧ tn i s7.heap ∧ (∀ b ∈ fp, H' b = none) ∧ W i m σ' H' := fun {σ7 H7} I7 n7 => by
      obtain ⟨m', hm, w7⟩ := hN σ7 H7 n7
      refine ⟨m', hm, i + 1, σ7, H7, I7.unpinned, T.keep _ _ _ st5 fun b hb o e => (I7.pin (b, o) (List.mem_append_right _ (List.mem_append_right _ (mem_pinsAt hb e)))).1, fun b hb => ?_, w7⟩
      obtain ⟨o, e, d⟩ := T.obj _ _ st5 b hb
      exact (I7.pin (b, o) (List.mem_append_right _ (List.mem_append_right _ (mem_pinsAt hb e)))).2.1
    cases f with
    | next => obtain ⟨σ7, H7, I7, n7⟩ := q7; exact again I7 n7
    | cont => obtain ⟨σ7, H7, I7, n7⟩ := q7; exact again I7 n7
    | brk => obtain ⟨σ7, H7, I7, q7⟩ := q7; exact ⟨σ7, H7, I7.unpinned, q7⟩
    | ret v => obtain ⟨x7, σ7, H7, I7, r7, q7⟩ := q7; exact ⟨x7, σ7, H7, I7.unpinned, r7, q7⟩
end

/-! ### the forms one uses -/
/-- over a list that the body leaves as it is -/
theorem for_list {K : PySem.W.Frag} {a : Addr} {xs : List V} {g : TG} {tb : TS} {D : Ends} {σ : St} {H : Hp} (Pv : Nat → St → Hp → Prop) (h0 : Pv 0 σ H) (hl : ∀ i σ H, i ≤ xs.length → Pv i σ H → SqL K H a xs)
    (hs : ∀ i x σ H, xs[i]? = some x → Pv i σ H → g x σ H fun σ2 H2 => tb { D with nx := Pv (i + 1), ct := Pv (i + 1), bk := D.nx } σ2 H2) (hd : ∀ σ H, Pv xs.length σ H → D.nx σ H) :
    ∃ W : Nat → Nat → St → Hp → Prop, (∃ m, W 0 m σ H) ∧ ∀ i m σ H, W i m σ H →
      ((Itl K a).stop i H ∧ D.nx σ H) ∨ ((Itl K a).go i H ∧ ∃ N : St → Hp → Prop, (∀ σ' H', N σ' H' → ∃ m', m' < m ∧ W (i + 1) m' σ' H') ∧ ∀ x H', (Itl K a).yld i H x H' → g x σ H' fun σ2 H2 => tb { D with nx := N, ct := N, bk := D.nx } σ2 H2) := by
  refine ⟨fun i m σ H => m = xs.length - i ∧ i ≤ xs.length ∧ Pv i σ H, ⟨xs.length, by simp, Nat.zero_le _, h0⟩, ?_⟩
  rintro i m σ H ⟨rfl, hi, p⟩
  have q := hl i σ H hi p
  by_cases hlt : i < xs.length
  · refine .inr ⟨⟨xs, xs[i], q, by simp [hlt]⟩, Pv (i + 1), fun σ' H' p' => ⟨xs.length - (i + 1), by omega, rfl, hlt, p'⟩, fun x H' y => ?_⟩
    obtain ⟨e, y⟩ := y
    subst e
    exact hs i x σ _ (y xs q) p
  · have e : i = xs.length := by omega
    subst e
    exact .inl ⟨⟨xs, q, Nat.le_refl _⟩, hd σ H p⟩
theorem for_tup {K : PySem.W.Frag} {a : Addr} {xs : List V} {g : TG} {tb : TS} {D : Ends} {σ : St} {H : Hp} (Pv : Nat → St → Hp → Prop) (h0 : Pv 0 σ H) (hl : ∀ i σ H, i ≤ xs.length → Pv i σ H → SqT K H a xs)
    (hs : ∀ i x σ H, xs[i]? = some x → Pv i σ H → g x σ H fun σ2 H2 => tb { D with nx := Pv (i + 1), ct := Pv (i + 1), bk := D.nx } σ2 H2) (hd : ∀ σ H, Pv xs.length σ H → D.nx σ H) :
    ∃ W : Nat → Nat → St → Hp → Prop, (∃ m, W 0 m σ H) ∧ ∀ i m σ H, W i m σ H →
      ((Itt K a).stop i H ∧ D.nx σ H) ∨ ((Itt K a).go i H ∧ ∃ N : St → Hp → Prop, (∀ σ' H', N σ' H' → ∃ m', m' < m ∧ W (i + 1) m' σ' H') ∧ ∀ x H', (Itt K a).yld i H x H' → g x σ H' fun σ2 H2 => tb { D with nx := N, ct := N, bk := D.nx } σ2 H2) := by
  refine ⟨fun i m σ H => m = xs.length - i ∧ i ≤ xs.length ∧ Pv i σ H, ⟨xs.length, by simp, Nat.zero_le _, h0⟩, ?_⟩
  rintro i m σ H ⟨rfl, hi, p⟩
  have q := hl i σ H hi p
  by_cases hlt : i < xs.length
  · refine .inr ⟨⟨xs, xs[i], q, by simp [hlt]⟩, Pv (i + 1), fun σ' H' p' => ⟨xs.length - (i + 1), by omega, rfl, hlt, p'⟩, fun x H' y => ?_⟩
    obtain ⟨e, y⟩ := y
    subst e
    exact hs i x σ _ (y xs q) p
  · have e : i = xs.length := by omega
    subst e
    exact .inl ⟨⟨xs, q, Nat.le_refl _⟩, hd σ H p⟩
theorem for_range {lo : Int} {n : Nat} {g : TG} {tb : TS} {D : Ends} {σ : St} {H : Hp} (Pv : Nat → St → Hp → Prop) (h0 : Pv 0 σ H)
    (hs : ∀ i σ H, i < n → Pv i σ H → g (.int (lo + i)) σ H fun σ2 H2 => tb { D with nx := Pv (i + 1), ct := Pv (i + 1), bk := D.nx } σ2 H2) (hd : ∀ σ H, Pv n σ H → D.nx σ H) :
    ∃ W : Nat → Nat → St → Hp → Prop, (∃ m, W 0 m σ H) ∧ ∀ i m σ H, W i m σ H →
      ((Itr lo n).stop i H ∧ D.nx σ H) ∨ ((Itr lo n).go i H ∧ ∃ N : St → Hp → Prop, (∀ σ' H', N σ' H' → ∃ m', m' < m ∧ W (i + 1) m' σ' H') ∧ ∀ x H', (Itr lo n).yld i H x H' → g x σ H' fun σ2 H2 => tb { D with nx := N, ct := N, bk := D.nx } σ2 H2) := by
  refine ⟨fun i m σ H => m = n - i ∧ i ≤ n ∧ Pv i σ H, ⟨n, by simp, Nat.zero_le _, h0⟩, ?_⟩
  rintro i m σ H ⟨rfl, hi, p⟩
  by_cases hlt : i < n
  · refine .inr ⟨hlt, Pv (i + 1), fun σ' H' p' => ⟨n - (i + 1), by omega, rfl, hlt, p'⟩, fun x H' y => ?_⟩
    obtain ⟨e, y⟩ := y
    subst e y
    exact hs i σ _ hlt p
  · have e : i = n := by omega
    subst e
    exact .inl ⟨Nat.le_refl _, hd σ H p⟩
/-- while, by a word and a measure of the state -/
theorem while_by {c : TT} {tb : TS} {D : Ends} {σ : St} {H : Hp} (Pv : St → Hp → Prop) (μ : St → Hp → Nat) (h0 : Pv σ H)
    (hs : ∀ σ H, Pv σ H → c σ H fun b H1 => if b = true then tb { D with nx := fun σ' H' => Pv σ' H' ∧ μ σ' H' < μ σ H, ct := fun σ' H' => Pv σ' H' ∧ μ σ' H' < μ σ H, bk := D.nx } σ H1 else D.nx σ H1)
    (mono : ∀ σ H Q Q', (∀ b H1, Q b H1 → Q' b H1) → c σ H Q → c σ H Q') : tWhile c tb D σ H := by
  refine ⟨fun m σ H => m = μ σ H ∧ Pv σ H, ⟨_, rfl, h0⟩, ?_⟩
  rintro m σ H ⟨rfl, p⟩
  refine mono σ H _ _ (fun b H1 q => ?_) (hs σ H p)
  cases b with
  | true => exact ⟨_, fun σ' H' ⟨p', l⟩ => ⟨_, l, rfl, p'⟩, q⟩
  | false => exact q
end L2

namespace L2
open PySem PySem.Spec PyProof.Rows

abbrev R2 := V → V → Hp → VK → Prop
/-- a two-place operation on values: f is binaryOp op, inplaceOp op or compareOp op -/
def OpR (X : Cx) (f : Value → Value → Sem Value) (r : R2) : Prop :=
  ∀ (pins : List (Addr × Obj)) (s : Shared) (σ : St) (H : Hp) (x y : V) (v u : Value) (Q : VK), Inv X pins σ H s → RelV x v → RelV y u → r x y H Q →
    wpAny (model X.prog X.w) X.A (f v u) (EP X pins σ Q) X.xe s
/-- a one-place operation -/
def UnR (X : Cx) (f : Value → Sem Value) (r : V → Hp → VK → Prop) : Prop :=
  ∀ (pins : List (Addr × Obj)) (s : Shared) (σ : St) (H : Hp) (x : V) (v : Value) (Q : VK), Inv X pins σ H s → RelV x v → r x H Q →
    wpAny (model X.prog X.w) X.A (f v) (EP X pins σ Q) X.xe s
/-- a call of a value that is known (a builtin, a type) with values -/
def CallR (X : Cx) (f : Value) (r : List V → Hp → VK → Prop) : Prop :=
  ∀ (pins : List (Addr × Obj)) (s : Shared) (σ : St) (H : Hp) (xs : List V) (us : List Value) (Q : VK), Inv X pins σ H s → Vals xs us → r xs H Q →
    wpAny (model X.prog X.w) X.A (call f us) (EP X pins σ Q) X.xe s
/-- a value's truth -/
def TruR (X : Cx) (r : V → Hp → (Bool → Hp → Prop) → Prop) : Prop :=
  ∀ (pins : List (Addr × Obj)) (s : Shared) (σ : St) (H : Hp) (x : V) (v : Value) (Q : Bool → Hp → Prop), Inv X pins σ H s → RelV x v → r x H Q →
    wpAny (model X.prog X.w) X.A (truthy v) (TP X pins σ Q) X.xe s

def tOp (r : R2) (ta tb : TE) : TE := fun σ H Q => ta σ H fun x H1 => tb σ H1 fun y H2 => r x y H2 Q
def tUn (r : V → Hp → VK → Prop) (ta : TE) : TE := fun σ H Q => ta σ H fun x H1 => r x H1 Q
/-- ints in, under C, and a value out -/
def rI (C : Int → Int → Prop) (g : Int → Int → V) : R2 := fun x y H Q => ∃ i j, x = .int i ∧ y = .int j ∧ C i j ∧ Q (g i j) H
def rI0 (g : Int → Int → V) : R2 := fun x y H Q => ∃ i j, x = .int i ∧ y = .int j ∧ Q (g i j) H
def rU (g : Int → V) : V → Hp → VK → Prop := fun x H Q => ∃ i, x = .int i ∧ Q (g i) H

section
variable {X : Cx} {a b c : Expr} {ta tb tc : TE} {pos : Pos}

theorem binT (ha : PE X a ta) (hb : PE X b tb) {pins : List (Addr × Obj)} {s : Shared} {σ : St} {H : Hp} {R : V → V → Hp → Prop} (I : Inv X pins σ H s)
    (h : ta σ H fun x H1 => tb σ H1 fun y H2 => R x y H2) {Q : Value → Shared → Prop} {f : Value → Value → Sem Value}
    (hf : ∀ v u s2 x y H2, Inv X pins σ H2 s2 → RelV x v → RelV y u → R x y H2 → wpAny (model X.prog X.w) X.A (f v u) Q X.xe s2) :
    wpAny (model X.prog X.w) X.A (eval a X.env) (fun v s₁ => wpAny (model X.prog X.w) X.A (eval b X.env) (fun u s₂ => wpAny (model X.prog X.w) X.A (f v u) Q X.xe s₂) X.xe s₁) X.xe s := by
  refine thn (ha pins s σ H _ I h) fun v s1 ⟨x, H1, I1, r1, q1⟩ => ?_
  refine thn (hb pins s1 σ H1 _ I1 q1) fun u s2 ⟨y, H2, I2, r2, q2⟩ => ?_
  exact hf v u s2 x y H2 I2 r1 r2 q2

theorem pe_op {op : Operator} {r : R2} (ho : OpR X (binaryOp op) r) (ha : PE X a ta) (hb : PE X b tb) : PE X (.BinOp a op b pos) (tOp r ta tb) := by
  intro pins s σ H Q I h
  exact wpAny_BinOp (binT ha hb I h fun v u s2 x y H2 I2 rx ry q => ho pins s2 σ H2 x y v u Q I2 rx ry q)
theorem pe_un {op : UnaryOp} {r : V → Hp → VK → Prop} (ho : UnR X (unaryOp op) r) (ha : PE X a ta) : PE X (.UnaryOp op a pos) (tUn r ta) := by
  intro pins s σ H Q I h
  exact UnaryOp_ (thn (ha pins s σ H _ I h) fun v s1 ⟨x, H1, I1, r1, q1⟩ => ho pins s1 σ H1 x v Q I1 r1 q1)
/-- a op= e at a name: the name's slot i -/
theorem augR {op : Operator} {r : R2} (ho : OpR X (inplaceOp op) r) {pins : List (Addr × Obj)} {s : Shared} {σ : St} {H : Hp} {x y : V} {v u : Value} {Q : VK} (I : Inv X pins σ H s)
    (rx : RelV x v) (ry : RelV y u) (q : r x y H Q) : wpAny (model X.prog X.w) X.A (inplaceOp op v u) (EP X pins σ Q) X.xe s := ho pins s σ H x y v u Q I rx ry q

/-! ### ints -/
theorem opI {f : Value → Value → Sem Value} {C : Int → Int → Prop} {g : Int → Int → Int}
    (rule : ∀ (i j : Int) (t u : Tok) (s : Shared) (Q : Value → Shared → Prop) (E : Value → Shared → Prop), C i j → Q (.int (g i j) s.toks) { s with toks := s.toks + 1 } → wpAny (model X.prog X.w) X.A (f (.int i t) (.int j u)) Q E s) :
    OpR X f (rI C fun i j => .int (g i j)) := by
  intro pins s σ H x y v u Q I rx ry h
  obtain ⟨i, j, rfl, rfl, hc, q⟩ := h
  obtain ⟨t, rfl⟩ := rx
  obtain ⟨t', rfl⟩ := ry
  exact rule i j t t' s _ _ hc ⟨.int (g i j), H, I.tok _, ⟨_, rfl⟩, q⟩
theorem opI0 {f : Value → Value → Sem Value} {g : Int → Int → Int}
    (rule : ∀ (i j : Int) (t u : Tok) (s : Shared) (Q : Value → Shared → Prop) (E : Value → Shared → Prop), Q (.int (g i j) s.toks) { s with toks := s.toks + 1 } → wpAny (model X.prog X.w) X.A (f (.int i t) (.int j u)) Q E s) :
    OpR X f (rI0 fun i j => .int (g i j)) := by
  intro pins s σ H x y v u Q I rx ry h
  obtain ⟨i, j, rfl, rfl, q⟩ := h
  obtain ⟨t, rfl⟩ := rx
  obtain ⟨t', rfl⟩ := ry
  exact rule i j t t' s _ _ ⟨.int (g i j), H, I.tok _, ⟨_, rfl⟩, q⟩
theorem opB0 {f : Value → Value → Sem Value} {g : Int → Int → Bool}
    (rule : ∀ (i j : Int) (t u : Tok) (s : Shared) (Q : Value → Shared → Prop) (E : Value → Shared → Prop), Q (.bool (g i j)) s → wpAny (model X.prog X.w) X.A (f (.int i t) (.int j u)) Q E s) :
    OpR X f (rI0 fun i j => .bl (g i j)) := by
  intro pins s σ H x y v u Q I rx ry h
  obtain ⟨i, j, rfl, rfl, q⟩ := h
  obtain ⟨t, rfl⟩ := rx
  obtain ⟨t', rfl⟩ := ry
  exact rule i j t t' s _ _ ⟨.bl (g i j), H, I, rfl, q⟩

def CDiv (i j : Int) : Prop := 0 < j ∧ j < 1073741824
def CDivN (i j : Int) : Prop := j ≠ 0 ∧ j.natAbs < 1073741824
def CPow (i j : Int) : Prop := 0 ≤ j ∧ j ≤ 1000000 ∧ i.natAbs < 2 ^ 64
def CMul (i j : Int) : Prop := (-(2 ^ 64) < i ∧ i < 2 ^ 64) ∨ (-(2 ^ 64) < j ∧ j < 2 ^ 64)
theorem CMul.ok {i j : Int} (h : CMul i j) : IntMulOk i j := by
  rcases h with ⟨h1, h2⟩ | ⟨h1, h2⟩
  · exact .of_left (intBits_le_64 h1 h2)
  · exact .of_right (intBits_le_64 h1 h2)
theorem two_pow_nn (k : Nat) : (0 : Int) ≤ 2 ^ k := by
  rw [two_pow_cast]
  exact Int.natCast_nonneg _

theorem op_add : OpR X (binaryOp .Add) (rI0 fun i j => .int (i + j)) := opI0 fun _ _ _ _ _ _ _ q => add_int q
theorem op_sub : OpR X (binaryOp .Sub) (rI0 fun i j => .int (i - j)) := opI0 fun _ _ _ _ _ _ _ q => sub_int q
theorem op_mul : OpR X (binaryOp .Mult) (rI CMul fun i j => .int (i * j)) := opI fun _ _ _ _ _ _ _ hc q => mul_int q hc.ok
/-- // by a positive divisor -/
theorem op_fdiv : OpR X (binaryOp .FloorDiv) (rI CDiv fun i j => .int (i / j)) := opI fun i j _ _ _ _ _ hc q => by
  have h1 : (0 : Int) < j := hc.1
  have h2 : j < 1073741824 := hc.2
  exact floordiv_int (by omega) (by rw [Int.fdiv_eq_ediv_of_nonneg i (by omega)]; exact q) (.inl (PyProof.noPylong_small (by omega)))
theorem op_fdivN : OpR X (binaryOp .FloorDiv) (rI CDivN fun i j => .int (i.fdiv j)) := opI fun _ _ _ _ _ _ _ hc q => floordiv_int hc.1 q (.inl (PyProof.noPylong_small hc.2))
/-- % by a positive divisor of any size -/
theorem op_mod : OpR X (binaryOp .Mod) (rI (fun _ j => 0 < j) fun i j => .int (i % j)) := opI fun i j _ _ _ _ _ hc q => by
  have h1 : (0 : Int) < j := hc
  exact mod_int' (by omega) (by rw [Int.fmod_eq_emod_of_nonneg i (by omega)]; exact q)
theorem op_modN : OpR X (binaryOp .Mod) (rI (fun _ j => j ≠ 0) fun i j => .int (i.fmod j)) := opI fun _ _ _ _ _ _ _ hc q => mod_int' hc q
theorem op_pow : OpR X (binaryOp .Pow) (rI CPow fun i j => .int (i ^ j.toNat)) := opI fun _ _ _ _ _ _ _ hc q => pow_int_small hc.1 hc.2.1 hc.2.2 q
theorem op_shl : OpR X (binaryOp .LShift) (rI CPow fun i j => .int (i * 2 ^ j.toNat)) := opI fun _ _ _ _ _ _ _ hc q => lshift_int_small hc.1 hc.2.1 hc.2.2 q
theorem op_shr : OpR X (binaryOp .RShift) (rI (fun _ j => 0 ≤ j) fun i j => .int (i / 2 ^ j.toNat)) := opI fun i j _ _ _ _ _ hc q =>
  rshift_int hc (by rw [Int.fdiv_eq_ediv_of_nonneg i (two_pow_nn _)]; exact q)
theorem op_and : OpR X (binaryOp .BitAnd) (rI0 fun i j => .int (Builtin.bitAnd i j)) := opI0 fun _ _ _ _ _ _ _ q => and_int q
theorem op_or : OpR X (binaryOp .BitOr) (rI0 fun i j => .int (Builtin.bitOr i j)) := opI0 fun _ _ _ _ _ _ _ q => or_int q
theorem op_xor : OpR X (binaryOp .BitXor) (rI0 fun i j => .int (Builtin.bitXor i j)) := opI0 fun _ _ _ _ _ _ _ q => xor_int q

theorem iop_add : OpR X (inplaceOp .Add) (rI0 fun i j => .int (i + j)) := opI0 fun _ _ _ _ _ _ _ q => iadd_int q
theorem iop_sub : OpR X (inplaceOp .Sub) (rI0 fun i j => .int (i - j)) := opI0 fun _ _ _ _ _ _ _ q => isub_int q
theorem iop_mul : OpR X (inplaceOp .Mult) (rI CMul fun i j => .int (i * j)) := opI fun _ _ _ _ _ _ _ hc q => imul_int q hc.ok
theorem iop_fdiv : OpR X (inplaceOp .FloorDiv) (rI CDiv fun i j => .int (i / j)) := opI fun i j _ _ _ _ _ hc q => by
  have h1 : (0 : Int) < j := hc.1
  have h2 : j < 1073741824 := hc.2
  exact ifloordiv_int (by omega) (by rw [Int.fdiv_eq_ediv_of_nonneg i (by omega)]; exact q) (.inl (PyProof.noPylong_small (by omega)))
theorem iop_mod : OpR X (inplaceOp .Mod) (rI (fun _ j => 0 < j) fun i j => .int (i % j)) := opI fun i j _ _ _ _ _ hc q => by
  have h1 : (0 : Int) < j := hc
  exact imod_int (by omega) (by rw [Int.fmod_eq_emod_of_nonneg i (by omega)]; exact q)
theorem iop_shl : OpR X (inplaceOp .LShift) (rI CPow fun i j => .int (i * 2 ^ j.toNat)) := opI fun _ _ _ _ _ _ _ hc q => ilshift_int_small hc.1 hc.2.1 hc.2.2 q
theorem iop_shr : OpR X (inplaceOp .RShift) (rI (fun _ j => 0 ≤ j) fun i j => .int (i / 2 ^ j.toNat)) := opI fun i j _ _ _ _ _ hc q =>
  irshift_int hc (by rw [Int.fdiv_eq_ediv_of_nonneg i (two_pow_nn _)]; exact q)
theorem iop_and : OpR X (inplaceOp .BitAnd) (rI0 fun i j => .int (Builtin.bitAnd i j)) := opI0 fun _ _ _ _ _ _ _ q => iand_int q
theorem iop_or : OpR X (inplaceOp .BitOr) (rI0 fun i j => .int (Builtin.bitOr i j)) := opI0 fun _ _ _ _ _ _ _ q => ior_int q
theorem iop_xor : OpR X (inplaceOp .BitXor) (rI0 fun i j => .int (Builtin.bitXor i j)) := opI0 fun _ _ _ _ _ _ _ q => ixor_int q

theorem unI {f : Value → Sem Value} {g : Int → Int}
    (rule : ∀ (i : Int) (t : Tok) (s : Shared) (Q : Value → Shared → Prop) (E : Value → Shared → Prop), Q (.int (g i) s.toks) { s with toks := s.toks + 1 } → wpAny (model X.prog X.w) X.A (f (.int i t)) Q E s) :
    UnR X f (rU fun i => .int (g i)) := by
  intro pins s σ H x v Q I rx h
  obtain ⟨i, rfl, q⟩ := h
  obtain ⟨t, rfl⟩ := rx
  exact rule i t s _ _ ⟨.int (g i), H, I.tok _, ⟨_, rfl⟩, q⟩
theorem un_neg : UnR X (unaryOp .USub) (rU fun i => .int (-i)) := unI fun _ _ _ _ _ q => neg_int q
theorem un_inv : UnR X (unaryOp .Invert) (rU fun i => .int (Builtin.bitNot i)) := unI fun _ _ _ _ _ q => invert_int q

/-! ### bools among ints: n += (a < b) -/
theorem op_add_ib : OpR X (binaryOp .Add) (fun x y H Q => ∃ i k, x = .int i ∧ y = .bl k ∧ Q (.int (i + b2i k)) H) := by
  intro pins s σ H x y v u Q I rx ry h
  obtain ⟨i, k, rfl, rfl, q⟩ := h
  obtain ⟨t, rfl⟩ := rx
  cases ry
  exact add_int_bool ⟨.int (i + b2i k), H, I.tok _, ⟨_, rfl⟩, q⟩
end

/-! ### comparisons -/
/-- the scalars that == tells apart as data does -/
def scal : V → V → Bool
  | .non, .non => true | .non, .int _ => true | .int _, .non => true | .non, .bl _ => true | .bl _, .non => true | .non, .str _ => true | .str _, .non => true
  | .int _, .int _ => true | .bl _, .bl _ => true | .str _, .str _ => true | .byt _, .byt _ => true
  | .int _, .str _ => true | .str _, .int _ => true | .bl _, .str _ => true | .str _, .bl _ => true
  | _, _ => false
def rEq : R2 := fun x y H Q => scal x y = true ∧ Q (.bl (decide (x = y))) H
def rNe : R2 := fun x y H Q => scal x y = true ∧ Q (.bl (!decide (x = y))) H

theorem dec_int {i j : Int} : decide (V.int i = V.int j) = (i == j) := by
  rw [Bool.eq_iff_iff]
  simp
theorem dec_bl {i j : Bool} : decide (V.bl i = V.bl j) = (i == j) := by
  rw [Bool.eq_iff_iff]
  simp
theorem dec_str {i j : Str} : decide (V.str i = V.str j) = (i == j) := by
  rw [Bool.eq_iff_iff]
  simp
theorem dec_byt {i j : Array UInt8} : decide (V.byt i = V.byt j) = (i.toList == j.toList) := by
  rw [Bool.eq_iff_iff]
  cases i
  cases j
  simp

section
variable {X : Cx} {a b c : Expr} {ta tb tc : TE} {pos : Pos}
theorem fin_bl {pins : List (Addr × Obj)} {σ : St} {H : Hp} {s : Shared} {Q : VK} {k k' : Bool} (I : Inv X pins σ H s) (q : Q (.bl k) H) (e : k = k') : EP X pins σ Q (.bool k') s := by
  subst e
  exact ⟨.bl k, H, I, rfl, q⟩
theorem op_eq : OpR X (compareOp .Eq) rEq := by
  intro pins s σ H x y v u Q I rx ry h
  obtain ⟨hs, q⟩ := h
  cases x with
  | non =>
    cases rx
    cases y with
    | non => cases ry; exact PySem.EqNone.eq_none_none (fin_bl I q (by simp))
    | bl j => cases ry; exact PySem.EqNone.eq_none_bool (fin_bl I q (by simp))
    | int j => obtain ⟨t', rfl⟩ := ry; exact PySem.EqNone.eq_none_int (fin_bl I q (by simp))
    | str j => obtain ⟨t', rfl⟩ := ry; exact PySem.EqNone.eq_none_str (fin_bl I q (by simp))
    | _ => exact absurd (show false = true from hs) Bool.false_ne_true
  | bl i =>
    cases rx
    cases y with
    | non => cases ry; exact PySem.EqNone.eq_bool_none (fin_bl I q (by simp))
    | bl j => cases ry; exact eq_bool (fin_bl I q dec_bl)
    | str j => obtain ⟨t', rfl⟩ := ry; exact PySem.EqMixed.eq_bool_str (fin_bl I q (by simp))
    | _ => exact absurd (show false = true from hs) Bool.false_ne_true
  | int i =>
    obtain ⟨t, rfl⟩ := rx
    cases y with
    | non => cases ry; exact PySem.EqNone.eq_int_none (fin_bl I q (by simp))
    | int j => obtain ⟨t', rfl⟩ := ry; exact eq_int (fin_bl I q dec_int)
    | str j => obtain ⟨t', rfl⟩ := ry; exact PySem.EqMixed.eq_int_str (fin_bl I q (by simp))
    | _ => exact absurd (show false = true from hs) Bool.false_ne_true
  | str i =>
    obtain ⟨t, rfl⟩ := rx
    cases y with
    | non => cases ry; exact PySem.EqNone.eq_str_none (fin_bl I q (by simp))
    | bl j => cases ry; exact PySem.EqMixed.eq_str_bool (fin_bl I q (by simp))
    | int j => obtain ⟨t', rfl⟩ := ry; exact PySem.EqMixed.eq_str_int (fin_bl I q (by simp))
    | str j => obtain ⟨t', rfl⟩ := ry; exact eq_str (fin_bl I q dec_str)
    | _ => exact absurd (show false = true from hs) Bool.false_ne_true
  | byt i =>
    obtain ⟨t, rfl⟩ := rx
    cases y with
    | byt j => obtain ⟨t', rfl⟩ := ry; exact PySem.W.eq_bytes (fin_bl I q dec_byt)
    | _ => exact absurd (show false = true from hs) Bool.false_ne_true
  | _ => cases y <;> exact absurd (show false = true from hs) Bool.false_ne_true
theorem op_ne : OpR X (compareOp .NotEq) rNe := by
  intro pins s σ H x y v u Q I rx ry h
  obtain ⟨hs, q⟩ := h
  cases x with
  | non =>
    cases rx
    cases y with
    | non => cases ry; exact PySem.EqNone.ne_none_none (fin_bl I q (by simp))
    | bl j => cases ry; exact PySem.EqNone.ne_none_bool (fin_bl I q (by simp))
    | int j => obtain ⟨t', rfl⟩ := ry; exact PySem.EqNone.ne_none_int (fin_bl I q (by simp))
    | str j => obtain ⟨t', rfl⟩ := ry; exact PySem.EqNone.ne_none_str (fin_bl I q (by simp))
    | _ => exact absurd (show false = true from hs) Bool.false_ne_true
  | bl i =>
    cases rx
    cases y with
    | non => cases ry; exact PySem.EqNone.ne_bool_none (fin_bl I q (by simp))
    | bl j => cases ry; exact ne_bool (fin_bl I q (congrArg not dec_bl))
    | str j => obtain ⟨t', rfl⟩ := ry; exact PySem.EqMixed.ne_bool_str (fin_bl I q (by simp))
    | _ => exact absurd (show false = true from hs) Bool.false_ne_true
  | int i =>
    obtain ⟨t, rfl⟩ := rx
    cases y with
    | non => cases ry; exact PySem.EqNone.ne_int_none (fin_bl I q (by simp))
    | int j => obtain ⟨t', rfl⟩ := ry; exact ne_int (fin_bl I q (congrArg not dec_int))
    | str j => obtain ⟨t', rfl⟩ := ry; exact PySem.EqMixed.ne_int_str (fin_bl I q (by simp))
    | _ => exact absurd (show false = true from hs) Bool.false_ne_true
  | str i =>
    obtain ⟨t, rfl⟩ := rx
    cases y with
    | non => cases ry; exact PySem.EqNone.ne_str_none (fin_bl I q (by simp))
    | bl j => cases ry; exact PySem.EqMixed.ne_str_bool (fin_bl I q (by simp))
    | int j => obtain ⟨t', rfl⟩ := ry; exact PySem.EqMixed.ne_str_int (fin_bl I q (by simp))
    | str j => obtain ⟨t', rfl⟩ := ry; exact ne_str (fin_bl I q (congrArg not dec_str))
    | _ => exact absurd (show false = true from hs) Bool.false_ne_true
  | byt i =>
    obtain ⟨t, rfl⟩ := rx
    cases y with
    | byt j => obtain ⟨t', rfl⟩ := ry; exact PySem.W.ne_bytes (fin_bl I q (congrArg not dec_byt))
    | _ => exact absurd (show false = true from hs) Bool.false_ne_true
  | _ => cases y <;> exact absurd (show false = true from hs) Bool.false_ne_true

theorem op_lt : OpR X (compareOp .Lt) (rI0 fun i j => .bl (decide (i < j))) := opB0 fun _ _ _ _ _ _ _ q => lt_int q
theorem op_le : OpR X (compareOp .LtE) (rI0 fun i j => .bl (decide (i ≤ j))) := opB0 fun _ _ _ _ _ _ _ q => le_int q
theorem op_gt : OpR X (compareOp .Gt) (rI0 fun i j => .bl (decide (j < i))) := opB0 fun _ _ _ _ _ _ _ q => gt_int q
theorem op_ge : OpR X (compareOp .GtE) (rI0 fun i j => .bl (decide (j ≤ i))) := opB0 fun _ _ _ _ _ _ _ q => ge_int q
theorem op_lt_str : OpR X (compareOp .Lt) (fun x y H Q => ∃ i j, x = .str i ∧ y = .str j ∧ Q (.bl (decide (i.cps.toList < j.cps.toList))) H) := by
  intro pins s σ H x y v u Q I rx ry h
  obtain ⟨i, j, rfl, rfl, q⟩ := h
  obtain ⟨t, rfl⟩ := rx
  obtain ⟨t', rfl⟩ := ry
  exact lt_str (fin_bl I q rfl)
/-- the one string within the other -/
theorem op_in_str : OpR X (compareOp .In) (fun x y H Q => ∃ i j, x = .str i ∧ y = .str j ∧ Q (.bl (!(Builtin.Str.occurrences j i 0 j.length 1).isEmpty)) H) := by
  intro pins s σ H x y v u Q I rx ry h
  obtain ⟨i, j, rfl, rfl, q⟩ := h
  obtain ⟨t, rfl⟩ := rx
  obtain ⟨t', rfl⟩ := ry
  exact in_str (fin_bl I q rfl)

/-- is None, is not None: the right side a value none -/
theorem op_isN : OpR X (compareOp .Is) (fun x y H Q => y = .non ∧ Q (.bl (decide (x = .non))) H) := by
  intro pins s σ H x y v u Q I rx ry h
  obtain ⟨rfl, q⟩ := h
  cases ry
  refine is_none_gen (fin_bl I q ?_)
  cases x <;> first
    | (cases rx; rfl)
    | (obtain ⟨t, rfl⟩ := rx; rfl)
theorem op_notN : OpR X (compareOp .IsNot) (fun x y H Q => y = .non ∧ Q (.bl (!decide (x = .non))) H) := by
  intro pins s σ H x y v u Q I rx ry h
  obtain ⟨rfl, q⟩ := h
  cases ry
  refine isnot_none_gen (fin_bl I q ?_)
  cases x <;> first
    | (cases rx; rfl)
    | (obtain ⟨t, rfl⟩ := rx; rfl)

theorem op_notin_str : OpR X (compareOp .NotIn) (fun x y H Q => ∃ i j, x = .str i ∧ y = .str j ∧ Q (.bl (!(!(Builtin.Str.occurrences j i 0 j.length 1).isEmpty))) H) := by
  intro pins s σ H x y v u Q I rx ry h
  obtain ⟨i, j, rfl, rfl, q⟩ := h
  obtain ⟨t, rfl⟩ := rx
  obtain ⟨t', rfl⟩ := ry
  exact notIn_str (fin_bl I q rfl)
/-- is, is not of two objects that are tracked lists or instances -/
def isObj : HO → Bool
  | .lst _ => true
  | .ins _ _ _ => true
  | _ => false
theorem obj_there {pins : List (Addr × Obj)} {s : Shared} {σ : St} {H : Hp} {a : Addr} {o : HO} (I : Inv X pins σ H s) (h : H a = some o) (p : isObj o = true) : ∃ ob, s.heap.get? a = some ob ∧ ob.cls ≠ .type "tuple" := by
  cases o with
  | lst xs =>
    obtain ⟨_, its, n, _, e⟩ : xs.length ≤ sizeLine ∧ ∃ (its : List Value) (n : Nat), Vals xs its ∧ s.heap.get? a = some { cls := .type "list", data := .seq its.toArray n } := I.hok a _ h
    exact ⟨_, e, (by show Value.type "list" ≠ .type "tuple"; decide +kernel)⟩
  | ins C dx fs =>
    have x := I.hok a _ h
    obtain ⟨_, _, _, e, _⟩ := x
    exact ⟨_, e, (by show Value.ref C ≠ .type "tuple"; exact fun z => by cases z)⟩
  | _ => exact absurd (show false = true from p) Bool.false_ne_true
theorem op_is_ref : OpR X (compareOp .Is) (fun x y H Q => ∃ a b oa ob, x = .ref a ∧ y = .ref b ∧ H a = some oa ∧ isObj oa = true ∧ H b = some ob ∧ isObj ob = true ∧ Q (.bl (decide (a = b))) H) := by
  intro pins s σ H x y v u Q I rx ry h
  obtain ⟨a, b, oa, ob, rfl, rfl, ha, pa, hb, pb, q⟩ := h
  cases rx
  cases ry
  obtain ⟨o1, e1, n1⟩ := obj_there I ha pa
  obtain ⟨o2, e2, _⟩ := obj_there I hb pb
  by_cases z : a = b
  · subst z
    exact wpAny_is_ref_self (fin_bl I q (by simp))
  · exact wpAny_is_ref_other z e1 e2 n1 (fin_bl I q (by simp [z]))
theorem op_isnot_ref : OpR X (compareOp .IsNot) (fun x y H Q => ∃ a b oa ob, x = .ref a ∧ y = .ref b ∧ H a = some oa ∧ isObj oa = true ∧ H b = some ob ∧ isObj ob = true ∧ Q (.bl (!decide (a = b))) H) := by
  intro pins s σ H x y v u Q I rx ry h
  obtain ⟨a, b, oa, ob, rfl, rfl, ha, pa, hb, pb, q⟩ := h
  cases rx
  cases ry
  obtain ⟨o1, e1, n1⟩ := obj_there I ha pa
  obtain ⟨o2, e2, _⟩ := obj_there I hb pb
  by_cases z : a = b
  · subst z
    exact wpAny_isNot_ref_self (fin_bl I q (by simp))
  · exact wpAny_isNot_ref_other z e1 e2 n1 (fin_bl I q (by simp [z]))

/-- two rules for one operation: by cases -/
theorem OpR.or {f : Value → Value → Sem Value} {r r' : R2} (h : OpR X f r) (h' : OpR X f r') : OpR X f (fun x y H Q => r x y H Q ∨ r' x y H Q) := by
  intro pins s σ H x y v u Q I rx ry q
  rcases q with q | q
  · exact h pins s σ H x y v u Q I rx ry q
  · exact h' pins s σ H x y v u Q I rx ry q

theorem nomark (b : Expr) {op : CmpOp} (h : op ≠ .In := by decide) (h2 : op ≠ .NotIn := by decide) : behindInMarks op b = false := by
  have e1 : (op == CmpOp.In) = false := by cases op <;> first | rfl | exact absurd rfl h
  have e2 : (op == CmpOp.NotIn) = false := by cases op <;> first | rfl | exact absurd rfl h2
  cases b <;> simp [behindInMarks, e1, e2]
/-- a comparison as a value; hm: nomark b, or (for in, not in) by with_unfolding_all rfl -/
theorem pe_cmpR {op : CmpOp} {r : R2} (ho : OpR X (compareOp op) r) (ha : PE X a ta) (hb : PE X b tb) (hm : behindInMarks op b = false) : PE X (.Compare a [op] [b] pos) (tOp r ta tb) := by
  intro pins s σ H Q I h
  exact wpAny_Compare1 (binT ha hb I h fun v u s2 x y H2 I2 rx ry q => ho pins s2 σ H2 x y v u Q I2 rx ry q) hm
/-- a reading of a value as a test -/
def tTest (t : TE) : TT := fun σ H Q => t σ H fun x H' => ∃ k, x = .bl k ∧ Q k H'
theorem pt_cmpR {op : CmpOp} {r : R2} (ho : OpR X (compareOp op) r) (ha : PE X a ta) (hb : PE X b tb) (hm : behindInMarks op b = false) : PT X (.Compare a [op] [b] pos) (tTest (tOp r ta tb)) := by
  intro pins s σ H Q I h
  refine wpAny_isTrue_Compare1 (thn (ha pins s σ H _ I h) fun v s1 ⟨x, H1, I1, r1, q1⟩ => thn (hb pins s1 σ H1 _ I1 q1) fun u s2 ⟨y, H2, I2, r2, q2⟩ =>
    thn (ho pins s2 σ H2 x y v u _ I2 r1 r2 q2) fun c s3 ⟨z, H3, I3, r3, k, e, q3⟩ => ?_) hm
  subst e
  cases r3
  exact wpAny_truthy_bool ⟨H3, I3, q3⟩
/-- a op1 b op2 c -/
def tChain (r r' : R2) (ta tb tc : TE) : TE := fun σ H Q => ta σ H fun x H1 => tb σ H1 fun y H2 => r x y H2 fun z H3 => ∃ k, z = .bl k ∧
  (if k = true then tc σ H3 fun w' H4 => r' y w' H4 Q else Q (.bl false) H3)
theorem pe_chain {op op' : CmpOp} {r r' : R2} (ho : OpR X (compareOp op) r) (ho' : OpR X (compareOp op') r') (ha : PE X a ta) (hb : PE X b tb) (hc : PE X c tc)
    (hm : lastMarks [op, op'] [b, c] = false := by with_unfolding_all rfl) : PE X (.Compare a [op, op'] [b, c] pos) (tChain r r' ta tb tc) := by
  intro pins s σ H Q I h
  refine Compare_chain (thn (ha pins s σ H _ I h) fun v s1 ⟨x, H1, I1, r1, q1⟩ => chain_link (thn (hb pins s1 σ H1 _ I1 q1) fun u s2 ⟨y, H2, I2, r2, q2⟩ =>
    thn (ho pins s2 σ H2 x y v u _ I2 r1 r2 q2) fun d s3 ⟨z, H3, I3, r3, k, e, q3⟩ => ?_)) hm
  subst e
  cases r3
  refine wpAny_truthy_bool ?_
  cases k with
  | false => exact ite_ff ⟨.bl false, H3, I3, rfl, q3⟩
  | true => exact ite_tt (chain_last (thn (hc pins s3 σ H3 _ I3 q3) fun w' s4 ⟨z', H4, I4, r4, q4⟩ => ho' pins s4 σ H4 y z' u w' Q I4 r2 r4 q4))
theorem pt_chain {op op' : CmpOp} {r r' : R2} (ho : OpR X (compareOp op) r) (ho' : OpR X (compareOp op') r') (ha : PE X a ta) (hb : PE X b tb) (hc : PE X c tc)
    (hm : lastMarks [op, op'] [b, c] = false := by with_unfolding_all rfl) : PT X (.Compare a [op, op'] [b, c] pos) (tTest (tChain r r' ta tb tc)) := by
  intro pins s σ H Q I h
  refine isTrue_chain (thn (ha pins s σ H _ I h) fun v s1 ⟨x, H1, I1, r1, q1⟩ => test_link (thn (hb pins s1 σ H1 _ I1 q1) fun u s2 ⟨y, H2, I2, r2, q2⟩ =>
    thn (ho pins s2 σ H2 x y v u _ I2 r1 r2 q2) fun d s3 ⟨z, H3, I3, r3, k, e, q3⟩ => ?_)) hm
  subst e
  cases r3
  refine wpAny_truthy_bool ?_
  cases k with
  | false =>
    obtain ⟨k', e', q'⟩ := q3
    cases e'
    exact ite_ff ⟨H3, I3, q'⟩
  | true =>
    refine ite_tt (test_last (thn (hc pins s3 σ H3 _ I3 q3) fun w' s4 ⟨z', H4, I4, r4, q4⟩ => thn (ho' pins s4 σ H4 y z' u w' _ I4 r2 r4 q4) fun d' s5 ⟨z2, H5, I5, r5, k2, e2, q5⟩ => ?_))
    subst e2
    cases r5
    exact wpAny_truthy_bool ⟨H5, I5, q5⟩

/-! ### truth -/
/-- a value's truth by the abstract heap -/
def TruV (K : PySem.W.Frag) (x : V) (H : Hp) (k : Bool) : Prop :=
  match x with
  | .non => k = false
  | .bl b => k = b
  | .int i => k = (i != 0)
  | .str y => y.length ≤ sizeLine ∧ k = ((y.length : Int) != 0)
  | .byt y => y.size ≤ sizeLine ∧ k = ((y.size : Int) != 0)
  | .ref p => (∃ xs, SqL K H p xs ∧ k = !xs.isEmpty) ∨ (∃ xs, SqT K H p xs ∧ k = !xs.isEmpty) ∨ ∃ kvs, H p = some (.dK kvs) ∧ k = !kvs.isEmpty
  | _ => False
theorem isEmpty_kv {κ : Type} {kvs : List (κ × V)} {vs : List (κ × Value)} (r : KV kvs vs) : (!vs.isEmpty) = !kvs.isEmpty := by
  cases r <;> rfl
theorem isEmpty_of {xs : List V} {its : List Value} (r : Vals xs its) : (!its.toArray.isEmpty) = !xs.isEmpty := by
  cases r <;> simp
theorem line63 : (sizeLine : Nat) < 2 ^ 63 := by rw [sizeLine_eq]; decide
theorem tru_ok : TruR X (fun x H Q => ∃ k, TruV X.K x H k ∧ Q k H) := by
  intro pins s σ H x v Q I rx h
  obtain ⟨k, e, q⟩ := h
  have hl := line63
  have hs : sizeLine = 16777216 := sizeLine_eq
  cases x with
  | non =>
    cases rx
    have e' : k = false := e
    subst e'
    exact truthy_none ⟨H, I, q⟩
  | bl b =>
    cases rx
    have e' : k = b := e
    subst e'
    exact wpAny_truthy_bool ⟨H, I, q⟩
  | int i =>
    obtain ⟨t, rfl⟩ := rx
    have e' : k = (i != 0) := e
    subst e'
    exact PySem.P.truthy_int ⟨H, I, q⟩
  | str y =>
    obtain ⟨t, rfl⟩ := rx
    obtain ⟨hy, e'⟩ : y.length ≤ sizeLine ∧ k = ((y.length : Int) != 0) := e
    subst e'
    exact PySem.P.truthy_str (by omega) ⟨H, I.tok _, q⟩
  | byt y =>
    obtain ⟨t, rfl⟩ := rx
    obtain ⟨hy, e'⟩ : y.size ≤ sizeLine ∧ k = ((y.size : Int) != 0) := e
    subst e'
    exact PySem.W.truthy_bytes (by omega) ⟨H, I.tok _, q⟩
  | ref p =>
    cases rx
    have e' : (∃ xs, SqL X.K H p xs ∧ k = !xs.isEmpty) ∨ (∃ xs, SqT X.K H p xs ∧ k = !xs.isEmpty) ∨ ∃ kvs, H p = some (.dK kvs) ∧ k = !kvs.isEmpty := e
    rcases e' with ⟨xs, hx, e'⟩ | ⟨xs, hx, e'⟩ | ⟨kvs, hx, e'⟩
    · subst e'
      obtain ⟨its, r, pl, hz⟩ := I.list hx
      have hlen := r.length
      exact wpAny_truthy_list pl.isList (by simp only [List.size_toArray]; omega) ⟨H, I.tok _, by rw [isEmpty_of r]; exact q⟩
    · subst e'
      obtain ⟨its, r, pl, hz⟩ := I.tuple hx
      have hlen := r.length
      exact truthy_tuple pl (by simp only [List.size_toArray]; omega) ⟨H, I.tok _, by rw [isEmpty_of r]; exact q⟩
    · subst e'
      obtain ⟨hz, hS, vs, r, m⟩ : kvs.length ≤ sizeLine ∧ (p == sysModules) = false ∧ ∃ vs, KV kvs vs ∧ s.heap.DictOf (mixKind X.prog X.w) p vs := I.hok p _ hx
      have hlen : kvs.length = vs.length := Paired.length r
      exact wpAny_truthy_dict hS m (by omega) ⟨H, I.tok _, by rw [isEmpty_kv r]; exact q⟩
  | _ => exact (show False from e).elim
/-- any expression whose test is its value's truth (a name, a call, a subscript, a field ..: he by fun _ => rfl) -/
theorem pt_truth (ha : PE X a ta) (he : ∀ whole, isTrue a X.env whole = (do let v ← whole; standAt a.pos; holding [v] (truthy v))) :
    PT X a (fun σ H Q => ta σ H fun x H' => ∃ k, TruV X.K x H' k ∧ Q k H') := by
  intro pins s σ H Q I h
  exact isTrue_plain (thn (ha pins s σ H _ I h) fun v s1 ⟨x, H1, I1, r1, q1⟩ => tru_ok pins s1 σ H1 x v Q I1 r1 q1) (he _)

/-! ### strs and bytes -/
theorem pe_byt {x : List UInt8} {k : Nat} : PE X (.Constant (.bytes x) k pos) (fun _ H Q => Q (.byt x.toArray) H) := fun _ _ _ H _ I h => PySem.W.Constant_bytes ⟨.byt x.toArray, H, I.tok _, ⟨_, rfl⟩, h⟩
theorem op_add_str : OpR X (binaryOp .Add) (fun x y H Q => ∃ i j, x = .str i ∧ y = .str j ∧ i.length + j.length ≤ sizeLine ∧ Q (.str (i ++ j)) H) := by
  intro pins s σ H x y v u Q I rx ry h
  obtain ⟨i, j, rfl, rfl, hz, q⟩ := h
  obtain ⟨t, rfl⟩ := rx
  obtain ⟨t', rfl⟩ := ry
  exact add_str (fun t' tk => ⟨.str (i ++ j), H, I.tok _, ⟨_, rfl⟩, q⟩) hz
theorem iop_add_str : OpR X (inplaceOp .Add) (fun x y H Q => ∃ i j, x = .str i ∧ y = .str j ∧ i.length + j.length ≤ sizeLine ∧ Q (.str (i ++ j)) H) := by
  intro pins s σ H x y v u Q I rx ry h
  obtain ⟨i, j, rfl, rfl, hz, q⟩ := h
  obtain ⟨t, rfl⟩ := rx
  obtain ⟨t', rfl⟩ := ry
  exact iadd_str (fun t' tk => ⟨.str (i ++ j), H, I.tok _, ⟨_, rfl⟩, q⟩) hz
theorem op_add_byt : OpR X (binaryOp .Add) (fun x y H Q => ∃ i j, x = .byt i ∧ y = .byt j ∧ i.size + j.size ≤ 16777216 ∧ Q (.byt (i ++ j)) H) := by
  intro pins s σ H x y v u Q I rx ry h
  obtain ⟨i, j, rfl, rfl, hz, q⟩ := h
  obtain ⟨t, rfl⟩ := rx
  obtain ⟨t', rfl⟩ := ry
  exact PySem.W.KBy.add_bytes hz (fun t' tk => ⟨.byt (i ++ j), H, I.tok _, ⟨_, rfl⟩, q⟩)

def PlainIxT (b : Expr) : Prop := ∀ o i, subscripted b false o i = operate [o, i] (getItem o i)
/-- s[i], 0 ≤ i < len -/
theorem pe_item_str (ha : PE X a ta) (hb : PE X b tb) (hs : PlainIxT b) :
    PE X (.Subscript a b pos) (tOp (fun x y H Q => ∃ z i c, x = .str z ∧ y = .int i ∧ 0 ≤ i ∧ i < 2 ^ 63 ∧ i < z.length ∧ z.cps[i.toNat]? = some c ∧ Q (.str ⟨#[c]⟩) H) ta tb) := by
  intro pins s σ H Q I h
  refine Subscript_ (binT ha hb I h fun v u s2 x y H2 I2 rx ry q => ?_)
  obtain ⟨z, i, c, rfl, rfl, h0, h63, h1, hc, q⟩ := q
  obtain ⟨t, rfl⟩ := rx
  obtain ⟨t', rfl⟩ := ry
  have e : seqIndex? i z.length = some i.toNat := PySem.StrLaws.seqIndex_nonneg h0 h1
  exact tail_any (typeIs_str s2 z t) slot_str_getitem.lookup (getItem_str (c := c) (by
    have e1 : decide (i < -(2 ^ 63 : Int)) = false := decide_eq_false (by omega)
    have e2 : decide (i ≥ 2 ^ 63) = false := decide_eq_false (by omega)
    rw [e1, e2] <;> rfl) (by rw [e]; exact hc) ⟨.str ⟨#[c]⟩, H2, I2.tok _, ⟨_, rfl⟩, q⟩) (hs _ _)
/-- b[i], 0 ≤ i < len -/
theorem pe_item_byt (ha : PE X a ta) (hb : PE X b tb) (hs : PlainIxT b) :
    PE X (.Subscript a b pos) (tOp (fun x y H Q => ∃ (z : List UInt8) (i : Int), x = .byt z.toArray ∧ y = .int i ∧ z.length ≤ sizeLine ∧ 0 ≤ i ∧ i < z.length ∧ Q (.int ((z.getD i.toNat 0).toNat : Nat)) H) ta tb) := by
  intro pins s σ H Q I h
  refine Subscript_ (binT ha hb I h fun v u s2 x y H2 I2 rx ry q => ?_)
  obtain ⟨z, i, rfl, rfl, hz, h0, h1, q⟩ := q
  obtain ⟨t, rfl⟩ := rx
  obtain ⟨t', rfl⟩ := ry
  have hl : sizeLine = 16777216 := sizeLine_eq
  exact tail_any (PySem.W.typeIs_bytes s2 z.toArray t) PySem.W.FB.slot_bytes_getitem.lookup (PySem.W.getItem_bytes (by omega) h0 h1 ⟨.int ((z.getD i.toNat 0).toNat : Nat), H2, I2.tok _, ⟨_, rfl⟩, q⟩) (hs _ _)

/-! ### scalar builtins, by CallR -/
theorem vals1 {x : V} {us : List Value} (r : Vals [x] us) : ∃ u, us = [u] ∧ RelV x u := by
  cases r with
  | cons r1 r2 => cases r2; exact ⟨_, rfl, r1⟩
theorem vals2 {x y : V} {us : List Value} (r : Vals [x, y] us) : ∃ u w', us = [u, w'] ∧ RelV x u ∧ RelV y w' := by
  cases r with
  | cons r1 r2 =>
    cases r2 with
    | cons r3 r4 => cases r4; exact ⟨_, _, rfl, r1, r3⟩
theorem call_abs : CallR X (.builtin "abs") (fun xs H Q => ∃ i, xs = [.int i] ∧ Q (.int (if i < 0 then -i else i)) H) := by
  intro pins s σ H xs us Q I r h
  obtain ⟨i, rfl, q⟩ := h
  obtain ⟨u, rfl, t, rfl⟩ := vals1 r
  exact call_abs_int fun u tk => ⟨.int (if i < 0 then -i else i), H, I.tok _, ⟨_, rfl⟩, q⟩
theorem call_max2 (hc : X.calm = true) : CallR X (.builtin "max") (fun xs H Q => ∃ i j, xs = [.int i, .int j] ∧ Q (.int (if j > i then j else i)) H) := by
  intro pins s σ H xs us Q I r h
  obtain ⟨i, j, rfl, q⟩ := h
  obtain ⟨u, w', rfl, ⟨t, rfl⟩, ⟨t', rfl⟩⟩ := vals2 r
  refine max_two_ints (I.ok.hd hc) fun h' tk k => ⟨_, H, I.kept k, ?_, q⟩
  by_cases hj : j > i
  · rw [if_pos hj, if_pos hj]; exact ⟨_, rfl⟩
  · rw [if_neg hj, if_neg hj]; exact ⟨_, rfl⟩
theorem call_min2 (hc : X.calm = true) : CallR X (.builtin "min") (fun xs H Q => ∃ i j, xs = [.int i, .int j] ∧ Q (.int (if j < i then j else i)) H) := by
  intro pins s σ H xs us Q I r h
  obtain ⟨i, j, rfl, q⟩ := h
  obtain ⟨u, w', rfl, ⟨t, rfl⟩, ⟨t', rfl⟩⟩ := vals2 r
  refine min_two_ints (I.ok.hd hc) fun h' tk k => ⟨_, H, I.kept k, ?_, q⟩
  by_cases hj : j < i
  · rw [if_pos hj, if_pos hj]; exact ⟨_, rfl⟩
  · rw [if_neg hj, if_neg hj]; exact ⟨_, rfl⟩
theorem call_int1 : CallR X (.type "int") (fun xs H Q => (∃ i, xs = [.int i] ∧ Q (.int i) H) ∨ ∃ k, xs = [.bl k] ∧ Q (.int (if k then 1 else 0)) H) := by
  intro pins s σ H xs us Q I r h
  rcases h with ⟨i, rfl, q⟩ | ⟨k, rfl, q⟩
  · obtain ⟨u, rfl, t, rfl⟩ := vals1 r
    exact call_int_int ⟨.int i, H, I, ⟨_, rfl⟩, q⟩
  · obtain ⟨u, rfl, r1⟩ := vals1 r
    cases r1
    exact call_int_bool ⟨.int (if k then 1 else 0), H, I.tok _, ⟨_, rfl⟩, q⟩
theorem call_bool1 : CallR X (.type "bool") (fun xs H Q => (∃ i, xs = [.int i] ∧ Q (.bl (i != 0)) H) ∨ ∃ k, xs = [.bl k] ∧ Q (.bl k) H) := by
  intro pins s σ H xs us Q I r h
  rcases h with ⟨i, rfl, q⟩ | ⟨k, rfl, q⟩
  · obtain ⟨u, rfl, t, rfl⟩ := vals1 r
    exact call_bool_int ⟨.bl (i != 0), H, I, rfl, q⟩
  · obtain ⟨u, rfl, r1⟩ := vals1 r
    cases r1
    exact call_bool_bool ⟨.bl k, H, I, rfl, q⟩
theorem call_str_int : CallR X (.type "str") (fun xs H Q => ∃ i, xs = [.int i] ∧ i.natAbs.log2 < 1920 ∧ Q (.str (toString i)) H) := by
  intro pins s σ H xs us Q I r h
  obtain ⟨i, rfl, hz, q⟩ := h
  obtain ⟨u, rfl, t, rfl⟩ := vals1 r
  exact PySem.P.str_of_int hz ⟨.str _, H, I.tok _, ⟨_, rfl⟩, q⟩
theorem call_ord : CallR X (.builtin "ord") (fun xs H Q => ∃ x, xs = [.str x] ∧ x.length = 1 ∧ Q (.int (x.cps.getD 0 0 : Nat)) H) := by
  intro pins s σ H xs us Q I r h
  obtain ⟨x, rfl, hz, q⟩ := h
  obtain ⟨u, rfl, t, rfl⟩ := vals1 r
  exact ord_of_one hz ⟨.int _, H, I.tok _, ⟨_, rfl⟩, q⟩
theorem call_chr : CallR X (.builtin "chr") (fun xs H Q => ∃ i, xs = [.int i] ∧ 0 ≤ i ∧ i ≤ 1114111 ∧ Q (.str ⟨#[i.toNat]⟩) H) := by
  intro pins s σ H xs us Q I r h
  obtain ⟨i, rfl, h0, h1, q⟩ := h
  obtain ⟨u, rfl, t, rfl⟩ := vals1 r
  exact chr_of_range h0 h1 ⟨.str _, H, I.tok _, ⟨_, rfl⟩, q⟩
/-- len of a str, a bytes, a list, a tuple -/
def LenV (K : PySem.W.Frag) (x : V) (H : Hp) (n : Nat) : Prop :=
  match x with
  | .str y => y.length ≤ sizeLine ∧ n = y.length
  | .byt y => y.size ≤ sizeLine ∧ n = y.size
  | .ref p => (∃ xs, SqL K H p xs ∧ n = xs.length) ∨ ∃ xs, SqT K H p xs ∧ n = xs.length
  | _ => False
theorem call_len : CallR X (.builtin "len") (fun xs H Q => ∃ x n, xs = [x] ∧ LenV X.K x H n ∧ Q (.int n) H) := by
  intro pins s σ H xs us Q I r h
  obtain ⟨x, n, rfl, e, q⟩ := h
  obtain ⟨u, rfl, rx⟩ := vals1 r
  have hl := line63
  have hs : sizeLine = 16777216 := sizeLine_eq
  cases x with
  | str y =>
    obtain ⟨t, rfl⟩ := rx
    obtain ⟨hy, e'⟩ : y.length ≤ sizeLine ∧ n = y.length := e
    subst e'
    exact len_str (by omega) ⟨.int _, H, I.tok _, ⟨_, rfl⟩, q⟩
  | byt y =>
    obtain ⟨t, rfl⟩ := rx
    obtain ⟨hy, e'⟩ : y.size ≤ sizeLine ∧ n = y.size := e
    subst e'
    exact PySem.W.len_bytes (by omega) ⟨.int _, H, I.tok _, ⟨_, rfl⟩, q⟩
  | ref p =>
    cases rx
    have e' : (∃ xs, SqL X.K H p xs ∧ n = xs.length) ∨ ∃ xs, SqT X.K H p xs ∧ n = xs.length := e
    rcases e' with ⟨xs, hx, e'⟩ | ⟨xs, hx, e'⟩
    · subst e'
      obtain ⟨its, r', pl, hz⟩ := I.list hx
      have hlen := r'.length
      exact Calls.call_len_list pl.isList (by simp only [List.size_toArray]; omega) ⟨.int xs.length, H, I.tok _, ⟨_, by simp only [List.size_toArray]; rw [hlen]⟩, q⟩
    · subst e'
      obtain ⟨its, r', pl, hz⟩ := I.tuple hx
      have hlen := r'.length
      exact len_tuple pl (by simp only [List.size_toArray]; omega) ⟨.int xs.length, H, I.tok _, ⟨_, by simp only [List.size_toArray]; rw [hlen]⟩, q⟩
  | _ => exact (show False from e).elim
/-- divmod: a new tuple -/
theorem call_divmod : CallR X (.builtin "divmod") (fun xs H Q => ∃ i j, xs = [.int i, .int j] ∧ CDiv i j ∧ ∀ p, H p = none → Q (.ref p) (upd H p (.tup [.int (i / j), .int (i % j)]))) := by
  intro pins s σ H xs us Q I r h
  obtain ⟨i, j, rfl, ⟨h1, h2⟩, q⟩ := h
  obtain ⟨u, w', rfl, ⟨t, rfl⟩, ⟨t', rfl⟩⟩ := vals2 r
  refine divmod_int (by omega) ?_ (.inl (PyProof.noPylong_small (by omega)))
  rw [Int.fdiv_eq_ediv_of_nonneg i (by omega), Int.fmod_eq_emod_of_nonneg i (by omega)]
  have hn : H s.heap.objs.size = none := I.hok.fresh (Nat.le_refl _)
  refine ⟨.ref s.heap.objs.size, _, ?_, rfl, q _ hn⟩
  refine I.laid (fun b o e => Heap.get?_push_of_some _ e) (Nat.le_refl _) ⟨by simp only [List.length_cons, List.length_nil]; rw [sizeLine_eq]; decide, [.int (i / j) s.toks, .int (i % j) (s.toks + 1)], .cons ⟨_, rfl⟩ (.cons ⟨_, rfl⟩ .nil), ?_⟩
  exact ⟨_, Heap.get?_push_size s.heap rfl, rfl, 0, rfl⟩
end
end L2

namespace L2
open PySem PySem.Spec PyProof.Rows

/-! ### an instance, its attributes a map -/
structure ObjM (h : Heap) (x dx C : Addr) (mA : Str → Option Value) : Prop where
  obj : h.get? x = some (PySem.W.instObj C dx)
  ns : h.Ns1 dx mA
  ne : dx ≠ x

theorem lookIn_ns {h : Heap} {dx : Addr} {mA : Str → Option Value} (n : h.Ns1 dx mA) : ∃ od, h.get? dx = some od ∧ ∀ name, PySem.W.lookIn name od = some (mA name) := by
  obtain ⟨o, es, ep, ho, hd, hk, _, hm⟩ := n
  refine ⟨o, ho, fun name => ?_⟩
  have e := hm name
  unfold nsFind findBy at e
  rw [← Array.find?_toList] at e
  unfold PySem.W.lookIn
  rw [hd]
  dsimp only
  split
  · rename_i y q
    rw [q] at e
    exact congrArg some e
  · rename_i q
    rw [q] at e
    have a : es.toList.any (·.refKey) = false := by
      rw [List.any_eq_false]
      intro y hy
      obtain ⟨z, t, hkey⟩ := hk y (Array.mem_toList_iff.mp hy)
      simp [DictEntry.refKey, hkey]
    have a' : ¬ es.toList.any (·.refKey) = true := by rw [a]; exact Bool.false_ne_true
    rw [if_neg a']
    exact congrArg some e

theorem ObjM.look {h : Heap} {x dx C : Addr} {mA : Str → Option Value} (I : ObjM h x dx C mA) : ∃ od, PySem.W.InstAt h x (PySem.W.instObj C dx) C (some od) ∧ ∀ name, PySem.W.lookIn name od = some (mA name) :=
  let ⟨od, ho, hl⟩ := lookIn_ns I.ns
  ⟨od, ⟨I.obj, rfl, rfl, ho⟩, hl⟩

section
variable {prog : Program} {w : World} {A : Around} {E : Value → Shared → Prop} {s : Shared} {K : PySem.W.Frag} {x dx C f : Addr} {mA : Str → Option Value} {name : Str} {v : Value}

theorem get_map {expr : Bool} {Q : Value → Shared → Prop} (X : K.In s.heap) (I : ObjM s.heap x dx C mA) (hg : PySem.W.plainGet K C name = true) (hh : PySem.W.hasDictIn K C = true)
    (ha : PySem.W.findIn K (.ref C) name = some none) (hv : mA name = some v) (hv' : PySem.W.handedIn v = true) (h : Q v { s with toks := s.toks + 1 }) :
    wpAny (model prog w) A (getAttr (.ref x) name expr) Q E s := by
  obtain ⟨od, J, hl⟩ := I.look
  exact PySem.W.get_value X J (PySem.W.plainGet_of hg).1 (PySem.W.findObj_own hh ha rfl (by rw [hl, hv])) hv' h

theorem get_const {expr : Bool} {a : Value} {Q : Value → Shared → Prop} (X : K.In s.heap) (I : ObjM s.heap x dx C mA) (hg : PySem.W.plainGet K C name = true) (hh : PySem.W.hasDictIn K C = true)
    (ha : PySem.W.findIn K (.ref C) name = some (some a)) (hn : PySem.W.specialIn K a "__get__" = some none) (hc : PySem.W.copiedNames.contains name = false) (hv : mA name = none) (hv' : PySem.W.handedIn a = true)
    (h : Q a { s with toks := s.toks + 1 }) : wpAny (model prog w) A (getAttr (.ref x) name expr) Q E s := by
  obtain ⟨od, J, hl⟩ := I.look
  exact PySem.W.get_value X J (PySem.W.plainGet_of hg).1 (PySem.W.findObj_cls hh ha hn hv' hc (by rw [hl, hv])) hv' h

theorem get_meth {pl : Sem Bool} {Q : Value × List Value → Shared → Prop} (X : K.In s.heap) (I : ObjM s.heap x dx C mA) (hg : PySem.W.plainGet K C name = true)
    (hf : PySem.W.findIn K (.ref C) name = some (some (.ref f))) (ht : PySem.W.isFn K (.ref f) = true) (hv : mA name = none) (h : Q (.ref f, [.ref x]) s) :
    wpAny (model prog w) A (getMethod (.ref x) name pl) Q E s := by
  obtain ⟨od, J, hl⟩ := I.look
  exact PySem.W.method_fn X J (PySem.W.plainGet_of hg).1 (PySem.W.plainGet_of hg).2 hf (beq_iff_eq.mp ht) (by show (PySem.W.lookIn name od).map (·.isSome) = some false; rw [hl, hv]; rfl) h

theorem set_map {ns : List Str} {Q : Unit → Shared → Prop} (X : K.In s.heap) (I : ObjM s.heap x dx C mA)
    (hs : PySem.W.findIn K (.ref C) "__setattr__" = some (some (.builtin "object.__setattr__"))) (hp : PySem.W.plainOver K C = true) (ht : PySem.W.takerIn K C name = some none) (hh : PySem.W.hasDictIn K C = true)
    (hw : PySem.Within mA ns) (hsz : ns.length ≤ sizeLine)
    (h : ∀ h', ObjM h' x dx C (fun y => if y = name then some v else mA y) → Heap.SameBut dx s.heap h' → Q () { s with heap := h', toks := s.toks + 2 }) :
    wpAny (model prog w) A (setAttr (.ref x) name v) Q E s := by
  obtain ⟨od, J, hl⟩ := I.look
  refine PySem.W.set_plain X J hs (PySem.W.osa_open (s := { s with toks := s.toks + 1 }) (r := none) X J hp ht fun b => ?_)
  obtain ⟨cd, hc, hd'⟩ := PySem.W.any_some hh
  have hx : s.heap.get? x = some ⟨.ref C, some dx, .plain, #[]⟩ := I.obj
  refine wpAny_bind (wpAny_pure (wpAny_bind (wpAny_bind (wpAny_loadPart hx (wpAny_bind (PySem.W.Looks.here (s := { s with toks := s.toks + 1 }) (PySem.W.looks_clsIn X hc) ?_))))))
  rw [hd']
  refine wpAny_pure (a := some dx) (wpAny_bind (wpAny_pure (wpAny_bind ?_)))
  refine wpAny_nsSet1 (s := { s with toks := s.toks + 1 }) I.ns fun h' hn2 hs2 => ?_
  obtain ⟨oD, esD, epD, hoD, hdD, hcD⟩ := hn2.count (PySem.Within.cons name v hw)
  refine wpAny_bind (wpAny_lookBehind hoD (by rw [hdD]; exact pastItsLine_dict (Nat.le_trans hcD (by rw [List.length_cons]; omega))) ?_)
  exact wpAny_pure (h _ ⟨(hs2.2 _ (Ne.symm I.ne)).trans I.obj, hn2, I.ne⟩ hs2)

/-- C(..): the dict at the heap's end, the instance behind it; then its __init__ -/
theorem make_map {R : Result → Shared → Prop} {vs : List Value} {kw : List (Str × Value)} (X : K.In s.heap) (hm : PySem.W.makesIn K C = true)
    (hi : PySem.W.findIn K (.ref C) "__init__" = some (some (.ref f))) (hf : PySem.W.typeIn K (.ref f) = some (.type "function"))
    (h : codeAny (model prog w) (A.under (.builtin "type.__call__" ⟨.ref C :: vs, kw⟩)) (.call (.ref f) ⟨.ref (s.heap.objs.size + 1) :: vs, kw⟩) (PySem.W.InitBack (s.heap.objs.size + 1) R)
      { s with heap := (s.heap.push PySem.W.emptyDict).push (PySem.W.instObj C s.heap.objs.size) }) :
    codeAny (model prog w) A (.call (.ref C) ⟨vs, kw⟩) R s := by
  obtain ⟨hh, g, d, t, os⟩ := s
  exact PySem.W.make_core (PySem.W.makes_of X hm) (PySem.W.looks_findIn X hi) (fun self => PySem.W.bind_fn X self hf) (.inl rfl) h
/-- C() where there is no __init__ but object's -/
theorem make_map0 {R : Result → Shared → Prop} (X : K.In s.heap) (hm : PySem.W.makesIn K C = true)
    (hi : PySem.W.findIn K (.ref C) "__init__" = some (some (.builtin "object.__init__")))
    (hb : ∀ self, PySem.W.Looks (model prog w) s.heap (bindSpecial (.builtin "object.__init__") self) (.builtin "object.__init__", [self]))
    (h : codeAny (model prog w) (A.under (.builtin "type.__call__" ⟨[.ref C], []⟩)) (.call (.builtin "object.__init__") ⟨[.ref (s.heap.objs.size + 1)], []⟩) (PySem.W.InitBack (s.heap.objs.size + 1) R)
      { s with heap := (s.heap.push PySem.W.emptyDict).push (PySem.W.instObj C s.heap.objs.size) }) :
    codeAny (model prog w) A (.call (.ref C) ⟨[], []⟩) R s := by
  obtain ⟨hh, g, d, t, os⟩ := s
  exact PySem.W.make_core (PySem.W.makes_of X hm) (PySem.W.looks_findIn X hi) hb (.inr ⟨rfl, rfl⟩) h
end

/-! ### the attributes as a list of pairs -/
def putF (f : Str) (v : V) : List (Str × V) → List (Str × V)
  | [] => [(f, v)]
  | (g, x) :: r => if g = f then (g, v) :: r else (g, x) :: putF f v r
theorem lookup_putF (f g : Str) (v : V) : ∀ fs : List (Str × V), (putF f v fs).lookup g = if g = f then some v else fs.lookup g
  | [] => by
    show List.lookup g [(f, v)] = _
    by_cases h : g = f
    · have hb : (g == f) = true := beq_iff_eq.mpr h
      simp only [List.lookup, hb, if_pos h]
    · have hb : (g == f) = false := beq_eq_false_iff_ne.mpr h
      simp only [List.lookup, hb, if_neg h]
  | (k, x) :: r => by
    have ih := lookup_putF f g v r
    rw [show putF f v ((k, x) :: r) = (if k = f then (k, v) :: r else (k, x) :: putF f v r) from rfl]
    by_cases hk : k = f
    · rw [if_pos hk]
      by_cases h : g = k
      · have hb : (g == k) = true := beq_iff_eq.mpr h
        simp only [List.lookup, hb, if_pos (h.trans hk)]
      · have hb : (g == k) = false := beq_eq_false_iff_ne.mpr h
        simp only [List.lookup, hb, if_neg (fun e : g = f => h (e.trans hk.symm))]
    · rw [if_neg hk]
      by_cases h : g = k
      · have hb : (g == k) = true := beq_iff_eq.mpr h
        simp only [List.lookup, hb, if_neg (fun e : g = f => hk (h.symm.trans e))]
      · have hb : (g == k) = false := beq_eq_false_iff_ne.mpr h
        simp only [List.lookup, hb]
        exact ih
theorem keys_putF (f : Str) (v : V) : ∀ fs : List (Str × V), f ∈ (putF f v fs).map (·.1) ∧ ∀ g, g ∈ fs.map (·.1) → g ∈ (putF f v fs).map (·.1)
  | [] => ⟨by simp [putF], fun g h => by simp at h⟩
  | (k, x) :: r => by
    obtain ⟨i1, i2⟩ := keys_putF f v r
    rw [show putF f v ((k, x) :: r) = (if k = f then (k, v) :: r else (k, x) :: putF f v r) from rfl]
    by_cases hk : k = f
    · rw [if_pos hk]
      subst hk
      exact ⟨by simp, fun g h => by simpa using h⟩
    · rw [if_neg hk]
      refine ⟨?_, fun g h => ?_⟩
      · rw [List.map_cons]
        exact List.mem_cons_of_mem _ i1
      · rw [List.map_cons] at h ⊢
        rcases List.mem_cons.mp h with e | e
        · exact List.mem_cons.mpr (.inl e)
        · exact List.mem_cons_of_mem _ (i2 g e)
theorem length_putF (f : Str) (v : V) : ∀ fs : List (Str × V), (putF f v fs).length ≤ fs.length + 1
  | [] => by simp [putF]
  | (k, x) :: r => by
    have ih := length_putF f v r
    rw [show putF f v ((k, x) :: r) = (if k = f then (k, v) :: r else (k, x) :: putF f v r) from rfl]
    by_cases hk : k = f
    · rw [if_pos hk, List.length_cons, List.length_cons]; omega
    · rw [if_neg hk, List.length_cons, List.length_cons]; omega

theorem RelO.some_of {v : V} {o : Option Value} (r : RelO (some v) o) : ∃ u, o = some u ∧ RelV v u := by
  cases o with
  | none => exact (show False from r).elim
  | some u => exact ⟨u, rfl, r⟩
theorem RelO.none_of {o : Option Value} (r : RelO none o) : o = none := by
  cases o with
  | none => rfl
  | some u => exact (show False from r).elim
theorem handed_of {v : V} {u : Value} (r : RelV v u) : PySem.W.handedIn u = true := by
  cases v with
  | non => cases (show u = Value.none from r); rfl
  | bl b => cases (show u = Value.bool b from r); rfl
  | int i => obtain ⟨t, e⟩ := (show ∃ t, u = Value.int i t from r); cases e; rfl
  | str x => obtain ⟨t, e⟩ := (show ∃ t, u = Value.str x t from r); cases e; rfl
  | byt b => obtain ⟨t, e⟩ := (show ∃ t, u = Value.bytes b t from r); cases e; rfl
  | flt b => obtain ⟨t, e⟩ := (show ∃ t, u = Value.float b t from r); cases e; rfl
  | ref a => cases (show u = Value.ref a from r); rfl
  | ty n => cases (show u = Value.type n from r); rfl

section
variable {P : Program} {w : World} {H H' : Hp} {h h' : Heap} {a C dx : Addr} {fs fs' : List (Str × V)}
theorem ins_get (hok : HOk P w H h) (e : H a = some (.ins C dx fs)) : ∃ mA, ObjM h a dx C mA ∧ (∀ f, RelO (fs.lookup f) (mA f)) ∧ PySem.Within mA (fs.map (·.1)) ∧ fs.length ≤ 1000 ∧ H dx = some (.own a) := by
  obtain ⟨d, z, ne, ob, mA, n, r, q⟩ := (show ObjOk P w H h a (.ins C dx fs) from hok a _ e)
  exact ⟨mA, ⟨ob, n, ne⟩, r, q, z, d⟩
end

/-! ### what of the text a class must have -/
structure Cls (K : PySem.W.Frag) (C : Addr) : Prop where
  pg : PySem.W.plainGet K C Str.empty = true
  hd : PySem.W.hasDictIn K C = true
  po : PySem.W.plainOver K C = true
  sa : PySem.W.findIn K (.ref C) "__setattr__" = some (some (.builtin "object.__setattr__"))
theorem Cls.get {K : PySem.W.Frag} {C : Addr} (c : Cls K C) (f : Str) : PySem.W.plainGet K C f = true := c.pg
/-- no class of it has the name -/
def NoAttr (K : PySem.W.Frag) (C : Addr) (f : Str) : Prop := PySem.W.findIn K (.ref C) f = some none
theorem NoAttr.taker {K : PySem.W.Frag} {C : Addr} {f : Str} (n : NoAttr K C f) : PySem.W.takerIn K C f = some none := by
  unfold PySem.W.takerIn
  rw [show PySem.W.findIn K (.ref C) f = some none from n]
  rfl
/-- a constant of the class -/
structure Con (K : PySem.W.Frag) (C : Addr) (f : Str) (v : V) (u : Value) : Prop where
  at_ : PySem.W.findIn K (.ref C) f = some (some u)
  rel : RelV v u
  get : PySem.W.specialIn K u "__get__" = some none
  cp : PySem.W.copiedNames.contains f = false
/-- a method: a plain def of the class or of one above it -/
structure Meth (K : PySem.W.Frag) (C : Addr) (m : Str) (f : Addr) : Prop where
  at_ : PySem.W.findIn K (.ref C) m = some (some (.ref f))
  fn : PySem.W.isFn K (.ref f) = true
  kp : PySem.W.keepIn K (.ref f) = true

section
variable {X : Cx} {pins : List (Addr × Obj)} {σ : St} {H : Hp} {s : Shared} {a C dx : Addr} {fs : List (Str × V)} {f : Str} {v : V} {A : Around} {E : Value → Shared → Prop}

theorem getattr_ok {b : Bool} {Q : Value → Shared → Prop} (I : Inv X pins σ H s) (e : H a = some (.ins C dx fs)) (c : Cls X.K C) (n : NoAttr X.K C f) (l : fs.lookup f = some v)
    (h : ∀ u s', Inv X pins σ H s' → RelV v u → Q u s') : wpAny (model X.prog X.w) A (getAttr (.ref a) f b) Q E s := by
  obtain ⟨mA, O, r, _, _, _⟩ := ins_get I.hok e
  obtain ⟨u, hu, ru⟩ := RelO.some_of (v := v) (o := mA f) (by rw [← l]; exact r f)
  exact get_map I.kIn O (c.get f) c.hd n hu (handed_of ru) (h u _ (I.tok _) ru)

theorem getcon_ok {b : Bool} {u : Value} {Q : Value → Shared → Prop} (I : Inv X pins σ H s) (e : H a = some (.ins C dx fs)) (c : Cls X.K C) (k : Con X.K C f v u) (l : fs.lookup f = none)
    (h : ∀ s', Inv X pins σ H s' → Q u s') : wpAny (model X.prog X.w) A (getAttr (.ref a) f b) Q E s := by
  obtain ⟨mA, O, r, _, _, _⟩ := ins_get I.hok e
  have hn : mA f = none := RelO.none_of (by rw [← l]; exact r f)
  exact get_const I.kIn O (c.get f) c.hd k.at_ k.get k.cp hn (handed_of k.rel) (h _ (I.tok _))

theorem getmeth_ok {m : Str} {g : Addr} {pl : Sem Bool} {Q : Value × List Value → Shared → Prop} (I : Inv X pins σ H s) (e : H a = some (.ins C dx fs)) (c : Cls X.K C) (k : Meth X.K C m g) (l : fs.lookup m = none)
    (h : Q (.ref g, [.ref a]) s) : wpAny (model X.prog X.w) A (getMethod (.ref a) m pl) Q E s := by
  obtain ⟨mA, O, r, _, _, _⟩ := ins_get I.hok e
  have hn : mA m = none := RelO.none_of (by rw [← l]; exact r m)
  exact get_meth I.kIn O (c.get m) k.at_ k.fn hn h

theorem setattr_ok {y : V} {u : Value} {Q : Unit → Shared → Prop} (I : Inv X pins σ H s) (e : H a = some (.ins C dx fs)) (c : Cls X.K C) (n : NoAttr X.K C f) (hl : fs.length < 1000) (ry : RelV y u)
    (h : ∀ s', Inv X pins σ (upd H a (.ins C dx (putF f y fs))) s' → Q () s') : wpAny (model X.prog X.w) A (setAttr (.ref a) f u) Q E s := by
  obtain ⟨mA, O, r, wi, _, ho⟩ := ins_get I.hok e
  have hz : (fs.map (·.1)).length ≤ sizeLine := by rw [List.length_map, sizeLine_eq]; omega
  refine set_map I.kIn O c.sa c.po n.taker c.hd wi hz fun h' O' sb => h _ ?_
  have hd : ∃ o, h'.get? dx = some o := let ⟨o, _, _, e', _⟩ := O'.ns; ⟨o, e'⟩
  refine I.write (x := a) (e := dx) (by rw [e]; exact True.intro) (.inr ho) (fun b q hb z => (sb.2 b hb).trans z) hd ?_
  refine ⟨by rw [upd_ne O.ne]; exact ho, ?_, O.ne, O'.obj, _, O'.ns, fun g => ?_, fun g hg => ?_⟩
  · have := length_putF f y fs; omega
  · show RelO ((putF f y fs).lookup g) (if g = f then some u else mA g)
    rw [lookup_putF]
    by_cases q : g = f
    · rw [if_pos q, if_pos q]; exact ry
    · rw [if_neg q, if_neg q]; exact r g
  · by_cases q : g = f
    · rw [q]; exact (keys_putF f y fs).1
    · refine (keys_putF f y fs).2 g (wi g fun z => hg ?_)
      show (if g = f then some u else mA g) = none
      rw [if_neg q]; exact z

/-- a new instance, tracked, without attributes -/
theorem Inv.made (I : Inv X pins σ H s) : Inv X pins σ (upd (upd H s.heap.objs.size (.own (s.heap.objs.size + 1))) (s.heap.objs.size + 1) (.ins C s.heap.objs.size []))
    { s with heap := (s.heap.push PySem.W.emptyDict).push (PySem.W.instObj C s.heap.objs.size) } := by
  have e1 : (s.heap.push PySem.W.emptyDict).get? s.heap.objs.size = some PySem.W.emptyDict := Heap.get?_push_size s.heap rfl
  have e2 : ((s.heap.push PySem.W.emptyDict).push (PySem.W.instObj C s.heap.objs.size)).get? (s.heap.objs.size + 1) = some (PySem.W.instObj C s.heap.objs.size) := by
    have := Heap.get?_push_size (s.heap.push PySem.W.emptyDict) (o := PySem.W.instObj C s.heap.objs.size) rfl
    rwa [Heap.size_push] at this
  have e3 : (s.heap.push PySem.W.emptyDict).Ns s.heap.objs.size (fun _ => none) := ⟨PySem.W.emptyDict, #[], _, e1, rfl, (fun e he => absurd he (by simp)), fun _ => rfl⟩
  have I1 := I.laid (a := s.heap.objs.size) (o := .own (s.heap.objs.size + 1)) (h' := s.heap.push PySem.W.emptyDict) (t' := s.toks) (fun b u q => Heap.get?_push_of_some _ q) (Nat.le_refl _) ⟨_, e1⟩
  refine I1.laid (a := s.heap.objs.size + 1) (o := .ins C s.heap.objs.size []) (t' := s.toks) (fun b u q => Heap.get?_push_of_some _ q) (Nat.le_of_eq (Heap.size_push _ _)) ?_
  have ne : s.heap.objs.size ≠ s.heap.objs.size + 1 := Nat.ne_of_lt (Nat.lt_succ_self _)
  refine ⟨by rw [upd_ne ne, upd_same], Nat.zero_le _, ne, e2, fun _ => none, (Heap.Ns1.of_empty e3).at fun o q => Heap.get?_push_of_some _ q, fun _ => True.intro, fun y hy => absurd rfl hy⟩

/-- e.f where nothing but the object is asked: through attributeBase (super) and the last hold -/
theorem attr_of {prog : Program} {w : World} {env : Env} {e : Expr} {f : Str} {pos : Pos} {s : Shared} {Q : Value → Shared → Prop} (hb : attributeBase e f env (eval e env) = eval e env)
    (h : wpAny (model prog w) A (eval e env) (fun o s₁ => wpAny (model prog w) A (getAttr o f true) Q E s₁) E s) : wpAny (model prog w) A (eval (.Attribute e f pos) env) Q E s :=
  Attribute_any_ h (by rw [arm_eval_Attribute, hb])
end

/-! ### readings and rules -/
/-- e.f, an attribute of the instance -/
def tFld (K : PySem.W.Frag) (ta : TE) (f : Str) : TE := fun σ H Q => ta σ H fun x H1 => ∃ a C dx fs v, x = .ref a ∧ H1 a = some (.ins C dx fs) ∧ Cls K C ∧ NoAttr K C f ∧ fs.lookup f = some v ∧ Q v H1
/-- e.f, a constant of the class -/
def tCon (K : PySem.W.Frag) (ta : TE) (f : Str) : TE := fun σ H Q => ta σ H fun x H1 => ∃ a C dx fs v u, x = .ref a ∧ H1 a = some (.ins C dx fs) ∧ Cls K C ∧ Con K C f v u ∧ fs.lookup f = none ∧ Q v H1
/-- e.f = value -/
def sFld (K : PySem.W.Frag) (ta tv : TE) (f : Str) : TS := fun D σ H => tv σ H fun y H1 => ta σ H1 fun x H2 => ∃ a C dx fs, x = .ref a ∧ H2 a = some (.ins C dx fs) ∧ Cls K C ∧ NoAttr K C f ∧ fs.length < 1000 ∧
  D.nx σ (upd H2 a (.ins C dx (putF f y fs)))
/-- an augmented operator on two values -/
def InOp (X : Cx) (op : Operator) (rd : V → V → Hp → VK → Prop) : Prop :=
  ∀ (pins : List (Addr × Obj)) (s : Shared) (σ : St) (H : Hp) (x y : V) (u v : Value) (Q : VK), Inv X pins σ H s → RelV x u → RelV y v → rd x y H Q → wpAny (model X.prog X.w) X.A (inplaceOp op u v) (EP X pins σ Q) X.xe s
/-- e.f op= value -/
def sFldAug (K : PySem.W.Frag) (ta tv : TE) (rd : V → V → Hp → VK → Prop) (f : Str) : TS := fun D σ H => ta σ H fun x H1 => ∃ a C dx fs v, x = .ref a ∧ H1 a = some (.ins C dx fs) ∧ Cls K C ∧ NoAttr K C f ∧ fs.lookup f = some v ∧
  tv σ H1 fun y H2 => rd v y H2 fun z H3 => ∃ dx' fs', H3 a = some (.ins C dx' fs') ∧ fs'.length < 1000 ∧ D.nx σ (upd H3 a (.ins C dx' (putF f z fs')))

section
variable {X : Cx} {o e value : Expr} {f : Str} {pos pos' tpos : Pos} {ta tv : TE}
theorem pe_fld (he : PE X e ta) (hb : attributeBase e f X.env (eval e X.env) = eval e X.env) : PE X (.Attribute e f pos) (tFld X.K ta f) := by
  intro pins s σ H Q I h
  refine attr_of hb (thn (he pins s σ H _ I h) fun u s1 ⟨x, H1, I1, rx, a, C, dx, fs, v, ex, ea, c, n, l, q⟩ => ?_)
  subst ex
  obtain rfl : u = Value.ref a := rx
  exact getattr_ok I1 ea c n l fun u' s2 I2 ru => ⟨v, H1, I2, ru, q⟩
theorem pe_con (he : PE X e ta) (hb : attributeBase e f X.env (eval e X.env) = eval e X.env) : PE X (.Attribute e f pos) (tCon X.K ta f) := by
  intro pins s σ H Q I h
  refine attr_of hb (thn (he pins s σ H _ I h) fun u s1 ⟨x, H1, I1, rx, a, C, dx, fs, v, u0, ex, ea, c, k, l, q⟩ => ?_)
  subst ex
  obtain rfl : u = Value.ref a := rx
  exact getcon_ok I1 ea c k l fun s2 I2 => ⟨v, H1, I2, k.rel, q⟩
theorem ps_fld (ha : PE X o ta) (hv : PE X value tv) (hs : swapsWith value (some (.Attribute o f pos')) pos.line X.env = pure false) : PS X (.Assign [.Attribute o f pos'] value pos) (sFld X.K ta tv f) := by
  intro pins s σ H D I h
  refine plainObj_wpAny_Assign_Attribute (thn (hv pins s σ H _ I h) fun u s1 ⟨y, H1, I1, ry, q⟩ => thn (ha pins s1 σ H1 _ I1 q) fun ov s2 ⟨x, H2, I2, rx, a, C, dx, fs, ex, ea, c, n, l, q2⟩ => ?_) hs
  subst ex
  obtain rfl : ov = Value.ref a := rx
  exact setattr_ok I2 ea c n l ry fun s3 I3 => ⟨σ, _, I3, q2⟩
theorem ps_fldaug {op : Operator} {rd : V → V → Hp → VK → Prop} (ha : PE X o ta) (hv : PE X value tv) (hop : InOp X op rd) : PS X (.AugAssign (.Attribute o f tpos) op value pos) (sFldAug X.K ta tv rd f) := by
  intro pins s σ H D I h
  refine wpAny_AugAssign_AttributeAny (thn (ha pins s σ H _ I h) fun ov s1 ⟨x, H1, I1, rx, a, C, dx, fs, v, ex, ea, c, n, l, q⟩ => ?_)
  subst ex
  obtain rfl : ov = Value.ref a := rx
  refine getattr_ok I1 ea c n l fun u s2 I2 ru => thn (hv pins s2 σ H1 _ I2 q) fun w3 s3 ⟨y, H2, I3, ry, q3⟩ => thn (hop pins s3 σ H2 v y u w3 _ I3 ru ry q3) fun w4 s4 ⟨z, H3, I4, rz, dx', fs', ea', l', q4⟩ => ?_
  exact setattr_ok I4 ea' c n l' rz fun s5 I5 => ⟨σ, _, I5, q4⟩
def rAdd : V → V → Hp → VK → Prop := fun x y H Q => ∃ i j, x = .int i ∧ y = .int j ∧ Q (.int (i + j)) H
def rSub : V → V → Hp → VK → Prop := fun x y H Q => ∃ i j, x = .int i ∧ y = .int j ∧ Q (.int (i - j)) H
theorem in_add : InOp X .Add rAdd := by
  rintro pins s σ H x y u v Q I rx ry ⟨i, j, rfl, rfl, q⟩
  obtain ⟨t, rfl⟩ := (show ∃ t, u = Value.int i t from rx)
  obtain ⟨t', rfl⟩ := (show ∃ t', v = Value.int j t' from ry)
  exact PyProof.Rows.iadd_int ⟨.int (i + j), H, I.tok _, ⟨_, rfl⟩, q⟩
theorem in_sub : InOp X .Sub rSub := by
  rintro pins s σ H x y u v Q I rx ry ⟨i, j, rfl, rfl, q⟩
  obtain ⟨t, rfl⟩ := (show ∃ t, u = Value.int i t from rx)
  obtain ⟨t', rfl⟩ := (show ∃ t', v = Value.int j t' from ry)
  exact PyProof.Rows.isub_int ⟨.int (i - j), H, I.tok _, ⟨_, rfl⟩, q⟩

/-- what is between an instance and its method: the tree of a method call -/
theorem methcall_of {pl : Sem Bool} {m : Str} {apos : Pos} {args : List Expr} {pins : List (Addr × Obj)} {s : Shared} {σ : St} {H : Hp} {Q : Value → Shared → Prop} {te : TE} (he : PE X e te) (I : Inv X pins σ H s)
    (h : te σ H fun x H1 => ∃ a C dx fs g, x = .ref a ∧ H1 a = some (.ins C dx fs) ∧ Cls X.K C ∧ Meth X.K C m g ∧ fs.lookup m = none ∧
      ∀ s1, Inv X pins σ H1 s1 → wpAny (model X.prog X.w) X.A (callWith pos (.ref g) [.ref a] (backTo pos (starEach args X.env)) (backToKw pos (keywordEach [] X.env))) Q X.xe s1)
    (ht : eval (.Call (.Attribute e m apos) args [] pos) X.env = (do
      let ov ← eval e X.env
      standAt apos.atName
      let (f, first) ← holding [ov] (getMethod ov m pl)
      callWith pos f first (backTo pos (starEach args X.env)) (backToKw pos (keywordEach [] X.env)))) :
    wpAny (model X.prog X.w) X.A (eval (.Call (.Attribute e m apos) args [] pos) X.env) Q X.xe s := by
  refine PySem.W.methodCall_KW (pl := pl) (thn (he pins s σ H _ I h) fun u s1 ⟨x, H1, I1, rx, a, C, dx, fs, g, ex, ea, c, k, l, q⟩ => ?_) ht
  subst ex
  obtain rfl : u = Value.ref a := rx
  exact getmeth_ok I1 ea c k l (q s1 I1)
end

/-! ### isinstance -/
section
variable {X : Cx} {pins : List (Addr × Obj)} {σ : St} {H : Hp} {s : Shared} {A : Around} {E : Value → Shared → Prop} {Q : Value → Shared → Prop} {c : Value} {b : Bool}
/-- the type of a value, as the fragment's deciders take it; for an instance its class -/
inductive TyOf (K : PySem.W.Frag) (H : Hp) : V → Value → Prop where
  | non : TyOf K H .non (.type "NoneType")
  | bl (x : Bool) : TyOf K H (.bl x) (.type "bool")
  | int (i : Int) : TyOf K H (.int i) (.type "int")
  | str (x : Str) : TyOf K H (.str x) (.type "str")
  | flt (x : UInt64) : TyOf K H (.flt x) (.type "float")
  | lst {a : Addr} {xs : List V} (e : H a = some (.lst xs)) : TyOf K H (.ref a) (.type "list")
  | frz {a : Addr} {o : Obj} {xs : List V} (e : H a = some (.frz o (.lst xs))) : TyOf K H (.ref a) (.type "list")
  | tup {a : Addr} {xs : List V} (e : H a = some (.tup xs)) : TyOf K H (.ref a) (.type "tuple")
  | dK {a : Addr} {kvs : List (Key × V)} (e : H a = some (.dK kvs)) : TyOf K H (.ref a) (.type "dict")
  | dT {a : Addr} {kvs : List (List Key × V)} (e : H a = some (.dT kvs)) : TyOf K H (.ref a) (.type "dict")
  | ins {a C dx : Addr} {fs : List (Str × V)} (e : H a = some (.ins C dx fs)) (cl : Cls K C) (ha : PySem.W.findIn K (.ref C) "__class__" = some (some (.builtin "object.__class__")))
      (hn : PySem.W.specialIn K (.builtin "object.__class__") "__get__" = some (some (.builtin "getset_descriptor.__get__"))) (htk : PySem.W.takesIn K (.builtin "object.__class__") = some true)
      (hm : PySem.W.mroIn K C (.type "object") = some true) : TyOf K H (.ref a) (.ref C)
/-- isinstance(x, c) for one class c, a built-in or an own one: kitOne's answer -/
theorem isinst_ok {x : V} {u t : Value} (I : Inv X pins σ H s) (rx : RelV x u) (ty : TyOf X.K H x t) (e : PySem.W.kitOne X.K t c = some b) (h : ∀ tk, Q (.bool b) { s with toks := tk }) :
    wpAny (model X.prog X.w) A (call (.builtin "isinstance") [u, c]) Q E s := by
  cases ty with
  | non => cases (show u = Value.none from rx); exact PySem.W.kia_one PySem.W.kitx_none I.kIn True.intro e (fun z => nomatch z) h
  | bl y => cases (show u = Value.bool y from rx); exact PySem.W.kia_one PySem.W.kitx_bool I.kIn True.intro e (fun z => nomatch z) h
  | int i => obtain ⟨t, q⟩ := (show ∃ t, u = Value.int i t from rx); cases q; exact PySem.W.kia_one PySem.W.kitx_int I.kIn True.intro e (fun z => nomatch z) h
  | str y => obtain ⟨t, q⟩ := (show ∃ t, u = Value.str y t from rx); cases q; exact PySem.W.kia_one PySem.W.kitx_str I.kIn True.intro e (fun z => nomatch z) h
  | flt y => obtain ⟨t, q⟩ := (show ∃ t, u = Value.float y t from rx); cases q; exact PySem.W.kia_one PySem.W.kitx_float I.kIn True.intro e (fun z => nomatch z) h
  | @lst a xs ea =>
    cases (show u = Value.ref a from rx)
    obtain ⟨_, _, n, _, h1⟩ := (show ObjOk X.prog X.w H s.heap a (.lst xs) from I.hok a _ ea)
    exact PySem.W.kia_one PySem.W.kitx_list I.kIn ⟨_, h1, rfl⟩ e (fun z => nomatch z) h
  | @frz a ob xs ea =>
    cases (show u = Value.ref a from rx)
    obtain ⟨_, _, _, n, _, h1⟩ := (show ObjOk X.prog X.w H s.heap a (.frz ob (.lst xs)) from I.hok a _ ea)
    exact PySem.W.kia_one PySem.W.kitx_list I.kIn ⟨_, h1, rfl⟩ e (fun z => nomatch z) h
  | @tup a xs ea =>
    cases (show u = Value.ref a from rx)
    obtain ⟨_, _, _, p⟩ := (show ObjOk X.prog X.w H s.heap a (.tup xs) from I.hok a _ ea)
    obtain ⟨o, h1, h2, _⟩ := p
    exact PySem.W.kia_one PySem.W.kitx_tuple I.kIn ⟨o, h1, h2⟩ e (fun z => nomatch z) h
  | @dK a kvs ea =>
    cases (show u = Value.ref a from rx)
    obtain ⟨_, _, vs, _, p⟩ := (show ObjOk X.prog X.w H s.heap a (.dK kvs) from I.hok a _ ea)
    obtain ⟨o, es, ep, h1, h2, _⟩ := p
    exact PySem.W.kia_one PySem.W.kitx_dict I.kIn ⟨o, h1, h2.1⟩ e (fun z => nomatch z) h
  | @dT a kvs ea =>
    cases (show u = Value.ref a from rx)
    obtain ⟨_, _, xs, _, o, es, ep, h1, h2, _⟩ := (show ObjOk X.prog X.w H s.heap a (.dT kvs) from I.hok a _ ea)
    exact PySem.W.kia_one PySem.W.kitx_dict I.kIn ⟨o, h1, h2.1⟩ e (fun z => nomatch z) h
  | @ins a C dx fs ea cl ha hn htk hm =>
    cases (show u = Value.ref a from rx)
    obtain ⟨mA, O, _⟩ := ins_get I.hok ea
    obtain ⟨od, J, _⟩ := O.look
    exact PySem.W.kia_one (PySem.W.kitx_own (cl.get _) cl.hd ha hn htk hm) I.kIn J e (fun z => nomatch z) h
end
end L2

namespace L2
open PySem PySem.Spec PyProof.Rows

/-! ### room -/
structure Room (k : Nat) (A : Around) : Prop where
  hd : A.handled = none
  dp : A.depth + 3 * k + 5 < recursionLimit
  un : A.units + 16 * k + 200 < cLine
theorem Room.mono {j k : Nat} {A : Around} (r : Room k A) (h : j ≤ k) : Room j A := ⟨r.hd, by have := r.dp; omega, by have := r.un; omega⟩
theorem Room.deeper {k : Nat} {A : Around} (r : Room (k + 1) A) (env : Env) : Room k (A.deeper env) :=
  ⟨r.hd, by have := r.dp; show A.depth + 1 + 3 * k + 5 < _; omega, by have := r.un; show A.units + 3 + 16 * k + 200 < _; omega⟩
theorem Room.in1 {k : Nat} {A : Around} (r : Room (k + 1) A) : Room k A.in1 :=
  ⟨r.hd, by have := r.dp; show A.depth + 3 * k + 5 < _; omega, by have := r.un; show A.units + 1 + 16 * k + 200 < _; omega⟩
theorem make_depth {A : Around} {C : Addr} {us : List Value} {kw : List (Str × Value)} : (A.under (.builtin "type.__call__" ⟨.ref C :: us, kw⟩)).depth = A.depth + 1 := by
  first | rfl | simp [Around.under, Code.weight, Code.isCreation, Code.isGuard, Code.isCaller, Code.frames, Code.isFrame, guardIds]
theorem make_units {A : Around} {C : Addr} {us : List Value} {kw : List (Str × Value)} : (A.under (.builtin "type.__call__" ⟨.ref C :: us, kw⟩)).units = A.units + 1 := by
  first | rfl | simp [Around.under, Code.cUnits, Code.frames, Code.isFrame]
theorem Room.make {k : Nat} {A : Around} (r : Room (k + 1) A) (C : Addr) (us : List Value) (kw : List (Str × Value)) : Room k (A.under (.builtin "type.__call__" ⟨.ref C :: us, kw⟩)) :=
  ⟨r.hd, by have := r.dp; rw [make_depth]; omega, by have := r.un; rw [make_units]; omega⟩
theorem Room.depth {k : Nat} {A : Around} (r : Room k A) : A.depth < recursionLimit := by have := r.dp; omega
theorem Room.units {k : Nat} {A : Around} (r : Room k A) : A.units + 64 < cLine := by have := r.un; omega
theorem Room.units0 {k : Nat} {A : Around} (r : Room k A) : A.units < cLine := by have := r.un; omega

/-! ### argument lists and displays -/
def tNil : TA := fun _ H Q => Q [] H
def tCons (ta : TE) (tr : TA) : TA := fun σ H Q => ta σ H fun x H1 => tr σ H1 fun xs H2 => Q (x :: xs) H2
section
variable {X : Cx} {e : Expr} {es : List Expr} {te : TE} {t : TA} {pos : Pos}
theorem pa_nil : PA X [] tNil := fun _ _ _ _ H Q I h => Calls.spliced_nil ⟨[], H, I, .nil, h⟩
theorem pa_cons (ha : PE X e te) (hr : PA X es t) (hs : starEach (e :: es) X.env = (false, eval e X.env) :: starEach es X.env := by rfl) : PA X (e :: es) (tCons te t) := by
  intro pos pins s σ H Q I h
  rw [hs]
  show wpAny _ _ (spliced ((false, eval e X.env) :: backTo pos (starEach es X.env))) _ _ s
  refine Calls.spliced_cons (thn (ha pins s σ H _ I h) fun u s1 ⟨x, H1, I1, r1, q1⟩ => ?_)
  exact thn (hr pos pins s1 σ H1 _ I1 q1) fun us s2 ⟨xs, H2, I2, r2, q2⟩ => ⟨x :: xs, H2, I2, .cons r1 r2, q2⟩

/-- a tuple, a list of written items -/
def tTup (t : TA) : TE := fun σ H Q => t σ H fun xs H1 => xs.length ≤ sizeLine ∧ ∀ p, H1 p = none → Q (.ref p) (upd H1 p (.tup xs))
def tLst (t : TA) : TE := fun σ H Q => t σ H fun xs H1 => xs.length ≤ sizeLine ∧ ∀ p, H1 p = none → Q (.ref p) (upd H1 p (.lst xs))
theorem pe_tup {x1} (h : PA X es t) : PE X (.Tuple es x1 pos) (tTup t) := by
  intro pins s σ H Q I hq
  refine wpAny_Tuple_spliced (thn (h pos pins s σ H _ I hq) fun us s1 ⟨xs, H1, I1, r, z, q⟩ => ⟨by rw [← r.length]; exact z, ?_⟩)
  have hf : H1 s1.heap.objs.size = none := I1.hok.fresh (Nat.le_refl _)
  refine ⟨.ref s1.heap.objs.size, upd H1 s1.heap.objs.size (.tup xs), I1.laid (t' := s1.toks) (fun b u e => Heap.get?_push_of_some _ e) (Nat.le_refl _) ?_, rfl, q _ hf⟩
  exact ⟨z, us, r, ⟨_, Heap.get?_push_size _ rfl, rfl, _, rfl⟩⟩
theorem pe_lst (h : PA X es t) : PE X (.List es pos) (tLst t) := by
  intro pins s σ H Q I hq
  refine wpAny_List_spliced (thn (h pos pins s σ H _ I hq) fun us s1 ⟨xs, H1, I1, r, z, q⟩ => ⟨by rw [← r.length]; exact z, ?_⟩)
  have hf : H1 s1.heap.objs.size = none := I1.hok.fresh (Nat.le_refl _)
  refine ⟨.ref s1.heap.objs.size, upd H1 s1.heap.objs.size (.lst xs), I1.laid (t' := s1.toks) (fun b u e => Heap.get?_push_of_some _ e) (Nat.le_refl _) ?_, rfl, q _ hf⟩
  exact ⟨z, us, 0, r, Heap.get?_push_size _ rfl⟩
end

/-! ### what a def promises -/
/-- a def's promise: the bound arguments in the parameters' order, the heap, the wanted end, the wanted exception -/
abbrev Sp := List V → Hp → VK → XK → Prop
/-- how an exception lies behind a call (file 08 gives it): the callers' frames, abstract heap and state ahead of the call, the wish, the exception, the state -/
abbrev CXT := List Env → Hp → Shared → XK → Value → Shared → Prop

/-- the state at a call -/
structure Env0 (P : Program) (w : World) (K : PySem.W.Frag) (mg : Str → Option Value) (base : Heap) (A : Around) (outer : List Env) (s : Shared) (H : Hp) : Prop where
  frames : A.frames = some outer
  mod : Mod K mg base
  bs : ∀ b o, base.get? b = some o → s.heap.get? b = some o ∧ H b = none
  bsz : base.objs.size ≤ s.heap.objs.size
  funs : s.heap.FunFrames base outer
  frf : ∀ b ∈ frs outer, H b = none
  hok : HOk P w H s.heap
  bare : AllBare s.gens
/-- a call's end -/
def CE (outer : List Env) (P : Program) (w : World) (H : Hp) (s : Shared) (Q : VK) (u : Value) (s' : Shared) : Prop :=
  ∃ v H', s'.os = s.os ∧ AllBare s'.gens ∧ Un (frs outer) [] H H' s.heap s'.heap ∧ HOk P w H' s'.heap ∧ RelV v u ∧ Q v H'
def CR (CX : CXT) (outer : List Env) (P : Program) (w : World) (H : Hp) (s : Shared) (Q : VK) (E : XK) (r : Result) (s' : Shared) : Prop :=
  match r with
  | .ok (.ret u) => CE outer P w H s Q u s'
  | .ok _ => False
  | .error e => CX outer H s E e s'
structure FnOk (P : Program) (w : World) (K : PySem.W.Frag) (mg : Str → Option Value) (base : Heap) (CX : CXT) (k : Nat) (f : Addr) (fd : FuncData) (ps : List Str) (sp : Sp) : Prop where
  len : ∀ vs H Q E, sp vs H Q E → vs.length = ps.length
  run : ∀ (A : Around) (outer : List Env) (s : Shared) (H : Hp) (args : Args) (us : List Value) (vs : List V) (Q : VK) (E : XK), Room k A → Env0 P w K mg base A outer s H → BindsTo s fd args (ps.zip us) → Vals vs us → sp vs H Q E →
    codeAny (model P w) A (.call (.ref f) args) (CR CX outer P w H s Q E) s
theorem FnOk.mono {P : Program} {w : World} {K : PySem.W.Frag} {mg : Str → Option Value} {base : Heap} {CX : CXT} {j k : Nat} {f : Addr} {fd : FuncData} {ps : List Str} {sp : Sp} (F : FnOk P w K mg base CX j f fd ps sp) (h : j ≤ k) :
    FnOk P w K mg base CX k f fd ps sp := ⟨F.len, fun A outer s H args us vs Q E hr => F.run A outer s H args us vs Q E (hr.mono h)⟩
/-- a weaker promise -/
theorem FnOk.imp {P : Program} {w : World} {K : PySem.W.Frag} {mg : Str → Option Value} {base : Heap} {CX : CXT} {k : Nat} {f : Addr} {fd : FuncData} {ps : List Str} {sp sp' : Sp} (F : FnOk P w K mg base CX k f fd ps sp)
    (h : ∀ vs H Q E, sp' vs H Q E → sp vs H Q E) : FnOk P w K mg base CX k f fd ps sp' :=
  ⟨fun vs H Q E q => F.len vs H Q E (h _ _ _ _ q), fun A outer s H args us vs Q E hr he hb hv hs => F.run A outer s H args us vs Q E hr he hb hv (h _ _ _ _ hs)⟩

theorem Env0.make {P : Program} {w : World} {K : PySem.W.Frag} {mg : Str → Option Value} {base : Heap} {A : Around} {outer : List Env} {s : Shared} {H : Hp} (e : Env0 P w K mg base A outer s H) (C : Addr) (us : List Value) (kw : List (Str × Value)) :
    Env0 P w K mg base (A.under (.builtin "type.__call__" ⟨.ref C :: us, kw⟩)) outer s H := ⟨by first | exact e.frames | (simpa [Around.under, Code.envs, Code.isFrame, pushEnvs] using e.frames), e.mod, e.bs, e.bsz, e.funs, e.frf, e.hok, e.bare⟩
theorem Env0.in1 {P : Program} {w : World} {K : PySem.W.Frag} {mg : Str → Option Value} {base : Heap} {A : Around} {outer : List Env} {s : Shared} {H : Hp} (e : Env0 P w K mg base A outer s H) :
    Env0 P w K mg base A.in1 outer s H := ⟨e.frames, e.mod, e.bs, e.bsz, e.funs, e.frf, e.hok, e.bare⟩

section
variable {X : Cx} {pins : List (Addr × Obj)} {σ : St} {H : Hp} {s s' : Shared}
/-- from a body: what a callee wants -/
theorem Inv.env0 (I : Inv X pins σ H s) : Env0 X.prog X.w X.K X.mg X.base X.A X.stack s H :=
  ⟨I.ok.frames, I.ok.mod, I.bs, Nat.le_trans I.ok.bsz I.sz, I.stack, I.stkFree, I.hok, I.bare⟩
/-- behind a call -/
theorem Inv.after {Q : VK} {u : Value} (I : Inv X pins σ H s) (h : CE X.stack X.prog X.w H s Q u s') : EP X pins σ Q u s' := by
  obtain ⟨v, H', os, bare, un, hok, r, q⟩ := h
  obtain ⟨hh, g, d, t, os'⟩ := s'
  obtain rfl : os' = s.os := os
  exact ⟨v, H', I.call (h' := hh) (g' := g) (d' := d) (t' := t) (ch := []) un hok bare (fun b z => absurd z (by simp)), r, q⟩
end

/-! ### calls -/
/-- f(..): the written arguments, then the defaults dvs; E: what is wanted of an exception -/
def tCall (sp : Sp) (dvs : List V) (E : XK) (t : TA) : TE := fun σ H Q => t σ H fun vs H1 => sp (vs ++ dvs) H1 Q E
/-- o.m(..) of an instance of the class at C -/
def tMeth (C : Addr) (m : Str) (sp : Sp) (dvs : List V) (E : XK) (ta : TE) (t : TA) : TE := fun σ H Q => ta σ H fun x H1 => ∃ a dx fs, x = .ref a ∧ H1 a = some (.ins C dx fs) ∧ fs.lookup m = none ∧
  t σ H1 fun vs H2 => sp (x :: (vs ++ dvs)) H2 Q E
/-- C(..): a new instance and its dict, then __init__ -/
def tMake (C : Addr) (sp : Sp) (dvs : List V) (E : XK) (t : TA) : TE := fun σ H Q => t σ H fun vs H1 => ∀ x dx, H1 x = none → H1 dx = none → dx ≠ x →
  sp (.ref x :: (vs ++ dvs)) (upd (upd H1 dx (.own x)) x (.ins C dx [])) (fun v H2 => v = .non ∧ Q (.ref x) H2) E

/-- how the parameters are bound: us the positional arguments, kw the keywords' values by name, ds the defaults that fill up -/
def Binds (K : PySem.W.Frag) (fd : FuncData) (ps : List Str) (ds : List Value) : Prop :=
  ∀ (s : Shared) (us : List Value), K.In s.heap → (us ++ ds).length = ps.length → BindsTo s fd ⟨us, []⟩ (ps.zip (us ++ ds))
/-- every parameter is given -/
theorem Binds.all {K : PySem.W.Frag} {fd : FuncData} {ps : List Str} (h : ∀ us : List Value, us.length = ps.length → bindArgs fd ⟨us, []⟩ = pure (ps.zip us)) : Binds K fd ps [] := fun s us _ hl => by
  rw [List.append_nil] at hl ⊢
  exact .of_eq (h us hl)

/-- an exception of a callee reaches what this body wants of exceptions -/
def Passes (CX : CXT) (X : Cx) (E : XK) : Prop := ∀ (pins : List (Addr × Obj)) (σ : St) (H : Hp) (s : Shared) (e : Value) (s' : Shared), Inv X pins σ H s → CX X.stack H s E e s' → X.xe e s'

section
variable {X : Cx} {CX : CXT} {k : Nat} {f C : Addr} {fd : FuncData} {ps : List Str} {sp : Sp} {dvs : List V} {ds : List Value} {E : XK} {x m : Str} {p pos apos : Pos} {e o : Expr} {es : List Expr} {ta : TE} {t : TA}

/-- the callee runs -/
theorem run_fn {pins : List (Addr × Obj)} {σ : St} {H : Hp} {s : Shared} {Q : VK} {us : List Value} {vs : List V} (F : FnOk X.prog X.w X.K X.mg X.base CX k f fd ps sp) (hr : Room k X.A) (hb : Binds X.K fd ps ds) (hd : Vals dvs ds) (hx : Passes CX X E)
    (I : Inv X pins σ H s) (r : Vals vs us) (h : sp (vs ++ dvs) H Q E) : wpAny (model X.prog X.w) X.A (call (.ref f) us) (EP X pins σ Q) X.xe s := by
  have r2 : Vals (vs ++ dvs) (us ++ ds) := r.append hd
  have hl : (us ++ ds).length = ps.length := by rw [← r2.length]; exact F.len _ _ _ _ h
  refine wpAny_call (codeAny_mono (F.run X.A X.stack s H ⟨us, []⟩ (us ++ ds) (vs ++ dvs) Q E hr I.env0 (hb s us I.kIn hl) r2 h) fun r s' hq => ?_)
  cases r with
  | error e => exact hx pins σ H s e s' I hq
  | ok fl =>
    cases fl with
    | ret u => exact I.after hq
    | next => exact False.elim hq
    | brk => exact False.elim hq
    | cont => exact False.elim hq

theorem pe_call (F : FnOk X.prog X.w X.K X.mg X.base CX k f fd ps sp) (hr : Room k X.A) (hg : Gl X x) (hm : X.mg x = some (.ref f)) (hk : PySem.W.keepIn X.K (.ref f) = true) (hb : Binds X.K fd ps ds) (hd : Vals dvs ds) (hx : Passes CX X E)
    (ha : PA X (e :: es) t) (hdb : (x == ("__debug__" : Str)) = false := by decide) (he : starEach (e :: es) X.env = (false, eval e X.env) :: starEach es X.env := by rfl) (hpl : (backTo pos (starEach es X.env)).any (·.1) = false := by rfl) :
    PE X (.Call (.Name x p) (e :: es) [] pos) (tCall sp dvs E t) := by
  intro pins s σ H Q I h
  refine wpAny_Call_Name_kw (ld_glob I hg hm ?_ hdb)
  refine PySem.W.callWith_K (h₀ := X.base) I.ok.mod.kin hk (thn (ha pos pins s σ H _ I h) fun us s1 ⟨vs, H1, I1, r, q⟩ => ⟨I1.kIn, ?_⟩) he hpl
  exact run_fn F hr hb hd hx I1 r q
theorem pe_call0 (F : FnOk X.prog X.w X.K X.mg X.base CX k f fd ps sp) (hr : Room k X.A) (hg : Gl X x) (hm : X.mg x = some (.ref f)) (hk : PySem.W.keepIn X.K (.ref f) = true) (hb : Binds X.K fd ps ds) (hd : Vals dvs ds) (hx : Passes CX X E)
    (hdb : (x == ("__debug__" : Str)) = false := by decide) : PE X (.Call (.Name x p) [] [] pos) (tCall sp dvs E tNil) := by
  intro pins s σ H Q I h
  refine wpAny_Call_Name_kw (ld_glob I hg hm ?_ hdb)
  exact PySem.W.callWith_K0 I.kIn hk (run_fn (us := []) F hr hb hd hx I .nil h)

/-- o.m(e, ..) -/
theorem pe_meth {pl : Sem Bool} (he : PE X o ta) (c : Cls X.K C) (hm : Meth X.K C m f) (F : FnOk X.prog X.w X.K X.mg X.base CX k f fd ps sp) (hr : Room k X.A) (hb : Binds X.K fd ps ds) (hd : Vals dvs ds) (hx : Passes CX X E) (ha : PA X (e :: es) t)
    (hst : starEach (e :: es) X.env = (false, eval e X.env) :: starEach es X.env := by rfl) (hpl : (backTo pos (starEach es X.env)).any (·.1) = false := by rfl)
    (ht : eval (.Call (.Attribute o m apos) (e :: es) [] pos) X.env = (do
      let ov ← eval o X.env
      standAt apos.atName
      let (f, first) ← holding [ov] (getMethod ov m pl)
      callWith pos f first (backTo pos (starEach (e :: es) X.env)) (backToKw pos (keywordEach [] X.env))) := by rfl) :
    PE X (.Call (.Attribute o m apos) (e :: es) [] pos) (tMeth C m sp dvs E ta t) := by
  intro pins s σ H Q I h
  refine PySem.W.methodCall_KW (pl := pl) (thn (he pins s σ H _ I h) fun u s1 ⟨x, H1, I1, rx, a, dx, fs, ex, ea, l, q⟩ => ?_) ht
  subst ex
  obtain rfl : u = Value.ref a := rx
  refine getmeth_ok I1 ea c hm l ?_
  refine PySem.W.callWith_K (first := [.ref a]) (h₀ := X.base) I.ok.mod.kin hm.kp (thn (ha pos pins s1 σ H1 _ I1 q) fun us s2 ⟨vs, H2, I2, r, q2⟩ => ⟨I2.kIn, ?_⟩) hst hpl
  exact run_fn (us := .ref a :: us) (vs := .ref a :: vs) F hr hb hd hx I2 (.cons rfl r) q2
/-- o.m() -/
theorem pe_meth0 {pl : Sem Bool} (he : PE X o ta) (c : Cls X.K C) (hm : Meth X.K C m f) (F : FnOk X.prog X.w X.K X.mg X.base CX k f fd ps sp) (hr : Room k X.A) (hb : Binds X.K fd ps ds) (hd : Vals dvs ds) (hx : Passes CX X E)
    (ht : eval (.Call (.Attribute o m apos) [] [] pos) X.env = (do
      let ov ← eval o X.env
      standAt apos.atName
      let (f, first) ← holding [ov] (getMethod ov m pl)
      callWith pos f first (backTo pos (starEach [] X.env)) (backToKw pos (keywordEach [] X.env))) := by rfl) :
    PE X (.Call (.Attribute o m apos) [] [] pos) (tMeth C m sp dvs E ta tNil) := by
  intro pins s σ H Q I h
  refine PySem.W.methodCall_KW (pl := pl) (thn (he pins s σ H _ I h) fun u s1 ⟨x, H1, I1, rx, a, dx, fs, ex, ea, l, q⟩ => ?_) ht
  subst ex
  obtain rfl : u = Value.ref a := rx
  refine getmeth_ok I1 ea c hm l ?_
  exact PySem.W.callWith_K0 (first := [.ref a]) I1.kIn hm.kp (run_fn (us := [.ref a]) (vs := [.ref a]) F hr hb hd hx I1 (.cons rfl .nil) q)

/-- what a class must have to be made -/
structure Mk (K : PySem.W.Frag) (C f : Addr) : Prop where
  makes : PySem.W.makesIn K C = true
  init : PySem.W.findIn K (.ref C) "__init__" = some (some (.ref f))
  fn : PySem.W.isFn K (.ref f) = true
  kp : PySem.W.keepIn K (.ref C) = true

theorem run_make {pins : List (Addr × Obj)} {σ : St} {H : Hp} {s : Shared} {Q : VK} {us : List Value} {vs : List V} (M : Mk X.K C f) (F : FnOk X.prog X.w X.K X.mg X.base CX k f fd ps sp) (hr : Room (k + 1) X.A) (hb : Binds X.K fd ps ds) (hd : Vals dvs ds)
    (hx : Passes CX X E) (I : Inv X pins σ H s) (r : Vals vs us)
    (h : ∀ x dx, H x = none → H dx = none → dx ≠ x → sp (.ref x :: (vs ++ dvs)) (upd (upd H dx (.own x)) x (.ins C dx [])) (fun v H2 => v = .non ∧ Q (.ref x) H2) E) :
    wpAny (model X.prog X.w) X.A (call (.ref C) us) (EP X pins σ Q) X.xe s := by
  have hq := h (s.heap.objs.size + 1) s.heap.objs.size (I.hok.fresh (Nat.le_succ _)) (I.hok.fresh (Nat.le_refl _)) (Nat.ne_of_lt (Nat.lt_succ_self _))
  have I2 := Inv.made (C := C) I
  have r2 : Vals (V.ref (s.heap.objs.size + 1) :: (vs ++ dvs)) (Value.ref (s.heap.objs.size + 1) :: (us ++ ds)) := .cons rfl (r.append hd)
  have hl : (Value.ref (s.heap.objs.size + 1) :: us ++ ds).length = ps.length := by
    have e := r2.length
    rw [F.len _ _ _ _ hq] at e
    exact e.symm
  refine wpAny_call (make_map (f := f) I.kIn M.makes M.init (beq_iff_eq.mp M.fn) (codeAny_mono (F.run _ X.stack _ _ ⟨Value.ref (s.heap.objs.size + 1) :: us, []⟩ (Value.ref (s.heap.objs.size + 1) :: (us ++ ds)) _ _ E (hr.make C us [])
    (I2.env0.make C us []) (hb _ (Value.ref (s.heap.objs.size + 1) :: us) I2.kIn hl) r2 hq) fun r s' hq' => ?_))
  cases r with
  | error e => exact hx pins σ _ _ e s' I2 hq'
  | ok fl =>
    cases fl with
    | ret u =>
      obtain ⟨v, H', I3, rv, ev, q3⟩ := I2.after hq'
      subst ev
      exact ⟨rv, ⟨V.ref (s.heap.objs.size + 1), H', I3, rfl, q3⟩⟩
    | next => exact False.elim hq'
    | brk => exact False.elim hq'
    | cont => exact False.elim hq'
theorem pe_make (M : Mk X.K C f) (F : FnOk X.prog X.w X.K X.mg X.base CX k f fd ps sp) (hr : Room (k + 1) X.A) (hg : Gl X x) (hm : X.mg x = some (.ref C)) (hb : Binds X.K fd ps ds) (hd : Vals dvs ds) (hx : Passes CX X E)
    (ha : PA X (e :: es) t) (hdb : (x == ("__debug__" : Str)) = false := by decide) (he : starEach (e :: es) X.env = (false, eval e X.env) :: starEach es X.env := by rfl) (hpl : (backTo pos (starEach es X.env)).any (·.1) = false := by rfl) :
    PE X (.Call (.Name x p) (e :: es) [] pos) (tMake C sp dvs E t) := by
  intro pins s σ H Q I h
  refine wpAny_Call_Name_kw (ld_glob I hg hm ?_ hdb)
  refine PySem.W.callWith_K (h₀ := X.base) I.ok.mod.kin M.kp (thn (ha pos pins s σ H _ I h) fun us s1 ⟨vs, H1, I1, r, q⟩ => ⟨I1.kIn, ?_⟩) he hpl
  exact run_make M F hr hb hd hx I1 r q
theorem pe_make0 (M : Mk X.K C f) (F : FnOk X.prog X.w X.K X.mg X.base CX k f fd ps sp) (hr : Room (k + 1) X.A) (hg : Gl X x) (hm : X.mg x = some (.ref C)) (hb : Binds X.K fd ps ds) (hd : Vals dvs ds) (hx : Passes CX X E)
    (hdb : (x == ("__debug__" : Str)) = false := by decide) : PE X (.Call (.Name x p) [] [] pos) (tMake C sp dvs E tNil) := by
  intro pins s σ H Q I h
  refine wpAny_Call_Name_kw (ld_glob I hg hm ?_ hdb)
  exact PySem.W.callWith_K0 I.kIn M.kp (run_make (us := []) M F hr hb hd hx I .nil h)
end

/-! ### keywords -/
/-- the values of the keywords, from the left -/
def PK (X : Cx) (kws : List Keyword) (t : TA) : Prop :=
  ∀ (pos : Pos) (pins : List (Addr × Obj)) (s : Shared) (σ : St) (H : Hp) (Q : List V → Hp → Prop), Inv X pins σ H s → t σ H Q → wpAny (model X.prog X.w) X.A (evalAll ((backToKw pos (keywordEach kws X.env)).map (·.2))) (AP X pins σ Q) X.xe s
section
variable {X : Cx} {CX : CXT} {k : Nat} {f C : Addr} {fd : FuncData} {ps ks : List Str} {sp : Sp} {E : XK} {x m : Str} {p pos apos kpos : Pos} {e o : Expr} {es : List Expr} {kws : List Keyword} {te ta : TE} {t tk : TA} {nm : Option Str}
theorem pk_nil : PK X [] tNil := fun _ _ _ _ H Q I h => wpAny_evalAll_nil ⟨[], H, I, .nil, h⟩
theorem pk_cons (ha : PE X e te) (hr : PK X kws t) : PK X (⟨nm, e, kpos⟩ :: kws) (tCons te t) := by
  intro pos pins s σ H Q I h
  show wpAny _ _ (evalAll ((do let v ← eval e X.env; standAt pos; pure v) :: (backToKw pos (keywordEach kws X.env)).map (·.2))) _ _ s
  refine wpAny_evalAll_cons (wpAny_bind (thn (ha pins s σ H _ I h) fun u s1 ⟨x, H1, I1, r1, q1⟩ => wpAny_bind (wpAny_standAt (wpAny_pure ?_))))
  exact thn (hr pos pins s1 σ H1 _ I1 q1) fun us s2 ⟨xs, H2, I2, r2, q2⟩ => ⟨x :: xs, H2, I2, .cons r1 r2, q2⟩

/-- how a call with keywords binds: g puts the positional values us and the keywords' values ws (names ks) in the parameters' order, defaults among them -/
structure KBinds (K : PySem.W.Frag) (fd : FuncData) (ps ks : List Str) (g : List Value → List Value → List Value) (gV : List V → List V → List V) : Prop where
  to : ∀ (s : Shared) (us ws : List Value), K.In s.heap → (g us ws).length = ps.length → BindsTo s fd ⟨us, ks.zip ws⟩ (ps.zip (g us ws))
  rel : ∀ {vs : List V} {us : List Value} {zs : List V} {ws : List Value}, Vals vs us → Vals zs ws → Vals (gV vs zs) (g us ws)
def tCallK (sp : Sp) (gV : List V → List V → List V) (E : XK) (t tk : TA) : TE := fun σ H Q => t σ H fun vs H1 => tk σ H1 fun zs H2 => sp (gV vs zs) H2 Q E
variable {g : List Value → List Value → List Value} {gV : List V → List V → List V}
theorem run_fnk {pins : List (Addr × Obj)} {σ : St} {H : Hp} {s : Shared} {Q : VK} {us ws : List Value} {vs zs : List V} (F : FnOk X.prog X.w X.K X.mg X.base CX k f fd ps sp) (hr : Room k X.A) (hb : KBinds X.K fd ps ks g gV) (hx : Passes CX X E)
    (I : Inv X pins σ H s) (r : Vals vs us) (rz : Vals zs ws) (h : sp (gV vs zs) H Q E) : wpAny (model X.prog X.w) X.A (call (.ref f) us (ks.zip ws)) (EP X pins σ Q) X.xe s := by
  have r2 := hb.rel r rz
  have hl : (g us ws).length = ps.length := by rw [← r2.length]; exact F.len _ _ _ _ h
  refine wpAny_call (codeAny_mono (F.run X.A X.stack s H ⟨us, ks.zip ws⟩ (g us ws) (gV vs zs) Q E hr I.env0 (hb.to s us ws I.kIn hl) r2 h) fun r s' hq => ?_)
  cases r with
  | error e => exact hx pins σ H s e s' I hq
  | ok fl =>
    cases fl with
    | ret u => exact I.after hq
    | next => exact False.elim hq
    | brk => exact False.elim hq
    | cont => exact False.elim hq
/-- f(e, .., k = v, ..) -/
theorem pe_callK (F : FnOk X.prog X.w X.K X.mg X.base CX k f fd ps sp) (hr : Room k X.A) (hg : Gl X x) (hm : X.mg x = some (.ref f)) (hk : PySem.W.keepIn X.K (.ref f) = true) (hb : KBinds X.K fd ps ks g gV) (hx : Passes CX X E)
    (ha : PA X (e :: es) t) (hkw : PK X kws tk) (hall : (backToKw pos (keywordEach kws X.env)).all (·.1.isSome) = true := by rfl) (hks : (backToKw pos (keywordEach kws X.env)).filterMap (·.1) = ks := by rfl)
    (hdb : (x == ("__debug__" : Str)) = false := by decide) (he : starEach (e :: es) X.env = (false, eval e X.env) :: starEach es X.env := by rfl)
    (hpl : ((backTo pos (starEach (e :: es) X.env)).any (·.1) || (backToKw pos (keywordEach kws X.env)).any (·.1.isNone)) = false := by rfl) :
    PE X (.Call (.Name x p) (e :: es) kws pos) (tCallK sp gV E t tk) := by
  intro pins s σ H Q I h
  refine wpAny_Call_Name_kw (ld_glob I hg hm ?_ hdb)
  refine PySem.W.callWith_KW (h₀ := X.base) I.ok.mod.kin hk hall (thn (ha pos pins s σ H _ I h) fun us s1 ⟨vs, H1, I1, r, q⟩ => ?_) hpl he
  refine thn (hkw pos pins s1 σ H1 _ I1 q) fun ws s2 ⟨zs, H2, I2, rz, q2⟩ => ⟨I2.kIn, ?_⟩
  rw [hks]
  exact run_fnk F hr hb hx I2 r rz q2
end

/-! ### a def's body keeps its promise -/
/-- names: the parameters first -/
structure FnScope (N P : List Str) (sc : Scope) : Prop where
  kind : sc.kind = .function
  co : sc.isCoroutine = false
  gen : sc.isGenerator = false
  nd : N.Nodup
  pre : N.take P.length = P
  par : ∀ x ∈ P, sc.names.lookup x = some .local ∨ sc.names.lookup x = some .cell
  nofree : ∀ y ∈ sc.names, y.2 ≠ .free

theorem bindL_out {kindOf : Str → Option NameKind} {x : Str} : ∀ {binds : List (Str × Value)} {m : Str → Option Value}, (∀ v, (x, v) ∉ binds) → bindL kindOf binds m x = m x
  | [], _, _ => rfl
  | (n, v) :: r, m, h => by
    unfold bindL
    rw [bindL_out fun w hw => h w (List.mem_cons_of_mem _ hw)]
    split
    · have : x ≠ n := by rintro rfl; exact h v List.mem_cons_self
      simp [this]
    · rfl
theorem bindC_out {kindOf : Str → Option NameKind} {x : Str} : ∀ {binds : List (Str × Value)} {m : Str → Option Value}, (∀ v, (x, v) ∉ binds) → bindC kindOf binds m x = m x
  | [], _, _ => rfl
  | (n, v) :: r, m, h => by
    unfold bindC
    rw [bindC_out fun w hw => h w (List.mem_cons_of_mem _ hw)]
    split
    · rfl
    · have : x ≠ n := by rintro rfl; exact h v List.mem_cons_self
      simp [this]
theorem bindL_get {kindOf : Str → Option NameKind} {x : Str} {v : Value} : ∀ {P : List Str} {vs : List Value} {i : Nat} {m : Str → Option Value}, P.Nodup → P[i]? = some x → vs[i]? = some v → kindOf x = some .local →
    bindL kindOf (P.zip vs) m x = some v
  | [], _, _, _, _, h, _, _ => by simp at h
  | _ :: _, [], _, _, _, _, h, _ => by simp at h
  | p :: P, w :: vs, 0, m, nd, h1, h2, hk => by
    simp at h1 h2; subst h1; subst h2
    show bindL kindOf ((p, w) :: P.zip vs) m p = _
    unfold bindL
    rw [bindL_out fun v hv => (List.nodup_cons.mp nd).1 (List.of_mem_zip hv).1, if_pos hk]
    simp
  | p :: P, w :: vs, i + 1, m, nd, h1, h2, hk => by
    show bindL kindOf ((p, w) :: P.zip vs) m x = _
    unfold bindL
    exact bindL_get (i := i) (List.nodup_cons.mp nd).2 (by simpa using h1) (by simpa using h2) hk
theorem bindC_get {kindOf : Str → Option NameKind} {x : Str} {v : Value} : ∀ {P : List Str} {vs : List Value} {i : Nat} {m : Str → Option Value}, P.Nodup → P[i]? = some x → vs[i]? = some v → kindOf x ≠ some .local →
    bindC kindOf (P.zip vs) m x = some v
  | [], _, _, _, _, h, _, _ => by simp at h
  | _ :: _, [], _, _, _, _, h, _ => by simp at h
  | p :: P, w :: vs, 0, m, nd, h1, h2, hk => by
    simp at h1 h2; subst h1; subst h2
    show bindC kindOf ((p, w) :: P.zip vs) m p = _
    unfold bindC
    rw [bindC_out fun v hv => (List.nodup_cons.mp nd).1 (List.of_mem_zip hv).1, if_neg hk]
    simp
  | p :: P, w :: vs, i + 1, m, nd, h1, h2, hk => by
    show bindC kindOf ((p, w) :: P.zip vs) m x = _
    unfold bindC
    exact bindC_get (i := i) (List.nodup_cons.mp nd).2 (by simpa using h1) (by simpa using h2) hk

/-- the names' values at the entry -/
def start (N : List Str) (vs : List V) : St := vs.map some ++ List.replicate (N.length - vs.length) none

/-- the context of a def's body, at its entry; an exception leaves the frame, then lies as CX says -/
def cxOf (CX : CXT) (P : Program) (w : World) (K : PySem.W.Frag) (mg : Str → Option Value) (base : Heap) (N : List Str) (qual : Str) (scope : Scope) (f : Addr) (cd : Value) (A : Around) (outer : List Env) (s : Shared) (H : Hp) (E : XK) : Cx where
  prog := P
  w := w
  K := K
  mg := mg
  base := base
  A := A.deeper (envOfC qual scope s.heap.objs.size f cd)
  N := N
  s₀ := s
  H₀ := H
  env := envOfC qual scope s.heap.objs.size f cd
  outer := outer
  stack := envOfC qual scope s.heap.objs.size f cd :: outer
  ex := []
  calm := true
  fn := fun _ => true
  pn := []
  xe := fun e s' => wpAny (model P w) (A.deeper (envOfC qual scope s.heap.objs.size f cd)) (leaving (envOfC qual scope s.heap.objs.size f cd) e) (fun _ s'' => CX outer H s E e s'') (fun e' s'' => CX outer H s E e' s'') s'

theorem cell_has {sc : Scope} {n : Nat} {x : Str} (h : sc.names.lookup x = some .cell) : ∃ c, (cellsFrom n sc.names []).lookup x = some c := by
  have q := PySem.W.cellsFrom_some sc.names n [] (.inl h)
  exact Option.isSome_iff_exists.mp q

theorem inv_start {CX : CXT} {P : Program} {w : World} {K : PySem.W.Frag} {mg : Str → Option Value} {base : Heap} {N ps : List Str} {qual : Str} {scope : Scope} {f : Addr} {cd : Value} {A : Around} {outer : List Env} {s s1 : Shared} {H : Hp} {E : XK} {us : List Value} {vs : List V}
    (S : FnScope N ps scope) (hd : A.handled = none) (e0 : Env0 P w K mg base A outer s H) (hl : vs.length = ps.length) (r : Vals vs us)
    (x : InCallC s s.heap.objs.size (bindL (envOfC qual scope s.heap.objs.size f cd).kindOf (ps.zip us) fun _ => none) (cellsFrom (s.heap.objs.size + 1) scope.names []) (bindC (envOfC qual scope s.heap.objs.size f cd).kindOf (ps.zip us) fun _ => none) s1) :
    Inv (cxOf CX P w K mg base N qual scope f cd A outer s H E) [] (start N vs) H s1 := by
  have hpl : ps.length ≤ N.length := by have := congrArg List.length S.pre; rw [List.length_take] at this; omega
  obtain ⟨h1, tk, rfl, hk⟩ := x.done
  have noA : ∀ b : Addr, b ∉ (cxOf CX P w K mg base N qual scope f cd A outer s H E).ex := fun b z => absurd (show b ∈ ([] : List Addr) from z) (by simp)
  refine ⟨⟨e0.mod, S.kind, rfl, rfl, Nat.le_refl _, fun y z c h1 h2 => ?_, fun y hy => ?_, fun y c _ h => ?_, fun _ => hd, Around.frames_deeper e0.frames, .inr ⟨rfl, rfl⟩, fun b z => absurd z (noA b), e0.bs, e0.bsz, fun b _ _ => noA b, fun b z => absurd z (noA b), e0.funs, e0.frf⟩,
    rfl, e0.bare, Un.kept hk, ⟨_, x.toInCall.ns, fun i y v h1 h2 h3 => ?_⟩, fun y c h => ⟨_, x.cell y c h⟩, e0.hok.fresh (Nat.le_refl _), fun y c h => ?_, fun p hp => absurd (show p ∈ ([] : List (Addr × Obj)) from hp) (by simp), e0.hok.kept hk, ?_⟩
  · exact name_of_addr x.apart (PySem.mem_of_lookup h1) (PySem.mem_of_lookup h2)
  · have hy : scope.names.lookup y = some .cell ∨ scope.names.lookup y = some .free := hy
    rcases hy with hy | hy
    · exact cell_has hy
    · exact absurd rfl (S.nofree _ (PySem.mem_of_lookup hy))
  · exact Nat.le_of_lt (x.above y c (PySem.mem_of_lookup h))
  · have hi : i < vs.length := by
      unfold start at h2
      by_cases hi : i < vs.length
      · exact hi
      · rw [List.getElem?_append_right (by simpa using hi)] at h2
        rw [List.getElem?_replicate] at h2
        split at h2 <;> cases h2
    have ha : vs[i]? = some v := by
      unfold start at h2
      rw [List.getElem?_append_left (by simpa using hi), List.getElem?_map] at h2
      cases e : vs[i]? with
      | none => rw [e] at h2; cases h2
      | some a => rw [e] at h2; cases h2; rfl
    obtain ⟨u, hu, rv⟩ := r.get ha
    have hp : ps[i]? = some y := by
      rw [← S.pre, List.getElem?_take_of_lt (by omega)]; exact h1
    have ndP : ps.Nodup := by rw [← S.pre]; exact S.nd.sublist (List.take_sublist _ _)
    refine ⟨u, rv, ?_⟩
    rcases S.par y (List.mem_of_getElem? hp) with k | k
    · exact .inl ⟨k, bindL_get ndP hp hu k⟩
    · obtain ⟨c, e⟩ := cell_has (n := s.heap.objs.size + 1) k
      refine .inr ⟨.inl k, c, e, ?_⟩
      have q := x.cell y c e
      rw [bindC_get ndP hp hu (by show scope.names.lookup y ≠ _; rw [k]; decide)] at q
      exact q
  · exact e0.hok.fresh (Nat.le_of_lt (x.above y c (PySem.mem_of_lookup h)))
  · unfold start
    show _ = N.length
    rw [List.length_append, List.length_map, List.length_replicate]
    omega

/-- THE RULE: a def (or a method) of the text, by its body. The body's reading t is chosen for each entry; it is run at the parameters' values -/
theorem fn_of {CX : CXT} {P : Program} {w : World} {K : PySem.W.Frag} {mg : Str → Option Value} {base : Heap} {k : Nat} {f : Addr} {name qual : Str} {params : Arguments} {body : List Stmt} {scope : Scope} {dV kV doc pm cdv ct oc : Value} {an od : Option Addr}
    {osl : Array (Option Value)} {N ps : List Str} {sp : Sp} (lk : K.lookup f = some ⟨oc, od, .func (PySem.W.fnOf name qual params body scope dV kV doc pm an cdv ct), osl⟩) (hcd : PySem.W.codeIn K cdv qual = true) (S : FnScope N ps scope)
    (len : ∀ vs H Q E, sp vs H Q E → vs.length = ps.length)
    (hbody : ∀ (A : Around) (outer : List Env) (s : Shared) (H : Hp) (vs : List V) (Q : VK) (E : XK), Room k (A.deeper (envOfC qual scope s.heap.objs.size f cdv)) → sp vs H Q E →
      ∃ t, PSs (cxOf CX P w K mg base N qual scope f cdv A outer s H E) body t ∧ t { nx := fun _ H' => Q .non H', rt := Q } (start N vs) H) :
    FnOk P w K mg base CX (k + 1) f (PySem.W.fnOf name qual params body scope dV kV doc pm an cdv ct) ps sp := by
  refine ⟨len, fun A outer s H args us vs Q E hr e0 hb r hsp => ?_⟩
  have hl := len _ _ _ _ hsp
  have KX : K.In s.heap := e0.mod.kin.keeps fun b o e => (e0.bs b o e).1
  have lim : s.heap.NoLimit := e0.mod.nolimit.keeps fun b o e => (e0.bs b o e).1
  have hkind : ∀ y ∈ ps.zip us, scope.names.lookup y.1 = some .local ∨ (scope.names.lookup y.1 = some .cell ∧ ((cellsFrom (s.heap.objs.size + 1) scope.names []).lookup y.1).isSome = true) := fun ⟨n, v⟩ hy => by
    rcases S.par n (List.of_mem_zip hy).1 with q | q
    · exact .inl q
    · exact .inr ⟨q, PySem.W.cellsFrom_some _ _ _ (.inl q)⟩
  refine codeAny_call_function hr.depth (KX _ _ lk) rfl S.co S.gen rfl (PySem.W.codeRec_of KX hcd) (hb _ _ _ _ ?_)
  refine wpAny_newFunctionEnv_cells S.kind hkind fun env he s1 x => ?_
  subst he
  refine ⟨lim.keeps x.toInCall.keep, codeAny_func ?_⟩
  obtain ⟨t, ht, hq⟩ := hbody A outer s H vs Q E (hr.deeper _) hsp
  have I : Inv (cxOf CX P w K mg base N qual scope f cdv A outer s H E) [] (start N vs) H s1 := inv_start S hr.hd e0 hl r x
  refine wpAny_mono (ht [] s1 (start N vs) H _ I hq) (fun fl s' hs => ?_) fun e s' hs => hs
  have fin : ∀ {σ' : St} {H' : Hp} {v : V} {u : Value}, Inv (cxOf CX P w K mg base N qual scope f cdv A outer s H E) [] σ' H' s' → RelV v u → Q v H' → CE outer P w H s Q u s' :=
    fun {σ' H' v u} J rv q => ⟨v, H', J.os, J.bare, J.base, J.hok, rv, q⟩
  cases fl with
  | ret u =>
    obtain ⟨v, σ', H', J, rv, q⟩ := hs
    exact fin J rv q
  | next =>
    obtain ⟨σ', H', J, q⟩ := hs
    exact fin (v := V.non) (u := Value.none) J rfl q
  | brk =>
    obtain ⟨_, _, _, q⟩ := hs
    exact False.elim q
  | cont =>
    obtain ⟨_, _, _, q⟩ := hs
    exact False.elim q
end L2

namespace L2
open PySem PySem.Spec PyProof.Rows
section
variable {X : Cx} {x : Str} {p pos : Pos} {e : Expr} {es : List Expr} {t : TA} {id T : String} {r : List V → Hp → VK → Prop}

def tCB (r : List V → Hp → VK → Prop) (t : TA) : TE := fun σ H Q => t σ H fun vs H1 => r vs H1 Q
/-- f(e, ..), f a built-in function -/
theorem pe_callB (hc : CallR X (.builtin id) r) (hg : Gl X x) (hm : X.mg x = none) (hv : bootBuiltins x = some (.builtin id)) (ha : PA X (e :: es) t) (hn : x ≠ "__name__" := by decide) (hdb : (x == ("__debug__" : Str)) = false := by decide)
    (he : starEach (e :: es) X.env = (false, eval e X.env) :: starEach es X.env := by rfl) (hpl : (backTo pos (starEach es X.env)).any (·.1) = false := by rfl) : PE X (.Call (.Name x p) (e :: es) [] pos) (tCB r t) := by
  intro pins s σ H Q I h
  refine wpAny_Call_Name_kw (ld_blt I hg hm hv ?_ hn hdb)
  exact PyProof.Rows.callWith_builtin1 (thn (ha pos pins s σ H _ I h) fun us s1 ⟨vs, H1, I1, r1, q1⟩ => hc pins s1 σ H1 vs us Q I1 r1 q1) he hpl
/-- T(e, ..), T a built-in type -/
theorem pe_callTy (hc : CallR X (.type T) r) (hg : Gl X x) (hm : X.mg x = none) (hv : bootBuiltins x = some (.type T)) (ha : PA X (e :: es) t) (hn : x ≠ "__name__" := by decide) (hdb : (x == ("__debug__" : Str)) = false := by decide)
    (he : starEach (e :: es) X.env = (false, eval e X.env) :: starEach es X.env := by rfl) (hpl : (backTo pos (starEach es X.env)).any (·.1) = false := by rfl) : PE X (.Call (.Name x p) (e :: es) [] pos) (tCB r t) := by
  intro pins s σ H Q I h
  refine wpAny_Call_Name_kw (ld_blt I hg hm hv ?_ hn hdb)
  exact PyProof.Rows.callWith_type1 (thn (ha pos pins s σ H _ I h) fun us s1 ⟨vs, H1, I1, r1, q1⟩ => hc pins s1 σ H1 vs us Q I1 r1 q1) he hpl
/-- T() -/
theorem pe_callTy0 (hc : CallR X (.type T) r) (hg : Gl X x) (hm : X.mg x = none) (hv : bootBuiltins x = some (.type T)) (hn : x ≠ "__name__" := by decide) (hdb : (x == ("__debug__" : Str)) = false := by decide) :
    PE X (.Call (.Name x p) [] [] pos) (tCB r tNil) := by
  intro pins s σ H Q I h
  refine wpAny_Call_Name_kw (ld_blt I hg hm hv ?_ hn hdb)
  exact PyProof.Rows.callWith_type0 (hc pins s σ H [] [] Q I .nil h)
end
end L2

namespace HT
open PySem PyProof.Rows

/-- t < u of tuples of ints -/
def lexLt : List Int → List Int → Bool
  | [], [] => false
  | [], _ :: _ => true
  | _ :: _, [] => false
  | x :: xs, y :: ys => if x = y then lexLt xs ys else decide (x < y)
theorem lexLt_cons (x y : Int) (xs ys : List Int) : lexLt (x :: xs) (y :: ys) = if x = y then lexLt xs ys else decide (x < y) := rfl
theorem lexLt_nil_nil : lexLt [] [] = false := rfl
theorem lexLt_nil_cons (y : Int) (ys : List Int) : lexLt [] (y :: ys) = true := rfl
theorem lexLt_cons_nil (x : Int) (xs : List Int) : lexLt (x :: xs) [] = false := rfl

theorem eqAt_int (A : Around) (s : Shared) (a : Int) (t : Tok) (c : Int) (u : Tok) : ∃ e, SeqAt.EqAt A s (.int a t) (.int c u) e ∧ (e = true ↔ a = c) :=
  ⟨(a == c), SeqAt.EqAt.int_int a t c u, by simp⟩
theorem rcLt_int (A : Around) (s : Shared) (a : Int) (t : Tok) (c : Int) (u : Tok) (prog : Program) (w : World) (E : Value → Shared → Prop) (Q : Value → Shared → Prop) (h : Q (.bool (decide (a < c))) s) :
    wpAny (model prog w) A (richCompare .Lt (.int a t) (.int c u)) Q E s :=
  (PyProof.Rows.lt_int h : wpAny (model prog w) A (compareOp .Lt (.int a t) (.int c u)) Q E s)

section
open PySem.SeqAt
open PySem.AutoSeq1 (wpAny_loadPart')
open PySem.MeetsSeq PySem.MeetsSeq2 PySem.MeetsSeq3

theorem tuple_lt_ints (l b : Addr) (items items2 : Array Value) (n n2 : Nat) (dd dd2 : Option Addr) (sl sl2 : Array (Option Value)) (ns ms : List Int) (hi : IntsAre items.toList ns) (hj : IntsAre items2.toList ms) :
    Meets (Builtin.«tuple.__lt__» ⟨[.ref l, .ref b], []⟩)
      (fun _ R s => s.heap.get? l = some { cls := .type "tuple", dict := dd, data := .seq items n, slots := sl } ∧ s.heap.get? b = some { cls := .type "tuple", dict := dd2, data := .seq items2 n2, slots := sl2 } ∧
        R (.ok (.ret (.bool (lexLt ns ms)))) s) :=
  .of_wp fun prog w A R s h => by
    obtain ⟨hp, g, d, tk, os⟩ := s; obtain ⟨hl, hb, h⟩ := h
    have f2 := AutoSeq1.sub_tuple_tuple
    have z1 : items.size = ns.length := by rw [← hi.length]; simp
    have z2 : items2.size = ms.length := by rw [← hj.length]; simp
    wp_walk using wpAny_loadPart' hl, wpAny_loadPart' hb, wpAny_forIn_list _ (fun rest b s' => b.1 = none ∧ s' = ⟨hp, g, d, tk, os⟩ ∧ ∃ (vs ws : List Value) (ns' ms' : List Int), rest = vs.zip ws ∧
      IntsAre vs ns' ∧ IntsAre ws ms' ∧ ns'.length + items2.size = ms'.length + items.size ∧ R (.ok (.ret (.bool (lexLt ns' ms')))) ⟨hp, g, d, tk, os⟩) _
    case turn =>
      rintro ⟨y, x⟩ rest b s' ⟨hb', rfl, vs, ws, ns', ms', hz, hvi, hwi, hlen, hR⟩
      cases hvi with
      | nil => rw [List.zip_nil_left] at hz; cases hz
      | cons a t hvi' =>
        cases hwi with
        | nil => rw [List.zip_nil_right] at hz; cases hz
        | cons c u hwi' =>
          rw [List.zip_cons_cons] at hz
          injection hz with hyx hrest
          injection hyx with hy hx
          subst hy hx
          rw [lexLt_cons] at hR
          simp only [List.length_cons] at hlen
          obtain ⟨e, he, hiff⟩ := eqAt_int A.in1 ⟨hp, g, d, tk, os⟩ a t c u
          refine wpAny_bind (he prog w _ _ ?_)
          cases e with
          | true =>
            rw [if_pos (hiff.mp rfl)] at hR
            wp_walk
            exact ⟨rfl, rfl, _, _, _, _, hrest, hvi', hwi', by omega, hR⟩
          | false =>
            rw [if_neg (fun q => absurd (hiff.mpr q) Bool.false_ne_true)] at hR
            have hri := rcLt_int A.in1 ⟨hp, g, d, tk, os⟩ a t c u prog w
            wp_walk using hri
            exact ⟨_, rfl, by simpa using hR⟩
    case fin =>
      rintro ⟨b1, b2⟩ s' ⟨hb', rfl, vs, ws, ns', ms', hz, hvi, hwi, hlen, hR⟩
      simp only at hb'
      subst hb'
      have hv : lexLt ns' ms' = decide (items.size < items2.size) := by
        cases hvi with
        | nil =>
          cases hwi with
          | nil =>
            simp only [List.length_nil] at hlen
            rw [lexLt_nil_nil]
            exact (decide_eq_false (by omega)).symm
          | cons c u hw =>
            simp only [List.length_nil, List.length_cons] at hlen
            rw [lexLt_nil_cons]
            exact (decide_eq_true (by omega)).symm
        | cons a t hv =>
          cases hwi with
          | nil =>
            simp only [List.length_nil, List.length_cons] at hlen
            rw [lexLt_cons_nil]
            exact (decide_eq_false (by omega)).symm
          | cons c u hw =>
            rw [List.zip_cons_cons] at hz
            cases hz
      rw [hv] at hR
      wp_walk
      exact ⟨_, rfl, by simpa [Builtin.Tuple.tupleCompareSizes] using hR⟩
    case h =>
      exact ⟨rfl, rfl, items.toList, items2.toList, ns, ms, rfl, hi, hj, by omega, h⟩
end

section
variable {prog : Program} {w : World} {A : Around} {E : Value → Shared → Prop} {s : Shared}

theorem lt_tupInts {l b : Addr} {items items2 : Array Value} {ns ms : List Int} {Q : Value → Shared → Prop} (hl : IsTup s.heap l items) (hb : IsTup s.heap b items2) (hi : IntsAre items.toList ns) (hj : IntsAre items2.toList ms)
    (hu : A.units < cLine) (h : Q (.bool (lexLt ns ms)) s) : wpAny (model prog w) A (compareOp .Lt (.ref l) (.ref b)) Q E s := by
  obtain ⟨⟨cls, dd, data, sl⟩, ho, hc, n, hd⟩ := id hl
  obtain ⟨⟨cls2, dd2, data2, sl2⟩, ho2, hc2, n2, hd2⟩ := id hb
  simp only at hc hd hc2 hd2
  subst hc hd hc2 hd2
  exact richCompare_meets_room (op := .Lt) ⟨_, ho, rfl⟩ ⟨_, ho2, rfl⟩ PySem.F.slot_tuple_lt PySem.F.entry_tuple_lt (PySem.F.args_tuple_lt_2 _ _) (tuple_lt_ints l b items items2 n n2 dd dd2 sl sl2 ns ms hi hj)
    ⟨ho, ho2, show Value.bool (lexLt ns ms) ≠ Value.notImplemented ∧ Q (.bool (lexLt ns ms)) s from ⟨(fun x => nomatch x), h⟩⟩ hu

/-- t + u, t not empty -/
theorem cat_tup {t b : Addr} {vs ws : List Value} {Q : Value → Shared → Prop} (ht : IsTup s.heap t vs.toArray) (hb : IsTup s.heap b ws.toArray) (hv : vs ≠ [])
    (h1 : ws = [] → Q (.ref t) s) (h2 : ws ≠ [] → Q (.ref s.heap.objs.size) { s with heap := s.heap.push { cls := .type "tuple", data := .seq (vs ++ ws).toArray } })
    (hsz : vs.length + ws.length ≤ sizeLine) : wpAny (model prog w) A (binaryOp .Add (.ref t) (.ref b)) Q E s := by
  obtain ⟨⟨cls, dd, data, sl⟩, ho, hc, n, hd⟩ := id ht
  obtain ⟨⟨cls2, dd2, data2, sl2⟩, ho2, hc2, n2, hd2⟩ := id hb
  simp only at hc hd hc2 hd2
  subst hc hd hc2 hd2
  have e : vs.toArray ++ ws.toArray = (vs ++ ws).toArray := by simp
  by_cases hw : ws = []
  · exact concat_meets ⟨_, ho, rfl⟩ ⟨_, ho2, rfl⟩ noFill_tuple_add seq_tuple_add PySem.F.slot_tuple_add PySem.F.entry_tuple_add (PySem.F.args_tuple_add_2 _ _)
      (tuple_addW1 t b vs.toArray ws.toArray n n2 dd dd2 sl sl2 (by simpa using hv) (by simp [hw])) ⟨ho, ho2, h1 hw⟩
  · refine concat_meets ⟨_, ho, rfl⟩ ⟨_, ho2, rfl⟩ noFill_tuple_add seq_tuple_add PySem.F.slot_tuple_add PySem.F.entry_tuple_add (PySem.F.args_tuple_add_2 _ _)
      (tuple_addW2 t b vs.toArray ws.toArray n n2 dd dd2 sl sl2 (by simpa using hv) (by simpa using hw) (by rw [List.size_toArray, List.size_toArray]; exact hsz)) ⟨ho, ho2, ?_⟩
    rw [e]
    exact h2 hw

/-! ### t[a:b], not the whole -/
/-- a slice's bound as a place among n (d where it is left out) -/
def sIx (n d : Nat) : Option Int → Nat
  | none => d
  | some v => if v < 0 then (v + (n : Int)).toNat else min v.toNat n
theorem sIx_none (n d : Nat) : sIx n d none = d := rfl
theorem sIx_nat (n d k : Nat) : sIx n d (some (k : Int)) = min k n := by
  show (if (k : Int) < 0 then ((k : Int) + (n : Int)).toNat else min (k : Int).toNat n) = min k n
  rw [if_neg (by omega), Int.toNat_natCast]
theorem sIx_le (n d : Nat) (hd : d ≤ n) (o : Option Int) : sIx n d o ≤ n := by
  cases o with
  | none => exact hd
  | some v =>
    show (if v < 0 then (v + (n : Int)).toNat else min v.toNat n) ≤ n
    by_cases hv : v < 0
    · rw [if_pos hv]; omega
    · rw [if_neg hv]; exact Nat.min_le_right _ _
theorem clip_eq (v : Int) (n d : Nat) : (if v < 0 then max (v + (n : Int)) 0 else min v (n : Int)) = ((sIx n d (some v) : Nat) : Int) := by
  show (if v < 0 then max (v + (n : Int)) 0 else min v (n : Int)) = (((if v < 0 then (v + (n : Int)).toNat else min v.toNat n) : Nat) : Int)
  by_cases hv : v < 0
  · simp only [if_pos hv]; omega
  · simp only [if_neg hv]; omega
theorem adjust_gen (lo hi : Option Int) (n : Nat) : Builtin.Slice.sliceAdjust lo hi 1 (n : Int) = (((sIx n 0 lo : Nat) : Int), ((sIx n n hi : Nat) : Int)) := by
  have h1 : ¬ ((1 : Int) < 0) := by omega
  unfold Builtin.Slice.sliceAdjust
  simp only [h1, if_false]
  refine Prod.ext ?_ ?_
  · cases lo with
    | none => rfl
    | some v => exact clip_eq v n 0
  · cases hi with
    | none => rfl
    | some v => exact clip_eq v n n
theorem places_gen (i j : Nat) : Builtin.Slice.slicePlaces (i : Int) (j : Int) 1 = j - i := by
  unfold Builtin.Slice.slicePlaces
  have h1 : (1 : Int) > 0 := by omega
  simp only [h1, if_true, Int.ediv_one]
  split <;> omega
theorem slicePart_ {v : Value} {o : Option Int} {Q : Option Int → Shared → Prop} (p : IsPart v o) (h : Q o s) : wpAny (model prog w) A (Builtin.Slice.slicePartIndex v) Q E s := by
  cases p with
  | none => exact slicePart_none h
  | int i t => exact slicePart_int h
theorem sliceApplied_gen {sl : Addr} {vl vu : Value} {lo hi : Option Int} {n : Nat} {Q : Int × Int × Nat → Shared → Prop} (hs : s.heap.IsSliceOf sl vl vu .none) (pl : IsPart vl lo) (pu : IsPart vu hi)
    (h : Q (((sIx n 0 lo : Nat) : Int), 1, sIx n n hi - sIx n 0 lo) s) : wpAny (model prog w) A (Builtin.Slice.sliceApplied (.ref sl) (pure (n : Int))) Q E s := by
  obtain ⟨os, hos, hcs, hds⟩ := id hs
  unfold Builtin.Slice.sliceApplied Builtin.Slice.sliceFields
  refine wpAny_bind (wpAny_bind (wpAny_field hos hds (x := vl) rfl (wpAny_bind (wpAny_field hos hds (x := vu) rfl (wpAny_bind (wpAny_field hos hds (x := .none) rfl (wpAny_pure ?_)))))))
  refine wpAny_bind (slicePart_none ?_)
  show wpAny _ _ (if ((1 : Int) == 0) = true then _ else _) _ _ s
  rw [if_neg (by decide)]
  refine wpAny_bind (slicePart_ pl (wpAny_bind (slicePart_ pu (wpAny_bind (wpAny_pure ?_)))))
  show wpAny _ _ (match Builtin.Slice.sliceAdjust lo hi 1 (n : Int) with | (lo, hi) => pure (lo, (1 : Int), Builtin.Slice.slicePlaces lo hi 1)) _ _ s
  rw [adjust_gen lo hi n]
  show wpAny _ _ (pure (((sIx n 0 lo : Nat) : Int), (1 : Int), Builtin.Slice.slicePlaces ((sIx n 0 lo : Nat) : Int) ((sIx n n hi : Nat) : Int) 1)) _ _ s
  rw [places_gen]
  exact wpAny_pure h
theorem pick_gen (xs : Array Value) (i k : Nat) : ((List.range k).filterMap fun (m : Nat) => xs[((i : Int) + (m : Int) * 1).toNat]?).toArray = ((xs.toList.drop i).take k).toArray := by
  have e : (fun (m : Nat) => xs[((i : Int) + (m : Int) * 1).toNat]?) = fun m => xs[i + m]? := by
    funext m
    have : ((i : Int) + (m : Int) * 1).toNat = i + m := by omega
    rw [this]
  rw [e]
  have := pick_run xs i k
  rw [List.filterMap_map] at this
  have e2 : ((fun x => xs[x]?) ∘ fun x => i + x) = fun m => xs[i + m]? := rfl
  rw [e2] at this
  rw [this]

theorem getItem_tuple_cut {t sl : Addr} {items : Array Value} {vl vu : Value} {lo hi : Option Int} {Q : Value → Shared → Prop} (ht : IsTup s.heap t items) (hs : s.heap.IsSliceOf sl vl vu .none) (pl : IsPart vl lo) (pu : IsPart vu hi)
    (hw : ¬ (sIx items.size 0 lo = 0 ∧ sIx items.size items.size hi = items.size))
    (h : Q (.ref s.heap.objs.size) { s with heap := s.heap.push { cls := .type "tuple", data := .seq ((items.toList.drop (sIx items.size 0 lo)).take (sIx items.size items.size hi - sIx items.size 0 lo)).toArray } })
    (hsz : items.size ≤ sizeLine) : wpAny (model prog w) A (getItem (.ref t) (.ref sl)) Q E s := by
  have htake : sizeOk (.seq ((items.toList.drop (sIx items.size 0 lo)).take (sIx items.size items.size hi - sIx items.size 0 lo)).toArray) := by
    show ((items.toList.drop (sIx items.size 0 lo)).take (sIx items.size items.size hi - sIx items.size 0 lo)).toArray.size ≤ sizeLine
    rw [List.size_toArray, List.length_take, List.length_drop, Array.length_toList]
    omega
  have hj : sIx items.size items.size hi ≤ items.size := sIx_le _ _ (Nat.le_refl _) hi
  obtain ⟨os, hos, hcs, hds⟩ := id hs
  have hTs : s.TypeIs (.ref sl) "slice" := ⟨os, hos, hcs⟩
  unfold getItem
  try with_reducible refine wpAny_holding ?_
  first | refine wpAny_bind (wpAny_pure ?_) | skip
  refine wpAny_bind (wpAny_sequenceKey ht.typeIs (by decide) ?_)
  refine wpAny_bind (wpAny_callSpecial?_slot (name := Str.ofString "__getitem__") ht.typeIs PyProof.Rows.slot_tuple_getitem
    (wpAny_call_entry PyProof.Rows.slot_tuple_getitem ht.typeIs entry_tuple_getitem ?_ (args_tuple_getitem _ _)))
  show wpAny _ _ (Builtin.Tuple.tupleItemsOf (.ref t) >>= _) _ _ s
  refine wpAny_bind (tupleItemsOf_ ht ?_)
  refine wpAny_bind (wpAny_typeOf hTs ?_)
  rw [if_pos (by decide)]
  refine wpAny_bind (sliceApplied_gen hs pl pu ?_)
  have hno : ¬ ((((sIx items.size 0 lo : Nat) : Int) == 0 && (1 : Int) == 1 && (sIx items.size items.size hi - sIx items.size 0 lo) == items.size) = true) := by
    intro q
    rw [Bool.and_eq_true, Bool.and_eq_true] at q
    have q1 : ((sIx items.size 0 lo : Nat) : Int) = 0 := eq_of_beq q.1.1
    have q2 : sIx items.size items.size hi - sIx items.size 0 lo = items.size := eq_of_beq q.2
    exact hw ⟨by omega, by omega⟩
  show wpAny _ _ (if (((sIx items.size 0 lo : Nat) : Int) == 0 && (1 : Int) == 1 && (sIx items.size items.size hi - sIx items.size 0 lo) == items.size) = true then _ else _) _ _ s
  rw [if_neg hno, pick_gen]
  first
    | exact wpAny_bind (m := Builtin.Tuple.tupleExact _) (wpAny_newObj_type (wpAny_pure ⟨_, rfl, wpAny_pure h⟩) htake)
    | exact wpAny_bind (m := Builtin.Tuple.tupleExact _) (wpAny_newObj_type (wpAny_bind (wpAny_pure (wpAny_pure ⟨_, rfl, wpAny_pure h⟩))) htake)
    | exact wpAny_bind (wpAny_bind (m := Builtin.Tuple.tupleExact _) (wpAny_newObj_type (wpAny_pure (wpAny_pure ⟨_, rfl, wpAny_pure h⟩)) htake))
    | exact wpAny_bind (wpAny_bind (m := Builtin.Tuple.tupleExact _) (wpAny_newObj_type (wpAny_pure ⟨_, rfl, wpAny_pure h⟩) htake))
end
end HT

namespace L2
open PySem PySem.Spec PyProof.Rows

/-! ### the parts of a slice -/
abbrev TO := St → Hp → (Option Int → Hp → Prop) → Prop
/-- a slice's part (left out, or an int) -/
def PO (X : Cx) (e : Option Expr) (t : TO) : Prop :=
  ∀ (pins : List (Addr × Obj)) (s : Shared) (σ : St) (H : Hp) (Q : Option Int → Hp → Prop), Inv X pins σ H s → t σ H Q →
    wpAny (model X.prog X.w) X.A (evalPart e X.env) (fun u s' => ∃ o H', Inv X pins σ H' s' ∧ IsPart u o ∧ Q o H') X.xe s
def tNoPart : TO := fun _ H Q => Q none H
def tPart (t : TE) : TO := fun σ H Q => t σ H fun x H1 => ∃ i, x = .int i ∧ Q (some i) H1

theorem intsAre_of {ns : List Int} : ∀ {us : List Value}, Vals (ns.map V.int) us → IntsAre us ns := by
  induction ns with
  | nil => intro us r; rw [List.map_nil] at r; cases r; exact .nil
  | cons n ns ih =>
    intro us r
    rw [List.map_cons] at r
    cases r with
    | cons r1 r2 =>
      obtain ⟨t, e⟩ := r1
      subst e
      exact .cons n t (ih r2)

section
variable {X : Cx} {e : Expr} {te : TE} {lo hi : Option Expr} {tl th : TO} {pos p2 : Pos}

theorem po_none : PO X none tNoPart := by
  intro pins s σ H Q I h
  rw [evalPart_none]
  exact wpAny_pure ⟨none, H, I, .none, h⟩
theorem po_some (h : PE X e te) : PO X (some e) (tPart te) := by
  intro pins s σ H Q I hw
  rw [evalPart_some]
  refine thn (h pins s σ H _ I hw) fun u s1 ⟨x, H1, I1, r1, q1⟩ => ?_
  obtain ⟨i, rfl, q⟩ := q1
  obtain ⟨t, rfl⟩ := r1
  exact ⟨some i, H1, I1, .int i t, q⟩

/-- what a slice of a value is, by values: the slice object stands at sl -/
def SlR (X : Cx) (r : V → Option Int → Option Int → Hp → VK → Prop) : Prop :=
  ∀ (pins : List (Addr × Obj)) (s : Shared) (σ : St) (H : Hp) (x : V) (v vl vu : Value) (lo hi : Option Int) (sl : Addr) (Q : VK), Inv X pins σ H s → RelV x v → s.heap.IsSliceOf sl vl vu .none → IsPart vl lo → IsPart vu hi → r x lo hi H Q →
    ∃ T id, typeLookup (.type T) "__getitem__" = pure (some (.builtin id)) ∧ s.TypeIs v T ∧ wpAny (model X.prog X.w) X.A (getItem v (.ref sl)) (EP X pins σ Q) X.xe s
theorem SlR.or {r r' : V → Option Int → Option Int → Hp → VK → Prop} (h : SlR X r) (h' : SlR X r') : SlR X (fun x lo hi H Q => r x lo hi H Q ∨ r' x lo hi H Q) := by
  intro pins s σ H x v vl vu lo hi sl Q I rx hs pl pu q
  rcases q with q | q
  · exact h pins s σ H x v vl vu lo hi sl Q I rx hs pl pu q
  · exact h' pins s σ H x v vl vu lo hi sl Q I rx hs pl pu q
def tSl (r : V → Option Int → Option Int → Hp → VK → Prop) (te : TE) (tl th : TO) : TE := fun σ H Q => te σ H fun x H1 => tl σ H1 fun l H2 => th σ H2 fun u H3 => r x l u H3 Q
/-- a[lo:hi], any a -/
theorem pe_slice {r : V → Option Int → Option Int → Hp → VK → Prop} (hr : SlR X r) (he : PE X e te) (hl : PO X lo tl) (hu : PO X hi th) : PE X (.Subscript e (.Slice lo hi none p2) pos) (tSl r te tl th) := by
  intro pins s σ H Q I h
  refine Subscript_ (thn (he pins s σ H _ I h) fun v s1 ⟨x, H1, I1, r1, q1⟩ => ?_)
  refine wpAny_Slice (thn (hl pins s1 σ H1 _ I1 q1) fun vl s2 ⟨l, H2, I2, pl, q2⟩ => thn (hu pins s2 σ H2 _ I2 q2) fun vu s3 ⟨u, H3, I3, pu, q3⟩ => ?_)
  rw [evalPart_none]
  refine wpAny_pure ?_
  have I4 : Inv X pins σ H3 { s3 with heap := s3.heap.push { cls := .type "slice", data := .fields #[vl, vu, .none] } } := I3.kept (t' := s3.toks) fun b ob q => Heap.get?_push_of_some _ q
  obtain ⟨T, id, hT, ht, hg⟩ := hr pins { s3 with heap := s3.heap.push { cls := .type "slice", data := .fields #[vl, vu, .none] } } σ H3 x v vl vu l u s3.heap.objs.size Q I4 r1 (Heap.IsSliceOf.new ..) pl pu q3
  show wpAny (model X.prog X.w) X.A (subscriptTail e (.Slice lo hi none p2) v (.ref s3.heap.objs.size)) (EP X pins σ Q) X.xe { s3 with heap := s3.heap.push { cls := .type "slice", data := .fields #[vl, vu, .none] } }
  exact tail_any (ops := [.ref s3.heap.objs.size, v]) ht hT hg (by with_unfolding_all rfl)

/-- the items of xs[lo:hi] -/
def cutV (xs : List V) (lo hi : Option Int) : List V := (xs.drop (HT.sIx xs.length 0 lo)).take (HT.sIx xs.length xs.length hi - HT.sIx xs.length 0 lo)
theorem cutV_length (xs : List V) (lo hi : Option Int) : (cutV xs lo hi).length ≤ xs.length := by
  unfold cutV
  rw [List.length_take, List.length_drop]
  omega
/-- t[lo:hi], not the whole of it (the whole would be t itself) -/
def rSlT (K : PySem.W.Frag) : V → Option Int → Option Int → Hp → VK → Prop := fun x lo hi H Q => ∃ a xs, x = .ref a ∧ SqT K H a xs ∧
  ¬ (HT.sIx xs.length 0 lo = 0 ∧ HT.sIx xs.length xs.length hi = xs.length) ∧ ∀ p, H p = none → Q (.ref p) (upd H p (.tup (cutV xs lo hi)))
theorem sl_tup : SlR X (rSlT X.K) := by
  intro pins s σ H x v vl vu lo hi sl Q I rx hs pl pu h
  obtain ⟨a, xs, rfl, hx, hw, q⟩ := h
  cases rx
  obtain ⟨its, r, ht, hz⟩ := I.tuple hx
  have hlen : its.toArray.size = xs.length := by rw [List.size_toArray]; exact r.length.symm
  refine ⟨"tuple", _, PyProof.Rows.slot_tuple_getitem.lookup, ht.typeIs, ?_⟩
  refine HT.getItem_tuple_cut ht hs pl pu (by rw [hlen]; exact hw) ?_ (by rw [hlen]; exact hz)
  rw [hlen]
  refine ⟨.ref s.heap.objs.size, _, I.laid (t' := s.toks) (o := .tup (cutV xs lo hi)) (fun b ob q => Heap.get?_push_of_some _ q) (Nat.le_refl _) ?_, rfl, q _ (I.hok.fresh (Nat.le_refl _))⟩
  exact ⟨Nat.le_trans (cutV_length xs lo hi) hz, _, (r.drop (HT.sIx xs.length 0 lo)).take (HT.sIx xs.length xs.length hi - HT.sIx xs.length 0 lo), IsTup.new _ _⟩

/-! ### t < u, t + u -/
def rLtT (K : PySem.W.Frag) : R2 := fun x y H Q => ∃ a b ns ms, x = .ref a ∧ y = .ref b ∧ SqT K H a (ns.map V.int) ∧ SqT K H b (ms.map V.int) ∧ Q (.bl (HT.lexLt ns ms)) H
theorem op_ltT (hu : X.A.units < cLine) : OpR X (compareOp .Lt) (rLtT X.K) := by
  intro pins s σ H x y v u Q I rx ry h
  obtain ⟨a, b, ns, ms, rfl, rfl, ha, hb, q⟩ := h
  cases rx
  cases ry
  obtain ⟨its, r1, p1, _⟩ := I.tuple ha
  obtain ⟨its2, r2, p2, _⟩ := I.tuple hb
  have i1 : IntsAre its.toArray.toList ns := intsAre_of r1
  have i2 : IntsAre its2.toArray.toList ms := intsAre_of r2
  exact HT.lt_tupInts p1 p2 i1 i2 hu ⟨.bl (HT.lexLt ns ms), H, I, rfl, q⟩
/-- t + u, t not empty: u empty gives t itself -/
def rCatT (K : PySem.W.Frag) : R2 := fun x y H Q => ∃ a b xs ys, x = .ref a ∧ y = .ref b ∧ SqT K H a xs ∧ SqT K H b ys ∧ xs ≠ [] ∧ xs.length + ys.length ≤ sizeLine ∧
  (ys = [] → Q (.ref a) H) ∧ (ys ≠ [] → ∀ p, H p = none → Q (.ref p) (upd H p (.tup (xs ++ ys))))
theorem Vals.nil_iff {xs : List V} {us : List Value} (r : Vals xs us) : us = [] ↔ xs = [] := by
  cases r with
  | nil => simp
  | cons _ _ => simp
theorem op_catT : OpR X (binaryOp .Add) (rCatT X.K) := by
  intro pins s σ H x y v u Q I rx ry h
  obtain ⟨a, b, xs, ys, rfl, rfl, ha, hb, hx, hz, q1, q2⟩ := h
  cases rx
  cases ry
  obtain ⟨its, r1, p1, _⟩ := I.tuple ha
  obtain ⟨its2, r2, p2, _⟩ := I.tuple hb
  refine HT.cat_tup p1 p2 (fun z => hx (r1.nil_iff.mp z)) (fun z => ⟨.ref a, H, I, rfl, q1 (r2.nil_iff.mp z)⟩) (fun z => ?_) (by rw [← r1.length, ← r2.length]; exact hz)
  refine ⟨.ref s.heap.objs.size, _, I.laid (t' := s.toks) (o := .tup (xs ++ ys)) (fun b ob q => Heap.get?_push_of_some _ q) (Nat.le_refl _) ?_, rfl, q2 (fun w => z (r2.nil_iff.mpr w)) _ (I.hok.fresh (Nat.le_refl _))⟩
  exact ⟨by rw [List.length_append]; exact hz, _, r1.append r2, IsTup.new _ _⟩
/-- tuple(t) -/
theorem call_tupleT : CallR X (.type "tuple") (fun xs H Q => ∃ a ys, xs = [.ref a] ∧ SqT X.K H a ys ∧ Q (.ref a) H) := by
  intro pins s σ H xs us Q I r h
  obtain ⟨a, ys, rfl, ha, q⟩ := h
  obtain ⟨u, rfl, ru⟩ := vals1 r
  cases ru
  obtain ⟨its, _, p1, _⟩ := I.tuple ha
  exact call_tuple_same (items := its.toArray) p1 ⟨.ref a, H, I, rfl, q⟩
end
end L2

namespace L2
open PySem PySem.Spec PyProof.Rows

/-! ### places -/
/-- the place that an index of any sign means -/
def ixN (n : Nat) (i : Int) : Option Nat := if 0 ≤ i then (if i < n then some i.toNat else none) else if -(n : Int) ≤ i then some (i + n).toNat else none
def atI {α : Type} (xs : List α) (i : Int) : Option α := (ixN xs.length i).bind fun j => xs[j]?
theorem ixN_seq {n : Nat} {i : Int} {j : Nat} (h : ixN n i = some j) : seqIndex? i n = some j ∧ j < n ∧ -(n : Int) ≤ i ∧ i < n := by
  unfold ixN at h
  by_cases h0 : 0 ≤ i
  · rw [if_pos h0] at h
    by_cases h1 : i < n
    · rw [if_pos h1] at h
      have e : i.toNat = j := Option.some.inj h
      exact ⟨by rw [seqIndex_of h0 h1, e], by omega, by omega, h1⟩
    · rw [if_neg h1] at h; cases h
  · rw [if_neg h0] at h
    by_cases h1 : -(n : Int) ≤ i
    · rw [if_pos h1] at h
      have e : (i + n).toNat = j := Option.some.inj h
      exact ⟨by rw [seqIndex_neg (by omega) h1, e], by omega, h1, by omega⟩
    · rw [if_neg h1] at h; cases h
theorem atI_get {α : Type} {xs : List α} {i : Int} {v : α} (h : atI xs i = some v) : ∃ j, seqIndex? i xs.length = some j ∧ xs[j]? = some v ∧ j < xs.length ∧ -(xs.length : Int) ≤ i ∧ i < xs.length := by
  unfold atI at h
  cases e : ixN xs.length i with
  | none => rw [e] at h; cases h
  | some j =>
    rw [e] at h
    obtain ⟨h1, h2, h3, h4⟩ := ixN_seq e
    exact ⟨j, h1, h, h2, h3, h4⟩
theorem atI_nat {α : Type} {xs : List α} {j : Nat} {v : α} (h : xs[j]? = some v) : atI xs (j : Int) = some v := by
  have hj : j < xs.length := (List.getElem?_eq_some_iff.mp h).1
  have e : ixN xs.length (j : Int) = some j := by
    unfold ixN
    rw [if_pos (by omega), if_pos (by omega)]; simp
  unfold atI; rw [e]; exact h
theorem atI_last {α : Type} (xs : List α) (v : α) : atI (xs ++ [v]) (-1) = some v := by
  have hl : (xs ++ [v]).length = xs.length + 1 := by simp
  have e : ixN (xs ++ [v]).length (-1) = some xs.length := by
    unfold ixN
    rw [hl, if_neg (by decide), if_pos (by omega)]
    congr 1
    omega
  unfold atI
  rw [e]
  show (xs ++ [v])[xs.length]? = some v
  simp

/-! ### what may be subscripted -/
/-- what stands as an index of a plain subscript -/
def PlainIx (b : Expr) : Prop := ∀ o i, subscripted b false o i = operate [o, i] (getItem o i)
/-- a subscript by values -/
def IxR (X : Cx) (r : R2) : Prop :=
  ∀ (value slice : Expr) (pins : List (Addr × Obj)) (s : Shared) (σ : St) (H : Hp) (x y : V) (v u : Value) (Q : VK), Inv X pins σ H s → RelV x v → RelV y u → r x y H Q →
    subscripted slice false v u = operate [v, u] (getItem v u) → wpAny (model X.prog X.w) X.A (subscriptTail value slice v u) (EP X pins σ Q) X.xe s
/-- a call of a builtin's method by values: the receiver, the arguments -/
def MtR (X : Cx) (id : String) (r : V → List V → Hp → VK → Prop) : Prop :=
  ∀ (pins : List (Addr × Obj)) (s : Shared) (σ : St) (H : Hp) (x : V) (xs : List V) (v : Value) (us : List Value) (Q : VK), Inv X pins σ H s → RelV x v → Vals xs us → r x xs H Q →
    wpAny (model X.prog X.w) X.A (call (.builtin id) (v :: us)) (EP X pins σ Q) X.xe s
section
variable {X : Cx} {a b : Expr} {ta tb : TE} {pos : Pos}
theorem IxR.or {r r' : R2} (h : IxR X r) (h' : IxR X r') : IxR X (fun x y H Q => r x y H Q ∨ r' x y H Q) := by
  intro value slice pins s σ H x y v u Q I rx ry q hs
  rcases q with q | q
  · exact h value slice pins s σ H x y v u Q I rx ry q hs
  · exact h' value slice pins s σ H x y v u Q I rx ry q hs
theorem MtR.or {id : String} {r r' : V → List V → Hp → VK → Prop} (h : MtR X id r) (h' : MtR X id r') : MtR X id (fun x xs H Q => r x xs H Q ∨ r' x xs H Q) := by
  intro pins s σ H x xs v us Q I rx rs q
  rcases q with q | q
  · exact h pins s σ H x xs v us Q I rx rs q
  · exact h' pins s σ H x xs v us Q I rx rs q
/-- a[b] -/
theorem pe_ix {r : R2} (hr : IxR X r) (ha : PE X a ta) (hb : PE X b tb) (hs : PlainIx b) : PE X (.Subscript a b pos) (tOp r ta tb) := by
  intro pins s σ H Q I h
  exact Subscript_ (binT ha hb I h fun v u s2 x y H2 I2 rx ry q => hr a b pins s2 σ H2 x y v u Q I2 rx ry q (hs _ _))

def rIxL (K : PySem.W.Frag) : R2 := fun x y H Q => ∃ p xs i v, x = .ref p ∧ y = .int i ∧ SqL K H p xs ∧ atI xs i = some v ∧ Q v H
def rIxT (K : PySem.W.Frag) : R2 := fun x y H Q => ∃ p xs i v, x = .ref p ∧ y = .int i ∧ SqT K H p xs ∧ atI xs i = some v ∧ Q v H
def rIxS : R2 := fun x y H Q => ∃ z i c, x = .str z ∧ y = .int i ∧ z.length ≤ sizeLine ∧ atI z.cps.toList i = some c ∧ Q (.str ⟨#[c]⟩) H
theorem ix_list : IxR X (rIxL X.K) := by
  intro value slice pins s σ H x y v u Q I rx ry h hs
  obtain ⟨p, xs, i, z, rfl, rfl, hq, he, q⟩ := h
  cases rx
  obtain ⟨t, rfl⟩ := ry
  obtain ⟨its, r, pl, hz⟩ := I.list hq
  obtain ⟨j, h1, h2, h3, h4, h5⟩ := atI_get he
  obtain ⟨w, ew, rw'⟩ := r.get h2
  have hl := r.length
  have hn := line63
  have fin : EP X pins σ Q w s := ⟨z, H, I, rw', q⟩
  by_cases h0 : 0 ≤ i
  · have hj : i.toNat = j := by
      rw [seqIndex_of h0 h5] at h1
      exact Option.some.inj h1
    exact item_listR pl.isList h0 (by omega) (by rw [hj]; simpa using ew) fin hs
  · have hj : (i + (its.toArray.size : Int)).toNat = j := by
      rw [seqIndex_neg (by omega) h4] at h1
      rw [List.size_toArray, ← hl]
      exact Option.some.inj h1
    exact subscriptTail_builtinR (x := w) pl.isList.typeIs slot_list_getitem.lookup
      (wpAny_getItem_list_neg (Q := fun r s' => r = w ∧ EP X pins σ Q r s') pl.isList (by omega) (by rw [List.size_toArray] <;> omega) (by omega) (by rw [hj]; simpa using ew) ⟨rfl, fin⟩) hs
theorem ix_tup : IxR X (rIxT X.K) := by
  intro value slice pins s σ H x y v u Q I rx ry h hs
  obtain ⟨p, xs, i, z, rfl, rfl, hq, he, q⟩ := h
  cases rx
  obtain ⟨t, rfl⟩ := ry
  obtain ⟨its, r, pl, hz⟩ := I.tuple hq
  obtain ⟨j, h1, h2, h3, h4, h5⟩ := atI_get he
  obtain ⟨w, ew, rw'⟩ := r.get h2
  have hl := r.length
  have hn := line63
  have fin : EP X pins σ Q w s := ⟨z, H, I, rw', q⟩
  exact subscriptTail_builtinR (x := w) pl.typeIs slot_tuple_getitem.lookup
    (getItem_tuple (j := j) (Q := fun r s' => r = w ∧ EP X pins σ Q r s') pl (by omega) (by omega) (by rw [List.size_toArray, ← hl]; exact h1) (by simpa using ew) ⟨rfl, fin⟩) hs
theorem ix_str : IxR X rIxS := by
  intro value slice pins s σ H x y v u Q I rx ry h hs
  obtain ⟨z, i, c, rfl, rfl, hz, he, q⟩ := h
  obtain ⟨t, rfl⟩ := rx
  obtain ⟨t', rfl⟩ := ry
  obtain ⟨j, h1, h2, h3, h4, h5⟩ := atI_get he
  have hl : z.cps.toList.length = z.length := by simp [Str.length]
  rw [hl] at h1 h4 h5
  have hn := line63
  exact tail_any (typeIs_str s z t) slot_str_getitem.lookup (getItem_str (c := c) (by
    have e1 : decide (i < -(2 ^ 63 : Int)) = false := decide_eq_false (by omega)
    have e2 : decide (i ≥ 2 ^ 63) = false := decide_eq_false (by omega)
    rw [e1, e2, Bool.or_false]) (by rw [h1]; simpa using h2) ⟨.str ⟨#[c]⟩, H, I.tok _, ⟨_, rfl⟩, q⟩) hs
/-- list, tuple or str -/
def rIx (K : PySem.W.Frag) : R2 := fun x y H Q => rIxL K x y H Q ∨ rIxT K x y H Q ∨ rIxS x y H Q
theorem ix_seq : IxR X (rIx X.K) := ix_list.or (ix_tup.or ix_str)

/-! ### xs[i] = v, any sign -/
/-- the list's object behind a store -/
theorem mapSeq_set (its : List Value) (n j : Nat) (u : Value) : Obj.mapSeq (·.setIfInBounds j u) { cls := .type "list", data := .seq its.toArray n } = { cls := .type "list", data := .seq (its.set j u).toArray n } := by
  simp [Obj.mapSeq]
theorem Inv.lst {pins : List (Addr × Obj)} {σ : St} {H : Hp} {s : Shared} {p : Addr} {xs : List V} (I : Inv X pins σ H s) (h : H p = some (.lst xs)) :
    ∃ (its : List Value) (n : Nat), Vals xs its ∧ s.heap.get? p = some { cls := .type "list", data := .seq its.toArray n } ∧ xs.length ≤ sizeLine := by
  obtain ⟨z, its, n, r, e⟩ := I.hok p _ h
  exact ⟨its, n, r, e, z⟩
/-- the list at p is written by an update of its object -/
theorem Inv.lstUpd {pins : List (Addr × Obj)} {σ : St} {H : Hp} {s : Shared} {p : Addr} {xs ys : List V} {its its' : List Value} {n n' : Nat} {f : Obj → Obj} (I : Inv X pins σ H s) (h : H p = some (.lst xs))
    (ho : s.heap.get? p = some { cls := .type "list", data := .seq its.toArray n }) (hf : f { cls := .type "list", data := .seq its.toArray n } = { cls := .type "list", data := .seq its'.toArray n' }) (r : Vals ys its') (hz : ys.length ≤ sizeLine) (t : Nat) :
    Inv X pins σ (upd H p (.lst ys)) { s with heap := s.heap.update p f, toks := t } := by
  have e : (s.heap.update p f).get? p = some { cls := .type "list", data := .seq its'.toArray n' } := by
    rw [Heap.get?_update_self f ho (by rw [hf] <;> rfl), hf]
  refine I.write (x := p) (e := p) (by rw [h]; trivial) (.inl rfl) (fun b u hb q => (Heap.get?_update_other _ _ (Ne.symm hb)).trans q) ⟨_, e⟩ ?_
  exact ⟨hz, its', n', r, e⟩
def rSetL : V → V → V → Hp → (Hp → Prop) → Prop := fun o i v H Q => ∃ p xs k j, o = .ref p ∧ i = .int k ∧ H p = some (.lst xs) ∧ ixN xs.length k = some j ∧ Q (upd H p (.lst (xs.set j v)))
theorem set_list : PSet X rSetL := by
  intro pins s σ H o i v ov iv u Q I ro ri rv h
  obtain ⟨p, xs, k, j, rfl, rfl, hp, hj, q⟩ := h
  cases ro
  obtain ⟨t, rfl⟩ := ri
  obtain ⟨its, n, r, ho, hz⟩ := I.lst hp
  obtain ⟨h1, h2, h3, h4⟩ := ixN_seq hj
  have hl := r.length
  have hn := line63
  have I' : Inv X pins σ (upd H p (.lst (xs.set j v))) { s with heap := s.heap.update p (Obj.mapSeq (·.setIfInBounds j u)) } :=
    I.lstUpd hp ho (mapSeq_set its n j u) (r.set rv j) (by rw [List.length_set]; exact hz) s.toks
  by_cases h0 : 0 ≤ k
  · have hk : k.toNat = j := by
      rw [seqIndex_of h0 h4] at h1
      exact Option.some.inj h1
    exact PySem.W.ki_setAt ho h0 (by omega) (by rw [List.size_toArray, ← hl]; exact h4) (by rw [hk]; exact ⟨_, I', q⟩)
  · have hk : (k + (its.toArray.size : Int)).toNat = j := by
      rw [seqIndex_neg (by omega) h3] at h1
      rw [List.size_toArray, ← hl]
      exact Option.some.inj h1
    exact PySem.W.ki_setBack ho (by omega) (by rw [List.size_toArray, ← hl]; exact h3) (by omega) (by rw [hk]; exact ⟨_, I', q⟩)

/-! ### slices -/
theorem slice_bounds (lo hi : Option Int) (n : Nat) : (sliceBounds lo hi none n).1 = ((HT.sIx n 0 lo : Nat) : Int) ∧ (sliceBounds lo hi none n).2.1 = ((HT.sIx n n hi : Nat) : Int) ∧ (sliceBounds lo hi none n).2.2 = 1 := by
  refine ⟨?_, ?_, rfl⟩
  · cases lo with
    | none => simp [sliceBounds, HT.sIx]
    | some i =>
      simp only [sliceBounds, HT.sIx, Option.getD_none, show (1 : Int) > 0 by decide, if_true]
      by_cases h : i < 0
      · simp only [h, if_true] <;> omega
      · simp only [h, if_false] <;> omega
  · cases hi with
    | none => simp [sliceBounds, HT.sIx]
    | some i =>
      simp only [sliceBounds, HT.sIx, Option.getD_none, show (1 : Int) > 0 by decide, if_true]
      by_cases h : i < 0
      · simp only [h, if_true] <;> omega
      · simp only [h, if_false] <;> omega
theorem slicePick_cut (its : List Value) (lo hi : Option Int) : slicePick its.toArray lo hi none = ((its.drop (HT.sIx its.length 0 lo)).take (HT.sIx its.length its.length hi - HT.sIx its.length 0 lo)).toArray := by
  obtain ⟨h1, h2, h3⟩ := slice_bounds lo hi its.toArray.size
  unfold slicePick
  rw [h1, h2, h3]
  simp only [sliceRange_one, pick_run, List.size_toArray] <;> rfl
/-- xs[lo:hi] of a list: a new list -/
def rSlL (K : PySem.W.Frag) : V → Option Int → Option Int → Hp → VK → Prop := fun x lo hi H Q => ∃ a xs, x = .ref a ∧ SqL K H a xs ∧ ∀ p, H p = none → Q (.ref p) (upd H p (.lst (cutV xs lo hi)))
theorem sl_list : SlR X (rSlL X.K) := by
  intro pins s σ H x v vl vu lo hi sl Q I rx hs pl pu h
  obtain ⟨a, xs, rfl, hx, q⟩ := h
  cases rx
  obtain ⟨its, r, ht, hz⟩ := I.list hx
  have hlen := r.length
  refine ⟨"list", _, slot_list_getitem.lookup, ht.isList.typeIs, ?_⟩
  refine wpAny_getItem_list_slice ht.isList hs pl pu .none (by simp) ?_ (by rw [List.size_toArray] <;> omega)
  rw [slicePick_cut, ← hlen]
  refine ⟨.ref s.heap.objs.size, _, I.laid (t' := s.toks) (o := .lst (cutV xs lo hi)) (fun b ob q => Heap.get?_push_of_some _ q) (Nat.le_refl _) ?_, rfl, q _ (I.hok.fresh (Nat.le_refl _))⟩
  exact ⟨Nat.le_trans (cutV_length xs lo hi) hz, _, 0, (r.drop (HT.sIx xs.length 0 lo)).take (HT.sIx xs.length xs.length hi - HT.sIx xs.length 0 lo), Heap.get?_push_size _ rfl⟩

/-! ### in, not in: flat items -/
def flatV : V → Bool
  | .non => true
  | .bl _ => true
  | .int _ => true
  | .str _ => true
  | _ => false
/-- == of flat values -/
def eqV : V → V → Bool
  | .non, .non => true
  | .bl a, .bl b => a == b
  | .bl a, .int b => (if a then 1 else 0) == b
  | .int a, .bl b => a == (if b then 1 else 0)
  | .int a, .int b => a == b
  | .str a, .str b => a == b
  | _, _ => false
theorem eqAt_V {A : Around} {s : Shared} {y x : V} {u v : Value} (ry : RelV y u) (rx : RelV x v) (fy : flatV y = true) (fx : flatV x = true) : SeqAt.EqAt A s u v (eqV y x) := by
  cases y with
  | non =>
    cases ry
    cases x with
    | non => cases rx; exact SeqAt.EqAt.same _
    | bl b => cases rx; exact SeqAt.EqAt.none_bool b
    | int b => obtain ⟨t, rfl⟩ := rx; exact SeqAt.EqAt.none_int b t
    | str b => obtain ⟨t, rfl⟩ := rx; exact SeqAt.EqAt.none_str b t
    | _ => exact absurd (show false = true from fx) Bool.false_ne_true
  | bl a =>
    cases ry
    cases x with
    | non => cases rx; exact SeqAt.EqAt.bool_none a
    | bl b => cases rx; exact SeqAt.EqAt.bool_bool a b
    | int b => obtain ⟨t, rfl⟩ := rx; exact SeqAt.EqAt.bool_int a b t
    | str b => obtain ⟨t, rfl⟩ := rx; exact SeqAt.EqAt.bool_str a b t
    | _ => exact absurd (show false = true from fx) Bool.false_ne_true
  | int a =>
    obtain ⟨t', rfl⟩ := ry
    cases x with
    | non => cases rx; exact SeqAt.EqAt.int_none a t'
    | bl b => cases rx; exact SeqAt.EqAt.int_bool a t' b
    | int b => obtain ⟨t, rfl⟩ := rx; exact SeqAt.EqAt.int_int a t' b t
    | str b => obtain ⟨t, rfl⟩ := rx; exact SeqAt.EqAt.int_str a t' b t
    | _ => exact absurd (show false = true from fx) Bool.false_ne_true
  | str a =>
    obtain ⟨t', rfl⟩ := ry
    cases x with
    | non => cases rx; exact SeqAt.EqAt.str_none a t'
    | bl b => cases rx; exact SeqAt.EqAt.str_bool a t' b
    | int b => obtain ⟨t, rfl⟩ := rx; exact SeqAt.EqAt.str_int a t' b t
    | str b => obtain ⟨t, rfl⟩ := rx; exact SeqAt.EqAt.str_str a t' b t
    | _ => exact absurd (show false = true from fx) Bool.false_ne_true
  | _ => exact absurd (show false = true from fy) Bool.false_ne_true
/-- the items' answers, read off the values (a value's own answer does not lean on its token) -/
def eqU (x : V) (u : Value) : Bool := match u with
  | .none => eqV .non x
  | .bool b => eqV (.bl b) x
  | .int i _ => eqV (.int i) x
  | .str z _ => eqV (.str z) x
  | _ => false
theorem eqU_of {x y : V} {u : Value} (r : RelV y u) (f : flatV y = true) : eqU x u = eqV y x := by
  cases y with
  | non => cases r; rfl
  | bl b => cases r; rfl
  | int i => obtain ⟨t, rfl⟩ := r; rfl
  | str z => obtain ⟨t, rfl⟩ := r; rfl
  | _ => exact absurd (show false = true from f) Bool.false_ne_true
theorem any_eqU {x : V} : ∀ {xs : List V} {us : List Value}, Vals xs us → xs.all flatV = true → us.any (eqU x) = xs.any fun y => eqV y x
  | _, _, .nil, _ => rfl
  | y :: xs, u :: us, .cons r t, f => by
    rw [List.all_cons, Bool.and_eq_true] at f
    rw [List.any_cons, List.any_cons, eqU_of r f.1, any_eqU t f.2]
theorem mem_eqAt {A : Around} {s : Shared} {x : V} {v : Value} (rx : RelV x v) (fx : flatV x = true) : ∀ {xs : List V} {us : List Value}, Vals xs us → xs.all flatV = true → ∀ u ∈ us, SeqAt.EqAt A s u v (eqU x u)
  | _, _, .nil, _ => fun u hu => by cases hu
  | y :: xs, u :: us, .cons r t, f => fun u' hu => by
    rw [List.all_cons, Bool.and_eq_true] at f
    rcases List.mem_cons.mp hu with rfl | hu
    · rw [eqU_of r f.1]; exact eqAt_V r rx f.1 fx
    · exact mem_eqAt rx fx t f.2 u' hu
def inV (x : V) (xs : List V) : Bool := xs.any fun y => eqV y x
/-- x in a list or tuple of flat items -/
def rIn (K : PySem.W.Frag) (neg : Bool) : R2 := fun x y H Q => ∃ p xs, y = .ref p ∧ (SqL K H p xs ∨ SqT K H p xs) ∧ flatV x = true ∧ xs.all flatV = true ∧ Q (.bl (if neg then !inV x xs else inV x xs)) H
theorem op_in_seq : OpR X (compareOp .In) (rIn X.K false) := by
  intro pins s σ H x y v u Q I rx ry h
  obtain ⟨p, xs, rfl, hq, fx, fs, q⟩ := h
  cases ry
  rcases hq with hq | hq
  · obtain ⟨its, r, pl, hz⟩ := I.list hq
    refine SeqAt.in_listAt (eqU x) pl.isList (fun w hw => mem_eqAt rx fx r fs w (by simpa using hw)) ⟨.bl _, H, I, rfl, ?_⟩
    rw [show its.toArray.any (eqU x) = its.any (eqU x) by simp, any_eqU r fs]
    exact q
  · obtain ⟨its, r, pl, hz⟩ := I.tuple hq
    refine SeqAt.in_tupleAt (eqU x) pl (fun w hw => mem_eqAt rx fx r fs w (by simpa using hw)) ⟨.bl _, H, I, rfl, ?_⟩
    rw [show its.toArray.any (eqU x) = its.any (eqU x) by simp, any_eqU r fs]
    exact q
theorem op_notIn_seq : OpR X (compareOp .NotIn) (rIn X.K true) := by
  intro pins s σ H x y v u Q I rx ry h
  obtain ⟨p, xs, rfl, hq, fx, fs, q⟩ := h
  cases ry
  rcases hq with hq | hq
  · obtain ⟨its, r, pl, hz⟩ := I.list hq
    refine SeqAt.notIn_listAt (eqU x) pl.isList (fun w hw => mem_eqAt rx fx r fs w (by simpa using hw)) ⟨.bl _, H, I, rfl, ?_⟩
    rw [show its.toArray.any (eqU x) = its.any (eqU x) by simp, any_eqU r fs]
    exact q
  · obtain ⟨its, r, pl, hz⟩ := I.tuple hq
    refine SeqAt.notIn_tupleAt (eqU x) pl (fun w hw => mem_eqAt rx fx r fs w (by simpa using hw)) ⟨.bl _, H, I, rfl, ?_⟩
    rw [show its.toArray.any (eqU x) = its.any (eqU x) by simp, any_eqU r fs]
    exact q
theorem op_notIn_str : OpR X (compareOp .NotIn) (fun x y H Q => ∃ i j, x = .str i ∧ y = .str j ∧ Q (.bl (!(!(Builtin.Str.occurrences j i 0 j.length 1).isEmpty))) H) := by
  intro pins s σ H x y v u Q I rx ry h
  obtain ⟨i, j, rfl, rfl, q⟩ := h
  obtain ⟨t, rfl⟩ := rx
  obtain ⟨t', rfl⟩ := ry
  exact notIn_str ⟨.bl _, H, I, rfl, q⟩

/-! ### len, list(x), tuple(x) of any list or tuple that is read -/
theorem call_len_seq : CallR X (.builtin "len") (fun xs H Q => ∃ p ys, xs = [.ref p] ∧ (SqL X.K H p ys ∨ SqT X.K H p ys) ∧ Q (.int ys.length) H) := by
  intro pins s σ H xs us Q I r h
  obtain ⟨p, ys, rfl, hq, q⟩ := h
  obtain ⟨u, rfl, rx⟩ := vals1 r
  cases rx
  have hn := line63
  rcases hq with hq | hq
  · obtain ⟨its, r', pl, hz⟩ := I.list hq
    have hlen := r'.length
    exact Calls.call_len_list pl.isList (by simp only [List.size_toArray] <;> omega) ⟨.int ys.length, H, I.tok _, ⟨s.toks + 1, by rw [List.size_toArray, hlen]⟩, q⟩
  · obtain ⟨its, r', pl, hz⟩ := I.tuple hq
    have hlen := r'.length
    exact len_tuple pl (by simp only [List.size_toArray] <;> omega) ⟨.int ys.length, H, I.tok _, ⟨s.toks + 1, by rw [List.size_toArray, hlen]⟩, q⟩
theorem call_len_str : CallR X (.builtin "len") (fun xs H Q => ∃ z, xs = [.str z] ∧ z.length ≤ sizeLine ∧ Q (.int z.length) H) := by
  intro pins s σ H xs us Q I r h
  obtain ⟨z, rfl, hz, q⟩ := h
  obtain ⟨u, rfl, t, rfl⟩ := vals1 r
  have hn := line63
  exact len_str (by omega) ⟨.int z.length, H, I.tok _, ⟨_, rfl⟩, q⟩
theorem CallR.or {f : Value} {r r' : List V → Hp → VK → Prop} (h : CallR X f r) (h' : CallR X f r') : CallR X f (fun xs H Q => r xs H Q ∨ r' xs H Q) := by
  intro pins s σ H xs us Q I rs q
  rcases q with q | q
  · exact h pins s σ H xs us Q I rs q
  · exact h' pins s σ H xs us Q I rs q
theorem call_list_of : CallR X (.type "list") (fun xs H Q => ∃ p ys, xs = [.ref p] ∧ (SqL X.K H p ys ∨ SqT X.K H p ys) ∧ ∀ l, H l = none → Q (.ref l) (upd H l (.lst ys))) := by
  intro pins s σ H xs us Q I r h
  obtain ⟨p, ys, rfl, hq, q⟩ := h
  obtain ⟨u, rfl, rx⟩ := vals1 r
  cases rx
  have fin : ∀ (its : List Value), Vals ys its → ys.length ≤ sizeLine → ∀ (h' : Heap) (c' : Nat), (∀ b o', s.heap.get? b = some o' → h'.get? b = some o') →
      h'.get? s.heap.objs.size = some { cls := .type "list", dict := none, data := .seq its.toArray c', slots := #[] } → EP X pins σ Q (.ref s.heap.objs.size) { s with heap := h' } := fun its r' hz h' c' kp e =>
    ⟨.ref s.heap.objs.size, _, I.laid (t' := s.toks) kp (Nat.le_refl _) (show ObjOk X.prog X.w _ h' _ (.lst ys) from ⟨hz, its, c', r', e⟩), rfl, q _ (I.hok.fresh (Nat.le_refl _))⟩
  rcases hq with hq | hq
  · obtain ⟨its, r', pl, hz⟩ := I.list hq
    have hlen := r'.length
    obtain ⟨o, ho, hc, n, hd⟩ := pl.isList
    exact call_list_seq p (.inl rfl) ho hc hd (fun h' c' kp e => fin its r' hz h' c' kp e) (by simp only [List.size_toArray] <;> omega)
  · obtain ⟨its, r', pl, hz⟩ := I.tuple hq
    have hlen := r'.length
    obtain ⟨o, ho, hc, n, hd⟩ := pl
    exact call_list_seq p (.inr rfl) ho hc hd (fun h' c' kp e => fin its r' hz h' c' kp e) (by simp only [List.size_toArray] <;> omega)
theorem call_tuple_of : CallR X (.type "tuple") (fun xs H Q => ∃ p ys, xs = [.ref p] ∧ ((SqL X.K H p ys ∧ ∀ l, H l = none → Q (.ref l) (upd H l (.tup ys))) ∨ (SqT X.K H p ys ∧ Q (.ref p) H))) := by
  intro pins s σ H xs us Q I r h
  obtain ⟨p, ys, rfl, h⟩ := h
  obtain ⟨u, rfl, rx⟩ := vals1 r
  cases rx
  rcases h with ⟨hq, q⟩ | ⟨hq, q⟩
  · obtain ⟨its, r', pl, hz⟩ := I.list hq
    have hlen := r'.length
    refine call_tuple_list pl.isList (fun h' kp => ?_) (by simp only [List.size_toArray] <;> omega)
    have I1 : Inv X pins σ H { s with heap := h' } := I.kept (t' := s.toks) kp
    have I2 : Inv X pins σ (upd H h'.objs.size (.tup ys)) { s with heap := h'.push { cls := .type "tuple", data := .seq its.toArray } } :=
      I1.laid (t' := s.toks) (fun b o e => Heap.get?_push_of_some _ e) (Nat.le_refl _) (show ObjOk X.prog X.w _ _ _ (.tup ys) from ⟨hz, its, r', IsTup.new _ _⟩)
    exact ⟨.ref h'.objs.size, _, I2, rfl, q _ (I1.hok.fresh (Nat.le_refl _))⟩
  · obtain ⟨its, r', pl, hz⟩ := I.tuple hq
    exact call_tuple_same pl ⟨.ref p, H, I, rfl, q⟩

/-! ### the call of a builtin's method: o.m(..) -/
/-- the value is of that builtin type -/
def tyV (K : PySem.W.Frag) (T : String) (x : V) (H : Hp) : Prop := match x with
  | .str _ => T = "str"
  | .int _ => T = "int"
  | .ref p => (T = "list" ∧ ∃ xs, SqL K H p xs) ∨ (T = "tuple" ∧ ∃ o, K.lookup p = some o ∧ o.cls = .type "tuple" ∧ o.dict = none) ∨
      (T = "dict" ∧ ((∃ kvs, H p = some (.dK kvs)) ∨ ∃ kvs, H p = some (.dT kvs))) ∨ (T = "set" ∧ ∃ S n, H p = some (.set S n))
  | _ => False
theorem tyV_is {pins : List (Addr × Obj)} {σ : St} {H : Hp} {s : Shared} {T : String} {x : V} {v : Value} (I : Inv X pins σ H s) (r : RelV x v) (ty : tyV X.K T x H) :
    s.TypeIs v T ∧ ∀ a, v = .ref a → ∃ ob, s.heap.get? a = some ob ∧ ob.dict = none := by
  cases x with
  | str z =>
    obtain ⟨t, rfl⟩ := r
    cases (show T = "str" from ty)
    exact ⟨typeIs_str s z t, fun _ e => nomatch e⟩
  | int i =>
    obtain ⟨t, rfl⟩ := r
    cases (show T = "int" from ty)
    exact ⟨typeIs_int s i t, fun _ e => nomatch e⟩
  | ref p =>
    cases r
    rcases ty with ⟨rfl, xs, hq⟩ | ⟨rfl, o, hk, hc, hd⟩ | ⟨rfl, hk⟩ | ⟨rfl, S, n, hk⟩
    · obtain ⟨its, _, pl, _⟩ := I.list hq
      refine ⟨pl.isList.typeIs, fun a e => ?_⟩
      cases e
      obtain ⟨o, n, e, c, hd, _⟩ := pl
      exact ⟨o, e, hd⟩
    · refine ⟨⟨o, I.kIn p o hk, hc⟩, fun a e => ?_⟩
      cases e
      exact ⟨o, I.kIn _ o hk, hd⟩
    · have z : ∃ o, s.heap.get? p = some o ∧ o.ExactDict := by
        rcases hk with ⟨kvs, hk⟩ | ⟨kvs, hk⟩
        · obtain ⟨_, _, _, _, o, _, _, e, ex, _⟩ := I.hok p _ hk
          exact ⟨o, e, ex⟩
        · obtain ⟨_, _, _, _, o, _, _, e, ex, _⟩ := I.hok p _ hk
          exact ⟨o, e, ex⟩
      obtain ⟨o, e, ex⟩ := z
      refine ⟨⟨o, e, ex.1⟩, fun a e2 => ?_⟩
      cases e2
      exact ⟨o, e, ex.2.1⟩
    · obtain ⟨o, _, _, _, e, ex, _⟩ := I.hok p _ hk
      refine ⟨⟨o, e, ex.1⟩, fun a e2 => ?_⟩
      cases e2
      exact ⟨o, e, ex.2.1⟩
  | _ => exact False.elim ty
def tBM0 (K : PySem.W.Frag) (T : String) (r : V → List V → Hp → VK → Prop) (to : TE) : TE := fun σ H Q => to σ H fun x H1 => tyV K T x H1 ∧ r x [] H1 Q
def tBM (K : PySem.W.Frag) (T : String) (r : V → List V → Hp → VK → Prop) (to : TE) (t : TA) : TE := fun σ H Q => to σ H fun x H1 => tyV K T x H1 ∧ t σ H1 fun xs H2 => r x xs H2 Q
variable {o e : Expr} {es : List Expr} {to : TE} {t : TA} {name : Str} {apos cpos : Pos} {T id : String} {r : V → List V → Hp → VK → Prop}
theorem pe_bm0 (pa : PlainAttrs T) (slot : Slot T name id) (hty : typeOf (.builtin id) = pure (.type "method_descriptor")) (hm : MtR X id r) (ho : PE X o to)
    (hbase : attributeBase o name X.env (eval o X.env) = eval o X.env := by rfl) (hline : (apos.endLine == cpos.line) = true := by rfl) : PE X (.Call (.Attribute o name apos) [] [] cpos) (tBM0 X.K T r to) := by
  intro pins s σ H Q I h
  refine wpAny_Call_method0_late hbase hline (thn (ho pins s σ H _ I h) fun v s1 ⟨x, H1, I1, r1, ty, q1⟩ => ?_)
  obtain ⟨h1, h2⟩ := tyV_is I1 r1 ty
  exact ⟨T, id, pa, slot, hty, h1, h2, Calls.callWith_builtin rfl (PySem.evalArgs_none (hm pins s1 σ H1 x [] v [] Q I1 r1 .nil q1))⟩
theorem pe_bm (pa : PlainAttrs T) (slot : Slot T name id) (hty : typeOf (.builtin id) = pure (.type "method_descriptor")) (hm : MtR X id r) (ho : PE X o to) (ha : PA X (e :: es) t)
    (hbase : attributeBase o name X.env (eval o X.env) = eval o X.env := by rfl)
    (hfew : ((backTo cpos (starEach (e :: es) X.env)).all (fun x => !x.1) && (backToKw cpos (keywordEach [] X.env)).all (fun x => x.1.isSome)
      && decide ((e :: es).length + ([] : List Keyword).length + (if ([] : List Keyword).isEmpty then 0 else 1) < 30)) = true := by rfl)
    (hline : (apos.endLine == cpos.line) = true := by rfl) (hs : starEach (e :: es) X.env = (false, eval e X.env) :: starEach es X.env := by rfl) (hplain : (backTo cpos (starEach es X.env)).any (·.1) = false := by rfl) :
    PE X (.Call (.Attribute o name apos) (e :: es) [] cpos) (tBM X.K T r to t) := by
  intro pins s σ H Q I h
  refine wpAny_Call_method_late hbase hfew hline rfl (thn (ho pins s σ H _ I h) fun v s1 ⟨x, H1, I1, r1, ty, q1⟩ => ?_)
  obtain ⟨h1, h2⟩ := tyV_is I1 r1 ty
  refine ⟨T, id, pa, slot, hty, h1, h2, ?_⟩
  have hA := ha cpos pins s1 σ H1 _ I1 q1
  rw [hs] at hA ⊢
  refine Calls.callWith_builtin (by show (false || (backTo cpos (starEach es X.env)).any (·.1)) = false; rw [hplain] <;> rfl) (Calls.evalArgs_plain ?_)
  exact thn hA fun us s2 ⟨vs, H2, I2, r2, q2⟩ => hm pins s2 σ H2 x vs v us Q I2 r1 r2 q2
/- xs.append(e), list.index on a module's tuple .. are MtR facts of 06m -/
end
end L2

namespace L2
open PySem PySem.Spec PyProof.Rows

def MtM (X : Cx) (id : String) (r : V → List V → Hp → VK → Prop) : Prop :=
  ∀ (pins : List (Addr × Obj)) (s : Shared) (σ : St) (H : Hp) (x : V) (xs : List V) (v : Value) (us : List Value) (Q : VK), Inv X pins σ H s → RelV x v → Vals xs us → r x xs H Q →
    wpAny (model X.prog X.w) X.A (call (.builtin id) (v :: us)) (EP X pins σ Q) X.xe s

/-! ### lists of values -/
theorem Vals.one : ∀ {x : V} {us : List Value}, Vals [x] us → ∃ u, us = [u] ∧ RelV x u
  | _, _, .cons r .nil => ⟨_, rfl, r⟩
theorem Vals.two : ∀ {x y : V} {us : List Value}, Vals [x, y] us → ∃ u v, us = [u, v] ∧ RelV x u ∧ RelV y v
  | _, _, _, .cons r (.cons q .nil) => ⟨_, _, rfl, r, q⟩
theorem Vals.zero : ∀ {us : List Value}, Vals [] us → us = []
  | _, .nil => rfl
theorem Vals.dropLast {xs : List V} {us : List Value} (h : Vals xs us) : Vals xs.dropLast us.dropLast := by
  induction h with
  | nil => exact .nil
  | cons r t ih =>
    cases t with
    | nil => exact .nil
    | cons q t' => exact .cons r ih
theorem Vals.eraseIdx : ∀ {xs : List V} {us : List Value} (i : Nat), Vals xs us → Vals (xs.eraseIdx i) (us.eraseIdx i)
  | _, _, _, .nil => .nil
  | _, _, 0, .cons _ t => t
  | _, _, i + 1, .cons r t => .cons r (Vals.eraseIdx i t)
theorem Vals.reverse {xs : List V} {us : List Value} (h : Vals xs us) : Vals xs.reverse us.reverse := by
  induction h with
  | nil => exact .nil
  | cons r t ih => rw [List.reverse_cons, List.reverse_cons]; exact Vals.append ih (.cons r .nil)
theorem Vals.rep {xs : List V} {us : List Value} (h : Vals xs us) : ∀ k : Nat, Vals (List.replicate k xs).flatten (List.replicate k us).flatten
  | 0 => .nil
  | k + 1 => by
    rw [List.replicate_succ, List.replicate_succ, List.flatten_cons, List.flatten_cons]
    exact Vals.append h (Vals.rep h k)
theorem erase_last {α : Type} (l : List α) : l.eraseIdx (l.length - 1) = l.dropLast := by
  induction l with
  | nil => rfl
  | cons a r ih =>
    cases r with
    | nil => rfl
    | cons b r =>
      have e : (a :: b :: r).length - 1 = ((b :: r).length - 1) + 1 := by
        have h1 : (a :: b :: r).length = r.length + 2 := rfl
        have h2 : (b :: r).length = r.length + 1 := rfl
        omega
      rw [e, List.eraseIdx_cons_succ, ih]
      all_goals rfl
theorem len_erase {α : Type} : ∀ (l : List α) (i : Nat), (l.eraseIdx i).length ≤ l.length
  | [], _ => Nat.le_refl _
  | _ :: _, 0 => Nat.le_succ _
  | _ :: r, i + 1 => Nat.succ_le_succ (len_erase r i)
theorem foldl_rep (its : List Value) : ∀ (k : Nat) (acc : List Value),
    List.foldl (fun x1 x2 => x1 ++ x2) acc.toArray (List.replicate k its.toArray) = (acc ++ (List.replicate k its).flatten).toArray
  | 0, acc => by simp
  | k + 1, acc => by
    have e : acc.toArray ++ its.toArray = (acc ++ its).toArray := by simp
    have e2 : (acc ++ its) ++ (List.replicate k its).flatten = acc ++ (List.replicate (k + 1) its).flatten := by
      rw [List.replicate_succ, List.flatten_cons, List.append_assoc]
    rw [← e2, ← foldl_rep its k (acc ++ its), ← e, List.replicate_succ, List.foldl_cons]

section
variable {X : Cx} {pins : List (Addr × Obj)} {σ : St} {H : Hp} {s : Shared} {l b : Addr} {xs ys zs : List V}

/-! ### the two steps: a tracked list is rewritten, a new list is laid -/
theorem Inv.lset {its its' : List Value} {n : Nat} {f : Array Value → Array Value} {t' : Nat} (I : Inv X pins σ H s) (hH : H l = some (.lst xs))
    (e : s.heap.get? l = some { cls := .type "list", data := .seq its.toArray n }) (hf : f its.toArray = its'.toArray) (hv : Vals ys its') (hz : ys.length ≤ sizeLine) :
    Inv X pins σ (upd H l (.lst ys)) { s with heap := s.heap.update l (Obj.mapSeq f), toks := t' } := by
  have q := PySem.IsL.update e f
  rw [hf] at q
  refine I.write (x := l) (e := l) (by rw [hH]; exact trivial) (.inl rfl) (fun b' u hb hu => (Heap.get?_update_other s.heap (Obj.mapSeq f) (Ne.symm hb)).trans hu) ⟨_, q⟩ ?_
  exact ⟨hz, its', _, hv, q⟩
theorem Inv.lnew {its : List Value} {t' : Nat} (I : Inv X pins σ H s) (hv : Vals ys its) (hz : ys.length ≤ sizeLine) :
    Inv X pins σ (upd H s.heap.objs.size (.lst ys)) { s with heap := s.heap.push { cls := .type "list", data := .seq its.toArray }, toks := t' } :=
  I.laid (fun _ _ q => Heap.get?_push_of_some _ q) (Nat.le_refl _) ⟨hz, its, 0, hv, Heap.get?_push_size _ rfl⟩
theorem Inv.fresh (I : Inv X pins σ H s) : H s.heap.objs.size = none := I.hok.fresh (Nat.le_refl _)
theorem Inv.lstM (I : Inv X pins σ H s) (hH : H l = some (.lst xs)) : xs.length ≤ sizeLine ∧ ∃ (its : List Value) (n : Nat), Vals xs its ∧ xs.length = its.length ∧ s.heap.get? l = some { cls := .type "list", data := .seq its.toArray n } := by
  obtain ⟨z, its, n, r, e⟩ := I.hok l _ hH
  exact ⟨z, its, n, r, r.length, e⟩

theorem notLongL {n : Nat} (h : n ≤ sizeLine) : Builtin.List.listTooLong n = false := by
  unfold Builtin.List.listTooLong
  exact decide_eq_false (by omega)
end

section
variable {X : Cx}

/-! ### methods -/
def rAppend : V → List V → Hp → VK → Prop := fun x vs H Q => ∃ l xs y, x = .ref l ∧ vs = [y] ∧ H l = some (.lst xs) ∧ xs.length < sizeLine ∧ Q .non (upd H l (.lst (xs ++ [y])))
theorem mt_append : MtM X "list.append" rAppend := by
  intro pins s σ H x vs v us Q I rx rv h
  obtain ⟨l, xs, y, rfl, rfl, hH, hz, q⟩ := h
  cases rx
  obtain ⟨u, rfl, ru⟩ := rv.one
  obtain ⟨z, its, n, r, hl, e⟩ := I.lstM hH
  refine call_meets F.slot_list_append ⟨_, e, rfl⟩ F.entry_list_append (F.args_list_append_2 _ _) (PySem.list_append l its.toArray n u (by rw [List.size_toArray]; omega)) ⟨e, ?_⟩
  refine ⟨.non, _, I.lset (its' := its ++ [u]) hH e (by simp) (r.append (.cons ru .nil)) ?_, rfl, q⟩
  rw [List.length_append, List.length_singleton]
  omega

def rExtend : V → List V → Hp → VK → Prop := fun x vs H Q => ∃ l b xs zs, x = .ref l ∧ vs = [.ref b] ∧ H l = some (.lst xs) ∧ H b = some (.lst zs) ∧ xs.length + zs.length ≤ sizeLine ∧ Q .non (upd H l (.lst (xs ++ zs)))
theorem mt_extend : MtM X "list.extend" rExtend := by
  intro pins s σ H x vs v us Q I rx rv h
  obtain ⟨l, b, xs, zs, rfl, rfl, hH, hB, hz, q⟩ := h
  cases rx
  obtain ⟨u, rfl, ru⟩ := rv.one
  cases ru
  obtain ⟨z, its, n, r, hl, e⟩ := I.lstM hH
  obtain ⟨z2, its2, n2, r2, hl2, e2⟩ := I.lstM hB
  have hsz : its.toArray.size + its2.toArray.size ≤ sizeLine := by rw [List.size_toArray, List.size_toArray]; omega
  have hlong : ¬ (!its.toArray.isEmpty && Builtin.List.listTooLong (its.toArray.size + its2.toArray.size)) = true := by
    rw [notLongL hsz, Bool.and_false]
    exact Bool.false_ne_true
  refine call_meets F.slot_list_extend ⟨_, e, rfl⟩ F.entry_list_extend (F.args_list_extend_2 _ _)
    (AutoSeq1.list_extend_list_list_0 l its.toArray n b its2.toArray n2 hlong (by rw [List.size_toArray]; omega) (by omega)) ⟨e, e2, ?_⟩
  refine ⟨.non, _, I.lset (its' := its ++ its2) hH e (by simp) (r.append r2) ?_, rfl, q⟩
  rw [List.length_append]
  omega

def rPop : V → List V → Hp → VK → Prop := fun x vs H Q => ∃ l xs y, x = .ref l ∧ vs = [] ∧ H l = some (.lst xs) ∧ xs[xs.length - 1]? = some y ∧ Q y (upd H l (.lst xs.dropLast))
theorem mt_pop : MtM X "list.pop" rPop := by
  intro pins s σ H x vs v us Q I rx rv h
  obtain ⟨l, xs, y, rfl, rfl, hH, hy, q⟩ := h
  cases rx
  have hus := rv.zero
  subst hus
  obtain ⟨z, its, n, r, hl, e⟩ := I.lstM hH
  obtain ⟨u, hu, ru⟩ := r.get hy
  have hy' : its.toArray[its.toArray.size - 1]? = some u := by
    show its.toArray[its.length - 1]? = some u
    rw [← Array.getElem?_toList, ← hl]
    exact hu
  refine call_meets F.slot_list_pop ⟨_, e, rfl⟩ F.entry_list_pop (F.args_list_pop_1 _) (MeetsSeq.list_pop_last l its.toArray n u hy' (by rw [List.size_toArray]; omega)) ⟨e, ?_⟩
  refine ⟨y, _, I.lset (its' := its.dropLast) hH e ?_ r.dropLast ?_, ru, q⟩
  · show its.toArray.eraseIdxIfInBounds (its.toArray.size - 1) = its.dropLast.toArray
    rw [List.size_toArray, List.eraseIdxIfInBounds_toArray, erase_last]
  · rw [List.length_dropLast]
    omega

def rPopAt : V → List V → Hp → VK → Prop := fun x vs H Q => ∃ l xs i k y, x = .ref l ∧ vs = [.int i] ∧ H l = some (.lst xs) ∧ -(2 ^ 63) ≤ i ∧ i < 2 ^ 63 ∧ seqIndex? i xs.length = some k ∧ xs[k]? = some y ∧ Q y (upd H l (.lst (xs.eraseIdx k)))
theorem mt_popAt : MtM X "list.pop" rPopAt := by
  intro pins s σ H x vs v us Q I rx rv h
  obtain ⟨l, xs, i, k, y, rfl, rfl, hH, h1, h2, hk, hy, q⟩ := h
  cases rx
  obtain ⟨u, rfl, ru⟩ := rv.one
  obtain ⟨t, rfl⟩ := ru
  obtain ⟨z, its, n, r, hl, e⟩ := I.lstM hH
  obtain ⟨w, hw, rw'⟩ := r.get hy
  refine call_meets F.slot_list_pop ⟨_, e, rfl⟩ F.entry_list_pop (F.args_list_pop_2 _ _)
    (MeetsSeq.list_pop_at l its.toArray n i t k w (fitsIndex_both h1 h2) (by rw [List.size_toArray, ← hl]; exact hk) (by rw [← Array.getElem?_toList]; exact hw) (by rw [List.size_toArray]; omega)) ⟨e, ?_⟩
  refine ⟨y, _, I.lset (its' := its.eraseIdx k) hH e ?_ (r.eraseIdx k) ?_, rw', q⟩
  · show its.toArray.eraseIdxIfInBounds k = (its.eraseIdx k).toArray
    rw [List.eraseIdxIfInBounds_toArray]
  · have := len_erase xs k
    omega

def rReverse : V → List V → Hp → VK → Prop := fun x vs H Q => ∃ l xs, x = .ref l ∧ vs = [] ∧ H l = some (.lst xs) ∧ Q .non (upd H l (.lst xs.reverse))
theorem mt_reverse : MtM X "list.reverse" rReverse := by
  intro pins s σ H x vs v us Q I rx rv h
  obtain ⟨l, xs, rfl, rfl, hH, q⟩ := h
  cases rx
  have hus := rv.zero
  subst hus
  obtain ⟨z, its, n, r, hl, e⟩ := I.lstM hH
  refine call_meets F.slot_list_reverse ⟨_, e, rfl⟩ F.entry_list_reverse (F.args_list_reverse_1 _) (AutoSeq1.list_reverse_list_0 l its.toArray n (by rw [List.size_toArray]; omega)) ⟨e, ?_⟩
  refine ⟨.non, _, I.lset (its' := its.reverse) hH e (by simp) r.reverse ?_, rfl, q⟩
  rw [List.length_reverse]
  omega

def rClear : V → List V → Hp → VK → Prop := fun x vs H Q => ∃ l xs, x = .ref l ∧ vs = [] ∧ H l = some (.lst xs) ∧ Q .non (upd H l (.lst []))
theorem mt_clear : MtM X "list.clear" rClear := by
  intro pins s σ H x vs v us Q I rx rv h
  obtain ⟨l, xs, rfl, rfl, hH, q⟩ := h
  cases rx
  have hus := rv.zero
  subst hus
  obtain ⟨z, its, n, r, hl, e⟩ := I.lstM hH
  refine call_meets F.slot_list_clear ⟨_, e, rfl⟩ F.entry_list_clear (F.args_list_clear_1 _) (AutoSeq1.list_clear_list_0 l its.toArray n (by rw [List.size_toArray]; omega)) ⟨e, ?_⟩
  exact ⟨.non, _, I.lset (its' := []) (ys := []) hH e rfl .nil (Nat.zero_le _), rfl, q⟩

/-! ### list + list, list += list, list * int -/
def rCat : R2 := fun x y H Q => ∃ l b xs zs, x = .ref l ∧ y = .ref b ∧ H l = some (.lst xs) ∧ H b = some (.lst zs) ∧ xs.length + zs.length ≤ sizeLine ∧ ∀ p, H p = none → Q (.ref p) (upd H p (.lst (xs ++ zs)))
theorem op_cat : OpR X (binaryOp .Add) rCat := by
  intro pins s σ H x y v u Q I rx ry h
  obtain ⟨l, b, xs, zs, rfl, rfl, hH, hB, hz, q⟩ := h
  cases rx
  cases ry
  obtain ⟨z, its, n, r, hl, e⟩ := I.lstM hH
  obtain ⟨z2, its2, n2, r2, hl2, e2⟩ := I.lstM hB
  refine PySem.P.add_list e e2 ?_ (by rw [List.size_toArray, List.size_toArray]; omega)
  have ea : its.toArray ++ its2.toArray = (its ++ its2).toArray := by simp
  rw [ea]
  exact ⟨.ref _, _, I.lnew (t' := s.toks) (r.append r2) (by rw [List.length_append]; omega), rfl, q _ I.fresh⟩
/-- a list times an int (a negative one is nothing) -/
def rRep : R2 := fun x y H Q => ∃ l k xs, x = .ref l ∧ y = .int k ∧ H l = some (.lst xs) ∧ -(2 ^ 63) ≤ k ∧ k < 2 ^ 63 ∧ xs.length * k.toNat ≤ sizeLine ∧
  ∀ p, H p = none → Q (.ref p) (upd H p (.lst (List.replicate k.toNat xs).flatten))
theorem len_rep {α : Type} (xs : List α) (k : Nat) : (List.replicate k xs).flatten.length = k * xs.length := by
  induction k with
  | zero => simp
  | succ k ih => rw [List.replicate_succ, List.flatten_cons, List.length_append, ih, Nat.succ_mul, Nat.add_comm]
theorem op_rep : OpR X (binaryOp .Mult) rRep := by
  intro pins s σ H x y v u Q I rx ry h
  obtain ⟨l, k, xs, rfl, rfl, hH, h1, h2, hz, q⟩ := h
  cases rx
  obtain ⟨t, rfl⟩ := ry
  obtain ⟨z, its, n, r, hl, e⟩ := I.lstM hH
  have hlen : its.toArray.size * k.toNat ≤ sizeLine := by rw [List.size_toArray, ← hl]; exact hz
  have hcap : ¬ its.toArray.size * k.toNat > (2 ^ 63 - 1) / 8 := by
    have : (sizeLine : Nat) ≤ (2 ^ 63 - 1) / 8 := by decide
    omega
  have hfit : ¬ (!Builtin.List.listFitsIndex k) = true := by
    rw [fitsIndex_both h1 h2]
    exact Bool.false_ne_true
  have hlong : ¬ Builtin.List.listTooLong (its.toArray.size * k.toNat) = true := by
    rw [notLongL hlen]
    exact Bool.false_ne_true
  have hnew : List.foldl (fun x1 x2 => x1 ++ x2) #[] (List.replicate (if its.toArray.isEmpty = true then 0 else k.toNat) its.toArray) = (List.replicate k.toNat its).flatten.toArray := by
    have f0 : ∀ m : Nat, List.foldl (fun x1 x2 => x1 ++ x2) #[] (List.replicate m its.toArray) = (List.replicate m its).flatten.toArray := fun m => by
      have := foldl_rep its m []
      rw [List.nil_append] at this
      exact this
    rw [f0]
    cases its with
    | nil => simp
    | cons a r' => rw [if_neg (by simp)]
  refine wpAny_binaryOp_repeat_ref (T := "list") (U := "int") (by decide) ⟨_, e, rfl⟩ (fun s' => typeIs_int s' k t) noFill_list_mul F.fills_int_mul F.slot_int_rmul repeat_list F.slot_int_index.lookup
    (call_meets F.slot_int_rmul (typeIs_int s k t) F.entry_int_rmul (F.args_int_rmul_2 _ _) (int___rmul___int_list k t l its.toArray n)
      ⟨e, rfl, ⟨_, e, rfl⟩, call_meets F.slot_list_mul ⟨_, e, rfl⟩ F.entry_list_mul (F.args_list_mul_2 _ _) (AutoListH.list___mul___list_int_3 l its.toArray n k t hfit hcap hlong) ⟨e, ?_⟩⟩)
  rw [hnew]
  exact ⟨.ref _, _, I.lnew (t' := s.toks) (r.rep k.toNat) (by rw [len_rep, Nat.mul_comm]; exact hz), rfl, q _ I.fresh⟩

/-! ### del xs[i] -/
theorem del_list {pins : List (Addr × Obj)} {s : Shared} {σ : St} {H : Hp} {l : Addr} {xs : List V} {i : Int} {t : Tok} {k : Nat} {Q : Unit → Shared → Prop} (I : Inv X pins σ H s) (hH : H l = some (.lst xs))
    (h1 : -(2 ^ 63) ≤ i) (h2 : i < 2 ^ 63) (hk : seqIndex? i xs.length = some k) (h : ∀ s', Inv X pins σ (upd H l (.lst (xs.eraseIdx k))) s' → Q () s') :
    wpAny (model X.prog X.w) X.A (delItem (.ref l) (.int i t)) Q X.xe s := by
  obtain ⟨z, its, n, r, hl, e⟩ := I.lstM hH
  refine PySem.P.delItem_list (k := k) e (fitsIndex_both h1 h2) (by rw [List.size_toArray, ← hl]; exact hk) (h _ ?_) (by rw [List.size_toArray]; omega)
  refine I.lset (its' := its.eraseIdx k) (t' := s.toks) hH e ?_ (r.eraseIdx k) ?_
  · show its.toArray.eraseIdxIfInBounds k = (its.eraseIdx k).toArray
    rw [List.eraseIdxIfInBounds_toArray]
  · have := len_erase xs k
    omega
end

/-! ### xs[a:b] = ys -/
section
variable {prog : Program} {w : World} {A : Around} {E : Value → Shared → Prop} {s : Shared}
theorem splice_eq (its its2 : List Value) (a c : Nat) : its.toArray.extract 0 a ++ its2.toArray ++ its.toArray.extract c its.toArray.size = (its.take a ++ its2 ++ its.drop c).toArray := by
  apply Array.toList_inj.mp
  first
    | (simp
       exact List.take_of_length_le (by simp))
    | simp [List.take_of_length_le]
    | simp
theorem bounds_run {a c n : Nat} (hac : a ≤ c) (hc : c ≤ n) : sliceBounds (some (a : Int)) (some (c : Int)) none n = ((a : Int), (c : Int), 1) := by
  simp only [sliceBounds, Option.getD_none]
  have h1 : ¬ ((a : Int) < 0) := by omega
  have h2 : ¬ ((c : Int) < 0) := by omega
  simp only [h1, h2, if_false, show (1 : Int) > 0 by decide, if_true]
  congr 1
  · omega
  · congr 1; omega
set_option maxRecDepth 100000 in
/-- list.__setitem__ with a slice of step one and another list -/
theorem setItem_slice {l b sl : Addr} {items new : Array Value} {n n2 : Nat} {vl vu : Value} {a c : Nat} {Q : Unit → Shared → Prop}
    (e : s.heap.get? l = some { cls := .type "list", data := .seq items n }) (e2 : s.heap.get? b = some { cls := .type "list", data := .seq new n2 }) (hne : l ≠ b)
    (hs : s.heap.IsSliceOf sl vl vu .none) (pl : IsPart vl (some (a : Int))) (pu : IsPart vu (some (c : Int))) (hac : a ≤ c) (hc : c ≤ items.size)
    (hsz : items.size + new.size ≤ sizeLine) (h : Q () { s with heap := s.heap.update l (Obj.mapSeq fun xs => xs.extract 0 a ++ new ++ xs.extract c xs.size) }) :
    wpAny (model prog w) A (setItem (.ref l) (.ref sl) (.ref b)) Q E s := by
  have hl : s.heap.IsList l items := PySem.IsL.isList e
  have hb : s.heap.IsList b new := PySem.IsL.isList e2
  obtain ⟨os, hos, hcs, hds⟩ := id hs
  have hTs : s.TypeIs (.ref sl) "slice" := ⟨os, hos, hcs⟩
  have hstep : ¬ ((rawPart none == rawInt 0) = true) := Bool.false_ne_true
  have hsame : Builtin.List.listSameRef (.ref l) (.ref b) = false := by
    unfold Builtin.List.listSameRef
    exact beq_eq_false_iff_ne.mpr hne
  have hmax : (max (a : Int) (c : Int)).toNat = c := by omega
  have hz' : ((fun xs : Array Value => xs.extract 0 a ++ new ++ xs.extract c xs.size) items).size ≤ sizeLine + 1 := by
    simp only [Array.size_append, Array.size_extract]
    omega
  unfold setItem
  try with_reducible refine wpAny_holding ?_
  first | refine wpAny_bind (wpAny_pure ?_) | skip
  refine wpAny_bind (wpAny_sequenceKey hl.typeIs (by decide) ?_)
  refine wpAny_bind (wpAny_callSpecial?_slot (name := Str.ofString "__setitem__") hl.typeIs slot_list_setitem
    (wpAny_call_entry slot_list_setitem hl.typeIs entry_list_setitem ?_ (args_list_setitem _ _ _)))
  show wpAny _ _ (Builtin.List.listSubscript? (.ref sl) >>= _) _ _ s
  refine wpAny_bind ?_
  unfold Builtin.List.listSubscript?
  refine wpAny_bind (wpAny_specialOf hTs slice_no_index ?_)
  simp only [Option.isNone_none, if_true]
  refine wpAny_pure ?_
  show wpAny _ _ (typeOf (.ref sl) >>= _) _ _ s
  refine wpAny_bind (wpAny_typeOf hTs ?_)
  first
    | rw [if_neg (by decide)]
    | refine PySem.W.KFB.if_not (by decide) ?_
  rw [listSliceParts_eq]
  refine wpAny_bind (wpAny_bind (wpAny_field hos hds (x := .none) rfl (wpAny_bind (wpAny_listPart .none ?_))))
  rw [if_neg hstep]
  refine wpAny_bind (wpAny_field hos hds (x := vl) rfl (wpAny_bind (wpAny_listPart pl ?_)))
  refine wpAny_bind (wpAny_field hos hds (x := vu) rfl (wpAny_bind (wpAny_listPart pu (wpAny_pure ?_))))
  first
    | simp only [hsame, Bool.false_eq_true, if_false]
    | refine PySem.W.KFB.if_not hsame ?_
    | (dsimp only
       rw [if_neg (by rw [hsame]; exact Bool.false_ne_true)])
  refine wpAny_bind (m := Builtin.List.listAllItems (.ref b) "must assign iterable to extended slice") ?_
  unfold Builtin.List.listAllItems
  refine wpAny_bind (wpAny_typeOf hb.typeIs ?_)
  first
    | refine PySem.W.KFB.if_so (by decide) ?_
    | rw [if_pos (by decide)]
    | simp only [beq_self_eq_true, Bool.true_or, if_true]
  unfold Builtin.List.listItems
  refine wpAny_bind (wpAny_seqItems e2 rfl (wpAny_pure ?_))
  refine wpAny_bind (wpAny_bind (wpAny_seqItems e rfl (wpAny_pure ?_)))
  refine wpAny_bind (wpAny_of_eq ((sliceIndices_raw (some (a : Int)) (some (c : Int)) none items.size (by simp)).trans (congrArg (pure : Int × Int × Int → Sem (Int × Int × Int)) (bounds_run hac hc))) ?_)
  show wpAny _ _ (if ((1 : Int) == 1) = true then _ else _) _ _ s
  rw [if_pos (by decide)]
  refine wpAny_bind (wpAny_rule ?_)
  first
    | simp only [notLongL hsz, Bool.false_eq_true, if_false]
    | refine PySem.W.KFB.if_not (notLongL hsz) ?_
  first | refine wpAny_bind (wpAny_pure ?_) | skip
  show wpAny _ _ (updateSeq l (fun xs => xs.extract 0 ((a : Int)).toNat ++ new ++ xs.extract (max (a : Int) (c : Int)).toNat xs.size) >>= _) _ _ s
  rw [hmax, Int.toNat_natCast]
  refine wpAny_bind (wpAny_updateSeq (hz := Nat.le_trans (Nat.le_add_right _ _) hsz) (_hz' := hz') e rfl ?_)
  refine wpAny_bind (wpAny_letGo ?_)
  first
    | exact wpAny_bind (wpAny_pure (wpAny_pure ⟨.none, rfl, wpAny_pure h⟩))
    | exact wpAny_pure ⟨.none, rfl, wpAny_pure h⟩
end

section
variable {X : Cx}
/-- xs[a:c] = ys of another list, at the value level: sl is the slice object that was just made -/
theorem set_slice {pins : List (Addr × Obj)} {s : Shared} {σ : St} {H : Hp} {l b sl : Addr} {xs ys : List V} {a c : Int} {vl vu : Value} {Q : Unit → Shared → Prop} (I : Inv X pins σ H s)
    (hH : H l = some (.lst xs)) (hB : H b = some (.lst ys)) (hne : l ≠ b) (hs : s.heap.IsSliceOf sl vl vu .none) (ra : RelV (.int a) vl) (rc : RelV (.int c) vu) (h0 : 0 ≤ a) (hac : a ≤ c) (hc : c ≤ xs.length)
    (hz : xs.length + ys.length ≤ sizeLine) (h : ∀ s', Inv X pins σ (upd H l (.lst (xs.take a.toNat ++ ys ++ xs.drop c.toNat))) s' → Q () s') :
    wpAny (model X.prog X.w) X.A (setItem (.ref l) (.ref sl) (.ref b)) Q X.xe s := by
  obtain ⟨ta, rfl⟩ := ra
  obtain ⟨tc, rfl⟩ := rc
  obtain ⟨z, its, n, r, hl, e⟩ := I.lstM hH
  obtain ⟨z2, its2, n2, r2, hl2, e2⟩ := I.lstM hB
  obtain ⟨a', rfl⟩ := Int.eq_ofNat_of_zero_le h0
  obtain ⟨c', rfl⟩ := Int.eq_ofNat_of_zero_le (Int.le_trans h0 hac)
  simp only [Int.toNat_natCast] at h
  refine setItem_slice (a := a') (c := c') e e2 hne hs (.int _ _) (.int _ _) (by omega) (by rw [List.size_toArray]; omega) (by rw [List.size_toArray, List.size_toArray]; omega) (h _ ?_)
  refine I.lset (its' := its.take a' ++ its2 ++ its.drop c') (t' := s.toks) hH e ?_ (Vals.append (Vals.append (r.take _) r2) (r.drop _)) ?_
  · exact splice_eq its its2 a' c'
  · rw [List.length_append, List.length_append, List.length_take, List.length_drop]
    omega
end
end L2

namespace Att
open PySem PySem.W PySem.Calls PyProof.Rows

/-! ### the script -/
theorem ints_of_wellAll {P : Params} {h : Heap} : ∀ (ns : List Int) (vs : List Value), WellAll P h vs (ns.map WData.int) → IntsAre vs ns := by
  intro ns
  induction ns with
  | nil =>
    intro vs w
    rw [List.map_nil] at w
    cases w
    exact .nil
  | cons n ns ih =>
    intro vs w
    rw [List.map_cons] at w
    cases w with
    | cons a b =>
      cases a
      exact .cons _ _ (ih _ b)

theorem script_of {l : OpenLaw} {n : Nat} (hn : l.most = some n) {P : Params} {h : Heap} {args : List WData} {vals : List Value}
    (hpre : l.row.toRowW.claim.pre args = true) (hwl : WellAll P h vals args) :
    ∃ a vs ns, vals = [Value.ref a] ∧ args = [WData.list (ns.map WData.int)] ∧ h.get? a = some { cls := .type "list", data := .seq vs.toArray } ∧ IntsAre vs ns ∧ ns.length ≤ n := by
  have hsh : WShape.hasAll [] args [.list .int] = true := (pre_splitW hpre).1
  have hc : l.pre.holds [] { args := args } = true := (pre_splitW hpre).2
  obtain ⟨d, r, rfl, h1, h2⟩ := hasAllW_cons hsh
  obtain rfl := hasAllW_nil h2
  obtain ⟨xs, rfl, h3⟩ := hasW_list h1
  obtain ⟨ns, rfl⟩ := items_int h3
  have hlen : ns.length ≤ n := by
    unfold OpenLaw.pre at hc
    have h4 : (WTm.not (.lt (.lit (.int (n : Int))) (.len (.arg 0)))).holds [] { args := [.list (ns.map .int)] } = true := by
      have h4 := (holds_andW hc).1
      rw [hn] at h4
      exact h4
    have h5 := condW_of h4 (w_not (w_lt w_lit (w_len_list (w_arg rfl))))
    rw [List.length_map] at h5
    refine Nat.le_of_not_lt fun q => ?_
    have q' : (n : Int) < ((ns.length : Nat) : Int) := by omega
    first
      | (rw [decide_eq_true q'] at h5; exact absurd h5 (by decide))
      | (simp at h5; omega)
  cases hwl with
  | cons w1 w2 =>
    cases w2
    cases w1 with
    | list ho hall => exact ⟨_, _, ns, rfl, rfl, ho, ints_of_wellAll ns _ hall, hlen⟩

theorem post_true (l : OpenLaw) (args : List WData) : l.row.toRowW.claim.post args (.bool true) args = true :=
  postW_of (r := l.row.toRowW) (X := (true == true))
    (show WShape.has [] (.bool true) .bool = true by first | rfl | decide | simp [WShape.has, WShape.arms, WShape.armsAll])
    (show (WTm.eq .res (.lit (.bool true))).value [] { args := args, res := some (.bool true), after := args } = some (.bool (true == true)) from w_eq_bool (w_res rfl) w_lit) rfl

/-! ### the attachment: holds_open's last premise (the goal 'hc' behind k_head) from a wpAny of the law's body -/
theorem attach {l : OpenLaw} {n : Nat} {q : Program} {loose : List Str} {XP : (Str → Option Value) → Heap → Prop} {YP : World → Heap → Prop} {d : DefRec} {x : Str}
    (hn : l.most = some n) (hdf : d.params.defaults = [])
    (hbind : ∀ pm cd doc v : Value, bindArgs (docDef d.name d.params d.body d.scope pm cd doc) ⟨[v], []⟩ = pure [(x, v)])
    (hx : d.scope.names.lookup x = some .local ∨ d.scope.names.lookup x = some .cell)
    (hk : d.scope.kind = .function) (hco : d.scope.isCoroutine = false) (hgen : d.scope.isGenerator = false)
    (body : ∀ (w : World) (s₀ s₁ s : Shared) (mg mb : Str → Option Value) (fa : Addr) (o : Obj) (pm cd doc : Value) (a : Addr) (vs : List Value) (ns : List Int),
      Ground q loose [] XP w s₀ mg mb s₁.heap → YP w s₁.heap →
      s₁.heap.get? fa = some o → o.data = .func (docDef d.name d.params d.body d.scope pm cd doc) → s₁.heap.CodeRec cd d.name → mg d.name = some (.ref fa) →
      s₁.heap.get? a = some { cls := .type "list", data := .seq vs.toArray } → IntsAre vs ns → ns.length ≤ n →
      s.gens = #[] → s.os = s₁.os →
      Fr s₁.heap s₁.heap.objs.size s.heap (bindL (envOfC d.name d.scope s₁.heap.objs.size fa cd).kindOf [(x, .ref a)] fun _ => none) →
      Cl s₁.heap.objs.size (cellsFrom (s₁.heap.objs.size + 1) d.scope.names []) s.heap (bindC (envOfC d.name d.scope s₁.heap.objs.size fa cd).kindOf [(x, .ref a)] fun _ => none) →
      wpAny (model l.prog w) (callerA.deeper (envOfC d.name d.scope s₁.heap.objs.size fa cd)) (execs d.body (envOfC d.name d.scope s₁.heap.objs.size fa cd))
        (fun f s' => f = .ret (.bool true) ∧ OldK s₁.heap s'.heap ∧ s'.os = s₁.os ∧ AllBare s'.gens) (fun _ _ => False) s) :
    WalkO q loose XP YP l.row.toRowW d [] (fun f vs => PySem.call f vs) := by
  intro w s₀ s₁ mg mb G Y fa o pm cd doc dV kV ho hd hcd hD hmg hg args vals as hpre hlay hrd hwl hlo
  obtain rfl : dV = .none := Dflts.none hD hdf
  obtain rfl : kV = .none := Dflts.noKw hD
  obtain ⟨a, vs, ns, rfl, rfl, hobj, hints, hlen⟩ := script_of hn hpre hwl
  refine enter_call ?_
  refine call_cells_ret (o := o) (by rw [depth_caller]; decide) ho (fd_plain hd) G.T.nolimit hcd (hbind pm cd doc (.ref a)) (fun y hy => ?_) (fun h₁ tk F X => ?_) hco hgen hk
  · obtain rfl : y = (x, Value.ref a) := List.mem_singleton.mp hy
    rcases hx with e | e
    · exact .inl e
    · exact .inr ⟨e, cellsFrom_some _ _ _ (.inl e)⟩
  · refine wpAny_mono (body w s₀ s₁ { s₁ with heap := h₁, toks := tk } mg mb fa o pm cd doc a vs ns G Y ho (fd_plain hd) hcd hmg hobj hints hlen hg rfl F X) (fun f s' hq => ?_) (fun _ _ hq => hq)
    obtain ⟨rfl, h2, h3, h4⟩ := hq
    exact ⟨.inl ⟨.bool true, .bool true, [], rfl, fun _ => rfl, .bool true, post_true l _, fun _ => ⟨List.Pairwise.nil, fun _ hm => (nomatch hm)⟩⟩, h2, h3, h4⟩

/-- the same from a codeAny of the CALL (for a layer whose function contracts speak of calls) -/
theorem attach_call {l : OpenLaw} {n : Nat} {q : Program} {loose : List Str} {XP : (Str → Option Value) → Heap → Prop} {YP : World → Heap → Prop} {d : DefRec}
    (hn : l.most = some n) (hdf : d.params.defaults = [])
    (call : ∀ (w : World) (s₀ s₁ : Shared) (mg mb : Str → Option Value) (fa : Addr) (o : Obj) (pm cd doc : Value) (a : Addr) (vs : List Value) (ns : List Int),
      Ground q loose [] XP w s₀ mg mb s₁.heap → YP w s₁.heap →
      s₁.heap.get? fa = some o → o.data = .func (docDef d.name d.params d.body d.scope pm cd doc) → s₁.heap.CodeRec cd d.name → mg d.name = some (.ref fa) →
      s₁.heap.get? a = some { cls := .type "list", data := .seq vs.toArray } → IntsAre vs ns → ns.length ≤ n → s₁.gens = #[] →
      codeAny (model l.prog w) callerA (.call (.ref fa) ⟨[.ref a], []⟩) (fun r s' => r = .ok (.ret (.bool true)) ∧ OldK s₁.heap s'.heap ∧ s'.os = s₁.os ∧ AllBare s'.gens) s₁) :
    WalkO q loose XP YP l.row.toRowW d [] (fun f vs => PySem.call f vs) := by
  intro w s₀ s₁ mg mb G Y fa o pm cd doc dV kV ho hd hcd hD hmg hg args vals as hpre hlay hrd hwl hlo
  obtain rfl : dV = .none := Dflts.none hD hdf
  obtain rfl : kV = .none := Dflts.noKw hD
  obtain ⟨a, vs, ns, rfl, rfl, hobj, hints, hlen⟩ := script_of hn hpre hwl
  refine enter_call (codeAny_mono (call w s₀ s₁ mg mb fa o pm cd doc a vs ns G Y ho (fd_plain hd) hcd hmg hobj hints hlen hg) fun r s' hq => ?_)
  obtain ⟨rfl, h2, h3, h4⟩ := hq
  exact ⟨.inl ⟨.bool true, .bool true, [], rfl, fun _ => rfl, .bool true, post_true l _, fun _ => ⟨List.Pairwise.nil, fun _ hm => (nomatch hm)⟩⟩, h2, h3, h4⟩

/-- the same where the top left finished generators (o_head chose holds_openN): nothing may have changed at all and no generator may be left -/
theorem attachN {l : OpenLaw} {n : Nat} {q : Program} {loose : List Str} {XP : (Str → Option Value) → Heap → Prop} {YP : World → Heap → Prop} {d : DefRec} {x : Str}
    (hn : l.most = some n) (hdf : d.params.defaults = [])
    (hbind : ∀ pm cd doc v : Value, bindArgs (docDef d.name d.params d.body d.scope pm cd doc) ⟨[v], []⟩ = pure [(x, v)])
    (hx : d.scope.names.lookup x = some .local ∨ d.scope.names.lookup x = some .cell)
    (hk : d.scope.kind = .function) (hco : d.scope.isCoroutine = false) (hgen : d.scope.isGenerator = false)
    (body : ∀ (w : World) (s₀ s₁ s : Shared) (mg mb : Str → Option Value) (fa : Addr) (o : Obj) (pm cd doc : Value) (a : Addr) (vs : List Value) (ns : List Int),
      Ground q loose [] XP w s₀ mg mb s₁.heap → YP w s₁.heap →
      s₁.heap.get? fa = some o → o.data = .func (docDef d.name d.params d.body d.scope pm cd doc) → s₁.heap.CodeRec cd d.name → mg d.name = some (.ref fa) →
      s₁.heap.get? a = some { cls := .type "list", data := .seq vs.toArray } → IntsAre vs ns → ns.length ≤ n →
      s.gens = #[] → s.os = s₁.os →
      Fr s₁.heap s₁.heap.objs.size s.heap (bindL (envOfC d.name d.scope s₁.heap.objs.size fa cd).kindOf [(x, .ref a)] fun _ => none) →
      Cl s₁.heap.objs.size (cellsFrom (s₁.heap.objs.size + 1) d.scope.names []) s.heap (bindC (envOfC d.name d.scope s₁.heap.objs.size fa cd).kindOf [(x, .ref a)] fun _ => none) →
      wpAny (model l.prog w) (callerA.deeper (envOfC d.name d.scope s₁.heap.objs.size fa cd)) (execs d.body (envOfC d.name d.scope s₁.heap.objs.size fa cd))
        (fun f s' => f = .ret (.bool true) ∧ (∀ b o, s₁.heap.get? b = some o → s'.heap.get? b = some o) ∧ s'.os = s₁.os ∧ s'.gens = #[]) (fun _ _ => False) s) :
    WalkN q loose XP YP l.row.toRowW d [] (fun f vs => PySem.call f vs) := by
  intro w s₀ s₁ mg mb G Y fa o pm cd doc dV kV ho hd hcd hD hmg hg args vals as hpre hlay hrd hwl hlo
  obtain rfl : dV = .none := Dflts.none hD hdf
  obtain rfl : kV = .none := Dflts.noKw hD
  obtain ⟨a, vs, ns, rfl, rfl, hobj, hints, hlen⟩ := script_of hn hpre hwl
  refine enter_callW ?_
  refine call_cells_ret (o := o) (by rw [depth_caller]; decide) ho (fd_plain hd) G.T.nolimit hcd (hbind pm cd doc (.ref a)) (fun y hy => ?_) (fun h₁ tk F X => ?_) hco hgen hk
  · obtain rfl : y = (x, Value.ref a) := List.mem_singleton.mp hy
    rcases hx with e | e
    · exact .inl e
    · exact .inr ⟨e, cellsFrom_some _ _ _ (.inl e)⟩
  · refine wpAny_mono (body w s₀ s₁ { s₁ with heap := h₁, toks := tk } mg mb fa o pm cd doc a vs ns G Y ho (fd_plain hd) hcd hmg hobj hints hlen hg rfl F X) (fun f s' hq => ?_) (fun _ _ hq => hq)
    obtain ⟨rfl, h2, h3, h4⟩ := hq
    exact ⟨.inl ⟨.bool true, .bool true, [], rfl, fun _ => rfl, .bool true, post_true l _, fun _ => ⟨List.Pairwise.nil, fun _ hm => (nomatch hm)⟩⟩, h2, h3, h4⟩

/-! ### rules over ANY heap (no ledger) from facts about the written part K: the library's own take a ledger (News) for what they write -/
section
variable {prog : Program} {w : World} {A : Around} {E : Value → Shared → Prop} {s : Shared} {K : Frag}

/-- a def of the module, or a method (qual 'C.m'), entered: the frame is the next address; cells behind it -/
theorem call_fn {R : Result → Shared → Prop} {name qual : Str} {params : Arguments} {body : List Stmt} {scope : Scope} {dV kV doc pm cdv ct oc : Value} {an od : Option Addr} {osl : Array (Option Value)} {f : Addr} {args : Args} {binds : List (Str × Value)}
    (X : K.In s.heap) (hlim : s.heap.NoLimit) (ho : K.lookup f = some ⟨oc, od, .func (fnOf name qual params body scope dV kV doc pm an cdv ct), osl⟩) (hcd : codeIn K cdv qual = true) (hroom : A.depth < recursionLimit)
    (hbind : BindsTo s (fnOf name qual params body scope dV kV doc pm an cdv ct) args binds)
    (hkind : (binds.all fun y => scope.names.lookup y.1 == some .local || scope.names.lookup y.1 == some .cell) = true)
    (h : ∀ s₁, InCallC s s.heap.objs.size (bindL (envOfC qual scope s.heap.objs.size f cdv).kindOf binds fun _ => none) (cellsFrom (s.heap.objs.size + 1) scope.names [])
        (bindC (envOfC qual scope s.heap.objs.size f cdv).kindOf binds fun _ => none) s₁ →
      wpAny (model prog w) (A.deeper (envOfC qual scope s.heap.objs.size f cdv)) (execs body (envOfC qual scope s.heap.objs.size f cdv))
        (fun fl s' => R (.ok (.ret (match fl with | .ret v => v | _ => .none))) s')
        (fun e s' => wpAny (model prog w) (A.deeper (envOfC qual scope s.heap.objs.size f cdv)) (leaving (envOfC qual scope s.heap.objs.size f cdv) e) (fun _ s'' => R (.error e) s'') (fun e' s'' => R (.error e') s'') s') s₁)
    (hco : scope.isCoroutine = false) (hgen : scope.isGenerator = false) (hk : scope.kind = .function) : codeAny (model prog w) A (.call (.ref f) args) R s := by
  refine codeAny_call_function hroom (X _ _ ho) rfl hco hgen rfl (codeRec_of X hcd) (hbind _ _ _ _ ?_)
  refine wpAny_newFunctionEnv_cells hk (kindsX hkind _) fun env he s₁ x => ?_
  subst he
  exact ⟨hlim.keeps x.toInCall.keep, codeAny_func (h s₁ x)⟩

/-- C(..): dict at size, instance at size + 1, then __init__ -/
theorem make_obj {R : Result → Shared → Prop} {C fI : Addr} {rest : List Value} {kw : List (Str × Value)}
    (X : K.In s.heap) (hm : makesIn K C = true) (hi : findIn K (.ref C) "__init__" = some (some (.ref fI))) (hf : isFn K (.ref fI) = true)
    (h : codeAny (model prog w) (A.under (.builtin "type.__call__" ⟨.ref C :: rest, kw⟩)) (.call (.ref fI) ⟨.ref (s.heap.objs.size + 1) :: rest, kw⟩) (InitBack (s.heap.objs.size + 1) R)
      { s with heap := (s.heap.push emptyDict).push (instObj C s.heap.objs.size) }) : codeAny (model prog w) A (.call (.ref C) ⟨rest, kw⟩) R s := by
  obtain ⟨hh, g, d, t, os⟩ := s
  exact make_core (makes_of X hm) (looks_findIn X hi) (fun self => bind_fn X self (beq_iff_eq.mp hf)) (.inl rfl) h

/-- x.name where the instance's dict holds the name and the class does not -/
theorem get_field {x C : Addr} {ox : Obj} {es : List DictEntry} {n : Nat} {name : Str} {expr : Bool} {v : Value} {Q : Value → Shared → Prop}
    (X : K.In s.heap) (I : PySem.W.InstAt s.heap x ox C (some (dictOf es n))) (hg : plainGet K C name = true) (hh : hasDictIn K C = true) (ha : findIn K (.ref C) name = some none)
    (hl : getL name es = some (some v)) (hv : handedIn v = true) (h : Q v { s with toks := s.toks + 1 }) : wpAny (model prog w) A (getAttr (.ref x) name expr) Q E s :=
  get_value X I (plainGet_of hg).1 (findObj_own hh ha rfl hl) hv h

/-- x.m(..): the method found in the class -/
theorem get_method {x C f : Addr} {ox : Obj} {es : List DictEntry} {n : Nat} {name : Str} {pl : Sem Bool} {Q : Value × List Value → Shared → Prop}
    (X : K.In s.heap) (I : PySem.W.InstAt s.heap x ox C (some (dictOf es n))) (hg : plainGet K C name = true) (hf : findIn K (.ref C) name = some (some (.ref f))) (ht : isFn K (.ref f) = true)
    (hl : getL name es = some none) (h : Q (.ref f, [.ref x]) s) : wpAny (model prog w) A (getMethod (.ref x) name pl) Q E s :=
  method_fn X I (plainGet_of hg).1 (plainGet_of hg).2 hf (beq_iff_eq.mp ht) (by show (lookIn name (dictOf es n)).map _ = _; rw [lookIn_dict, hl]; rfl) h

/-! the whole heap as the ledger: makes every rule that writes through a ledger a rule over any heap -/
def noObjs (h : Heap) : Heap := { h with objs := #[] }
theorem noObjs_get (h : Heap) (b : Addr) : (noObjs h).get? b = none := by
  cases e : (noObjs h).get? b with
  | none => rfl
  | some o => exact absurd (Heap.lt_size e) (Nat.not_lt_zero _)
def ledger (h : Heap) (L d : Addr) : List (Addr × Obj) := (List.range h.objs.size).filterMap fun a => if a = L ∨ a = d then none else (h.get? a).map fun o => (a, o)
theorem mem_ledger {h : Heap} {L d a : Addr} {o : Obj} : (a, o) ∈ ledger h L d ↔ a ≠ L ∧ a ≠ d ∧ h.get? a = some o := by
  unfold ledger
  rw [List.mem_filterMap]
  constructor
  · rintro ⟨b, _, e⟩
    split at e
    · cases e
    · rename_i hb
      obtain ⟨o', ho, e'⟩ := Option.map_eq_some_iff.mp e
      cases e'
      exact ⟨fun q => hb (.inl q), fun q => hb (.inr q), ho⟩
  · rintro ⟨n1, n2, ho⟩
    refine ⟨a, List.mem_range.mpr (Heap.lt_size ho), ?_⟩
    rw [if_neg (show ¬ (a = L ∨ a = d) from fun q => q.elim n1 n2), ho] <;> rfl
theorem news_ledger {h : Heap} {L d : Addr} {od : Obj} (hne : d ≠ L) (ho : h.get? d = some od) : News (noObjs h) L h ([] ++ (d, od) :: ledger h L d) := by
  rintro ⟨a, o⟩ hp
  rcases List.mem_cons.mp hp with e | hp
  · cases e
    exact ⟨ho, hne, noObjs_get _ _⟩
  · obtain ⟨n1, n2, e⟩ := mem_ledger.mp hp
    exact ⟨e, n1, noObjs_get _ _⟩
theorem fr_all {h : Heap} {L : Addr} {m : Str → Option Value} (n : h.Ns L m) : Fr (noObjs h) L h m :=
  ⟨n, fun b o e => (by rw [noObjs_get] at e; cases e), Nat.zero_le _⟩
/-- Upd of the head entry (for append_K, setItem_K ..) -/
theorem upd_ledger {h : Heap} {L d : Addr} {o o' : Obj} : Upd d o o' ((d, o) :: ledger h L d) ((d, o') :: ledger h L d) :=
  .head fun ⟨_, _⟩ hp => (mem_ledger.mp hp).2.1

/-- x.name = v over any heap: L is any namespace of the heap (the frame's, say): its map stays, its object is not told; all else but the dict stays -/
theorem set_field {x C dx L : Addr} {ox : Obj} {m : Str → Option Value} {es es' : List DictEntry} {n n' : Nat} {name : Str} {v : Value} {Q : Unit → Shared → Prop}
    (X : K.In s.heap) (I : PySem.W.InstAt s.heap x ox C (some (dictOf es n))) (hd : ox.dict = some dx) (hL : s.heap.Ns L m) (hne : dx ≠ L)
    (hs : findIn K (.ref C) "__setattr__" = some (some (.builtin "object.__setattr__"))) (hp : plainOver K C = true) (ht : takerIn K C name = some none) (hh : hasDictIn K C = true) (hl : (getL name es).isSome = true)
    (e : (putL name (PyData.keyHash w.params name) (.str name (s.toks + 1)) v es, putN name es n) = (es', n')) (hz : es'.length ≤ 1000)
    (h : ∀ h' : Heap, h'.Ns L m → h'.get? dx = some (dictOf es' n') → (∀ b o, b ≠ dx → b ≠ L → s.heap.get? b = some o → h'.get? b = some o) → Q () { s with heap := h', toks := s.toks + 2 }) :
    wpAny (model prog w) A (setAttr (.ref x) name v) Q E s := by
  obtain ⟨e1, e2⟩ := Prod.mk.inj e
  have hdx : s.heap.get? dx = some (dictOf es n) := by
    have := I.dict
    rw [hd] at this
    exact this
  refine set_plain X I hs (osa_dict (s := { s with toks := s.toks + 1 }) (h₀ := noObjs s.heap) (L := L) (m := m) (od := dictOf es n) (od' := dictOf es' n') (es := es') (n := n') (pre := []) (post := ledger s.heap L dx)
    (fr_all hL) (news_ledger hne hdx) X I hd hp ht hh hl (fun _ q => nomatch q) (fun ⟨_, _⟩ q => (mem_ledger.mp q).2.1) (by rw [putName_dict, e1, e2]) rfl hz fun h' F' N' => ?_)
  exact h h' F'.ns (N'.get (List.Mem.head _)) fun b o n1 n2 ho => N'.get (List.Mem.tail _ (mem_ledger.mpr ⟨n2, n1, ho⟩))
end
end Att

namespace L2
open PySem PySem.Spec PyProof.Rows

theorem vals_ints : ∀ {vs : List Value} {ns : List Int}, IntsAre vs ns → Vals (ns.map V.int) vs
  | _, _, .nil => .nil
  | _, _, .cons n t h => .cons ⟨t, rfl⟩ (vals_ints h)

/-- nothing is tracked but the script, known to the object (or it is an object of the module) -/
def Only (H : Hp) : Prop := ∀ b, H b = none ∨ ∃ o xs, H b = some (.frz o (.lst xs))

/-- THE HEAD: the law's promise, at the heap behind the top. F, the promise of the law's def, may use that base is part of the heap (so K.In base, base.Ns mainGlobals mg stand in Mod) -/
theorem law_call {P : Program} {w : World} {K : PySem.W.Frag} {mg mb : Str → Option Value} {CX : CXT} {k : Nat} {fa a : Addr} {fd : FuncData} {x : Str} {sp : Sp} {s₁ : Shared} {vs : List Value} {ns : List Int}
    (KX : K.In s₁.heap) (hns : s₁.heap.Ns mainGlobals mg) (hb : s₁.heap.Ns builtinsNs mb) (hbb : ∀ x : Str, x ≠ "__name__" → mb x = bootBuiltins x) (hlim : s₁.heap.NoLimit) (hg : s₁.gens = #[])
    (ha : s₁.heap.get? a = some { cls := .type "list", data := .seq vs.toArray }) (hi : IntsAre vs ns) (hl : ns.length ≤ sizeLine) (hr : Room k callerA)
    (F : ∀ base : Heap, K.In base → base.Ns mainGlobals mg → FnOk P w K mg base CX k fa fd [x] sp) (hbind : ∀ (s : Shared) (u : Value), BindsTo s fd ⟨[u], []⟩ [(x, u)])
    (hsp : ∀ H : Hp, Only H → SqL K H a (ns.map V.int) → sp [.ref a] H (fun v _ => v = .bl true) fun _ _ _ => False)
    (hCX : ∀ H e s', CX [] H s₁ (fun _ _ _ => False) e s' → False) :
    codeAny (model P w) callerA (.call (.ref fa) ⟨[.ref a], []⟩) (fun r s' => r = .ok (.ret (.bool true)) ∧ OldK s₁.heap s'.heap ∧ s'.os = s₁.os ∧ AllBare s'.gens) s₁ := by
  have rv := vals_ints hi
  have lenV := hi.length
  -- from an abstract heap in which nothing but the script may be tracked
  have core : ∀ H : Hp, Only H → SqL K H a (ns.map V.int) → HOk P w H s₁.heap → (∀ b, H b ≠ none → b = a) → (H a ≠ none → K.lookup a = none) →
      codeAny (model P w) callerA (.call (.ref fa) ⟨[.ref a], []⟩) (fun r s' => r = .ok (.ret (.bool true)) ∧ OldK s₁.heap s'.heap ∧ s'.os = s₁.os ∧ AllBare s'.gens) s₁ := by
    intro H hO hS hok hA hK
    have base_of : ∀ {b : Addr} {o : Obj}, s₁.heap.get? b = some o → H b = none → (hidT s₁.heap H).get? b = some o := fun e n => hidT_get e n
    have noA : ∀ {b : Addr} {o : Obj} {es : Array DictEntry} {ep : Nat}, s₁.heap.get? b = some o → o.data = .dict es ep → H b = none := fun {b o es ep} e d => by
      cases q : H b with
      | none => rfl
      | some u =>
        have e' : b = a := hA b (by rw [q]; simp)
        subst e'
        rw [ha] at e; cases e
        have d' : Data.seq vs.toArray _ = Data.dict es ep := d
        cases d'
    have nsK : ∀ {b : Addr} {m : Str → Option Value}, s₁.heap.Ns b m → (hidT s₁.heap H).Ns b m := fun {b m} ⟨o, es, ep, e, d, r⟩ => ⟨o, es, ep, base_of e (noA e d), d, r⟩
    have hKb : K.In (hidT s₁.heap H) := fun b o e => base_of (KX b o e) (by
      cases q : H b with
      | none => rfl
      | some u =>
        have e' : b = a := hA b (by rw [q]; simp)
        subst e'
        rw [hK (by rw [q]; simp)] at e; cases e)
    have hM : Mod K mg (hidT s₁.heap H) := ⟨hKb, nsK hns, ⟨mb, nsK hb, hbb⟩, let ⟨mc, h1, h2⟩ := hlim; ⟨mc, nsK h1, h2⟩⟩
    have e0 : Env0 P w K mg (hidT s₁.heap H) callerA [] s₁ H := ⟨rfl, hM, fun b o e => of_hidT e, Nat.le_of_eq (hidT_size _ _), trivial, fun b hb => absurd (show b ∈ ([] : List Addr) from hb) (by simp), hok, .of_eq hg⟩
    refine codeAny_mono ((F _ hKb (nsK hns)).run callerA [] s₁ H ⟨[.ref a], []⟩ [.ref a] [.ref a] _ _ hr e0 (hbind s₁ (.ref a)) (.cons rfl .nil) (hsp H hO hS)) fun r s' h => ?_
    cases r with
    | error e => exact (hCX H e s' h).elim
    | ok fl =>
      cases fl with
      | next => exact False.elim h
      | brk => exact False.elim h
      | cont => exact False.elim h
      | ret u =>
        obtain ⟨v, H', os, bare, un, hok', r', q⟩ := h
        have q' : v = .bl true := q
        subst q'
        obtain rfl : u = Value.bool true := r'
        refine ⟨rfl, OldK.of_keep fun b o e => ?_, os, bare⟩
        cases q : H b with
        | none => exact un.keep b o e q (by intro z; exact absurd (show b ∈ ([] : List Addr) from z) (by simp)) (by simp)
        | some u =>
          rcases hO b with z | ⟨ob, xs, z⟩
          · rw [q] at z; cases z
          · have z2 := un.frzs b ob _ z
            obtain ⟨e1, _⟩ := hok b _ z
            obtain ⟨e2, _⟩ := hok' b _ z2
            rw [e] at e1; cases e1
            exact e2
  cases hk : K.lookup a with
  | some o =>
    -- the script is one of the module's own objects
    have e := KX a o hk
    rw [ha] at e
    cases e
    refine core (fun _ => none) (fun _ => .inl rfl) (.inr ⟨_, vs.toArray, _, hk, rfl, rfl, rfl, by rw [List.size_toArray, lenV]; exact hl, by simpa using rv⟩) (fun b u z => by have z' : (none : Option HO) = some u := z; cases z') (fun b z => absurd rfl z) fun z => absurd rfl z
  | none =>
    refine core (fun b => if b = a then some (.frz { cls := .type "list", data := .seq vs.toArray } (.lst (ns.map V.int))) else none) (fun b => ?_) (.inl (.inr ⟨{ cls := .type "list", data := .seq vs.toArray }, if_pos rfl⟩)) (fun b u z => ?_) (fun b z => ?_) fun _ => hk
    · by_cases hb : b = a
      · exact .inr ⟨_, _, if_pos hb⟩
      · exact .inl (if_neg hb)
    · by_cases hb : b = a
      · have z' := (if_pos hb).symm.trans z
        cases z'
        subst hb
        exact ⟨ha, by rw [List.length_map]; exact hl, vs, _, rv, ha⟩
      · have z' := (if_neg hb).symm.trans z
        cases z'
    · by_cases hb : b = a
      · exact hb
      · exact absurd (if_neg hb) z
end L2

namespace L2
open PySem PySem.Spec PyProof.Rows

abbrev KOf {K : PySem.W.Frag} {h : Heap} (_ : K.In h) : PySem.W.Frag := K

/-- the goal that k_head leaves (case hc), from the law's promise. F gives the function object fd (K's own) once, then the promise over every base -/
theorem walk_of {l : PySem.W.OpenLaw} {n k : Nat} {q : Program} {loose : List Str} {XP : (Str → Option Value) → Heap → Prop} {YP : World → Heap → Prop} {d : DefRec} {K : Params → PySem.W.Frag} {CX : World → CXT} {sp : World → Sp} {x : Str}
    (hn : l.most = some n) (hn2 : n ≤ sizeLine) (hdf : d.params.defaults = []) (hr : Room k callerA)
    (hY : ∀ (w : World) (h : Heap), YP w h → (K w.params).In h)
    (F : ∀ (w : World) (mg : Str → Option Value) (fa : Addr) (h : Heap), (K w.params).In h → h.Ns mainGlobals mg → mg d.name = some (.ref fa) →
      ∃ fd : FuncData, (∀ (s : Shared) (u : Value), BindsTo s fd ⟨[u], []⟩ [(x, u)]) ∧
        ∀ base : Heap, (K w.params).In base → base.Ns mainGlobals mg → FnOk l.prog w (K w.params) mg base (CX w) k fa fd [x] (sp w))
    (hsp : ∀ (w : World) (H : Hp) (a : Addr) (ns : List Int), ns.length ≤ n → Only H → SqL (K w.params) H a (ns.map V.int) → sp w [.ref a] H (fun v _ => v = .bl true) fun _ _ _ => False)
    (hCX : ∀ (w : World) (H : Hp) (s : Shared) (e : Value) (s' : Shared), CX w [] H s (fun _ _ _ => False) e s' → False) :
    PySem.W.WalkO q loose XP YP l.row.toRowW d [] (fun f vs => PySem.call f vs) := by
  refine Att.attach_call hn hdf fun w s₀ s₁ mg mb fa o pm cd doc a vs ns G Y ho hd hcd hmg hobj hints hlen hg => ?_
  have KX := hY w _ Y
  obtain ⟨fd, hb, hF⟩ := F w mg fa _ KX G.T.g hmg
  exact law_call KX G.T.g G.T.b G.T.builtins G.T.nolimit hg hobj hints (Nat.le_trans hlen hn2) hr hF hb (fun H hO hS => hsp w H a ns hlen hO hS) fun H e s' => hCX w H s₁ e s'
/-- the same where the promise hangs on the written part alone: (sp := My.sp_law), no hole under a binder -/
theorem walk_ofK {l : PySem.W.OpenLaw} {n k : Nat} {q : Program} {loose : List Str} {XP : (Str → Option Value) → Heap → Prop} {YP : World → Heap → Prop} {d : DefRec} {K : Params → PySem.W.Frag} {CX : CXT} {sp : PySem.W.Frag → Sp} {x : Str}
    (hn : l.most = some n) (hn2 : n ≤ sizeLine) (hdf : d.params.defaults = []) (hr : Room k callerA)
    (hY : ∀ (w : World) (h : Heap), YP w h → (K w.params).In h)
    (F : ∀ (w : World) (mg : Str → Option Value) (fa : Addr) (h : Heap), (K w.params).In h → h.Ns mainGlobals mg → mg d.name = some (.ref fa) →
      ∃ fd : FuncData, (∀ (s : Shared) (u : Value), BindsTo s fd ⟨[u], []⟩ [(x, u)]) ∧
        ∀ base : Heap, (K w.params).In base → base.Ns mainGlobals mg → FnOk l.prog w (K w.params) mg base CX k fa fd [x] (sp (K w.params)))
    (hsp : ∀ (K : PySem.W.Frag) (H : Hp) (a : Addr) (ns : List Int), ns.length ≤ n → Only H → SqL K H a (ns.map V.int) → sp K [.ref a] H (fun v _ => v = .bl true) fun _ _ _ => False)
    (hCX : ∀ (H : Hp) (s : Shared) (e : Value) (s' : Shared), CX [] H s (fun _ _ _ => False) e s' → False) :
    PySem.W.WalkO q loose XP YP l.row.toRowW d [] (fun f vs => PySem.call f vs) :=
  walk_of (K := K) (CX := fun _ => CX) (sp := fun w => sp (K w.params)) hn hn2 hdf hr hY F (fun w H a ns h1 h2 h3 => hsp (K w.params) H a ns h1 h2 h3) fun _ H s e s' => hCX H s e s'
end L2

/- THE LAST THEOREM (shape; LID, My.* are yours):
   My.Adr: a structure of the addresses that your layer names (classes, functions); My.Txt K t: a structure (Prop) of the equations over K;
   My.txt_mk : {K} {implicit addresses ..} (e1 : nsIn K mainGlobals "law" = some (some (.ref f))) (e2 : K.lookup f = some ⟨oc, od, .func (fnOf "law" "law" params body scope dV kV doc pm an cdv ct), sl⟩) (e3 : codeIn K cdv "law" = true) .. : ∃ t, My.Txt K t

set_option maxRecDepth 100000 in
set_option maxHeartbeats 0 in
theorem PySem.Challenge.cw_LID_holds : PySem.Challenge.rw_LID.Holds := by
  w_on; o_law; k_head; (case hw => w_witness2)
  k_fill
  refine L2.walk_of (l := PySem.Challenge.rw_LID) (n := 63) (k := 40) (x := "script") (CX := fun w => ..) (sp := fun _ => My.sp_law) rfl (by decide) rfl ⟨rfl, by decide, by decide⟩ (fun w h Y => PySem.W.kIn_of Y) ?F ?S ?C
  case F =>
    intro w mg fa h KX G hmg
    have T : ∃ t, My.Txt (L2.KOf KX) t := by
      dsimp only [L2.KOf]                          -- K must stand as «<heap const> w.params» for k_is
      refine' My.txt_mk ?e1 ?e2 ?e3 ..
      (case e1 => PySem.W.k_is)                    -- in the order: a name -> its address -> its object -> its parts
      (case e2 => PySem.W.k_is)
      ..
    obtain ⟨t, T⟩ := T
    have e0 := hmg.symm.trans (PySem.W.mg_of KX G T.law)
    cases e0                                       -- fa is the law's own address
    exact ⟨_, fun s u => .of_eq rfl, fun base kb nb => My.law_fn T kb nb⟩     -- if «.of_eq rfl» comes too early: refine' ⟨_, ?b, fun base kb nb => My.law_fn T kb nb⟩; exact fun s u => .of_eq rfl
  case S => exact fun w H a ns hl hO hS => ..
  case C => exact ..
(the tactic k_is has no namespace: write k_is) -/

/-! SHORT WORDS over the layer: a def of the text, its body, what a loop and a test want. -/
namespace L2
open PySem PySem.Spec PyProof.Rows

/-! ### the text by places -/
/-- the j-th statement of a class's body -/
def inClass (s : Stmt) (j : Nat) : Stmt := match s with
  | .ClassDef _ _ _ body _ _ _ _ _ _ _ => body.getD j (.Pass ⟨0, 0, 0, 0⟩)
  | _ => .Pass ⟨0, 0, 0, 0⟩
def defArgs (s : Stmt) : Arguments := match s with
  | .FunctionDef _ a _ _ _ _ _ _ _ _ => a
  | _ => { posonlyargs := [], args := [], vararg := none, kwonlyargs := [], kw_defaults := [], kwarg := none, defaults := [] }
def defBody (s : Stmt) : List Stmt := match s with
  | .FunctionDef _ _ b _ _ _ _ _ _ _ => b
  | _ => []
def defScope (s : Stmt) : Scope := match s with
  | .FunctionDef _ _ _ _ _ _ sc _ _ _ => sc
  | _ => { kind := .function, names := [], isGenerator := false, isCoroutine := false }

/-! ### no exception leaves a def -/
abbrev CX0 : CXT := fun _ _ _ _ _ _ => False
abbrev E0 : XK := fun _ _ _ => False
theorem pass0 {X : Cx} : Passes CX0 X E0 := fun _ _ _ _ _ _ _ h => h.elim

/-! ### a def (or method) of the text as it stands behind the top -/
structure Fun (K : PySem.W.Frag) (x qual : Str) (st : Stmt) (f : Addr) (fd : FuncData) : Prop where
  ex : ∃ (oc : Value) (od : Option Addr) (kV doc pm : Value) (an : Option Addr) (cdv ct : Value) (osl : Array (Option Value)),
    fd = PySem.W.fnOf x qual (defArgs st) (defBody st) (defScope st) .none kV doc pm an cdv ct ∧ K.lookup f = some ⟨oc, od, .func fd, osl⟩ ∧ PySem.W.codeIn K cdv qual = true
  kp : PySem.W.keepIn K (.ref f) = true
section
variable {P : Program} {w : World} {K : PySem.W.Frag} {mg : Str → Option Value} {base : Heap}
/-- THE RULE for a def: its body as a term of rules, and the reading of that term -/
theorem Fun.ok {x qual : Str} {st : Stmt} {f : Addr} {fd : FuncData} {N ps : List Str} {k : Nat} {sp : Sp} (F : Fun K x qual st f fd) (S : FnScope N ps (defScope st)) (len : ∀ vs H Q E, sp vs H Q E → vs.length = ps.length)
    (hbody : ∀ (cdv : Value) (A : Around) (outer : List Env) (s : Shared) (H : Hp) (vs : List V) (Q : VK) (E : XK), Room k (A.deeper (envOfC qual (defScope st) s.heap.objs.size f cdv)) → sp vs H Q E →
      ∃ t, PSs (cxOf CX0 P w K mg base N qual (defScope st) f cdv A outer s H E).nox (defBody st) t ∧ t { nx := fun _ H' => Q .non H', rt := Q } (start N vs) H) : FnOk P w K mg base CX0 (k + 1) f fd ps sp := by
  obtain ⟨oc, od, kV, doc, pm, an, cdv, ct, osl, rfl, lk, hcd⟩ := F.ex
  refine fn_of lk hcd S len fun A outer s H vs Q E hr hsp => ?_
  obtain ⟨t, h, q⟩ := hbody cdv A outer s H vs Q E hr hsp
  exact ⟨t, h.nox, q⟩
/-- how its arguments bind (no defaults): h is «fun _ _ _ _ _ _ us hl => match us, hl with | [_, _], _ => rfl», one _ a parameter -/
theorem Fun.binds {x qual : Str} {st : Stmt} {f : Addr} {fd : FuncData} {ps : List Str} (F : Fun K x qual st f fd)
    (h : ∀ (kV doc pm : Value) (an : Option Addr) (cdv ct : Value) (us : List Value), us.length = ps.length → bindArgs (PySem.W.fnOf x qual (defArgs st) (defBody st) (defScope st) .none kV doc pm an cdv ct) ⟨us, []⟩ = pure (ps.zip us)) : Binds K fd ps [] := by
  obtain ⟨oc, od, kV, doc, pm, an, cdv, ct, osl, rfl, lk, hcd⟩ := F.ex
  exact .all (h kV doc pm an cdv ct)
theorem fun_mk {x qual : Str} {st : Stmt} {f : Addr} {oc : Value} {od an : Option Addr} {osl : Array (Option Value)} {kV doc pm cdv ct : Value} (l : K.lookup f = some ⟨oc, od, .func (PySem.W.fnOf x qual (defArgs st) (defBody st) (defScope st) .none kV doc pm an cdv ct), osl⟩)
    (c : PySem.W.codeIn K cdv qual = true) (k : PySem.W.keepIn K (.ref f) = true) : Fun K x qual st f (PySem.W.fnOf x qual (defArgs st) (defBody st) (defScope st) .none kV doc pm an cdv ct) := ⟨⟨oc, od, kV, doc, pm, an, cdv, ct, osl, rfl, l, c⟩, k⟩
end
theorem hu_of {A : Around} {k : Nat} (hr : Room k A) : A.units + 1 < cLine := Nat.lt_of_le_of_lt (Nat.add_le_add_left (by decide : 1 ≤ 64) _) hr.units
theorem small1000 {n : Nat} (h : n ≤ 1000) : n < sizeLine := Nat.lt_of_le_of_lt h (by decide)

/-! ### expressions in short: the name that stands in the i-th slot -/
section
variable {X : Cx}
theorem pv (i : Nat) {x : Str} {pos : Pos} (hN : X.N[i]? = some x := by rfl) (hv : Vis X.env.scope x := by first | exact Or.inl rfl | exact Or.inr (Or.inl rfl) | exact Or.inr (Or.inr rfl)) (hd : (x == ("__debug__" : Str)) = false := by decide)
    (hcd : (x == ("__classdict__" : Str)) = false := by decide) : PE X (.Name x pos) (tVar i) := pe_var hN hv hd hcd
end

/-! ### tests -/
theorem iteF {A B : Prop} (h : B) : if false = true then A else B := by
  rw [if_neg Bool.false_ne_true]
  exact h
theorem iteT {A B : Prop} (h : A) : if true = true then A else B := by
  rw [if_pos rfl]
  exact h
theorem ite2 {c A B : Prop} [Decidable c] (h1 : c → A) (h2 : ¬ c → B) : if c then A else B := by
  by_cases h : c
  · rw [if_pos h]
    exact h1 h
  · rw [if_neg h]
    exact h2 h
theorem iteNS {c A B : Prop} [Decidable c] (hc : c) (h : B) : if (!decide c) = true then A else B := by
  rw [decide_eq_true hc]
  exact iteF h

/-! ### heaps -/
/-- all that was tracked is as it was -/
def Same (H H' : Hp) : Prop := ∀ b o, H b = some o → H' b = some o
theorem Same.refl (H : Hp) : Same H H := fun _ _ h => h
theorem Same.trans {H H1 H2 : Hp} (a : Same H H1) (b : Same H1 H2) : Same H H2 := fun c o h => b c o (a c o h)
theorem Same.free {H H' : Hp} (e : Same H H') {l : Addr} (h : H' l = Option.none) : H l = Option.none := by
  cases q : H l with
  | none => rfl
  | some o =>
    rw [e l o q] at h
    cases h
theorem Same.seq {K : PySem.W.Frag} {H H' : Hp} {a : Addr} {xs : List V} (e : Same H H') (h : SqL K H a xs) : SqL K H' a xs := by
  rcases h with (h | ⟨o, h⟩) | h
  · exact .inl (.inl (e _ _ h))
  · exact .inl (.inr ⟨o, e _ _ h⟩)
  · exact .inr h

end L2
set_option Elab.async false
set_option linter.all false
set_option maxRecDepth 100000
set_option maxHeartbeats 4000000
namespace Bl
abbrev Rw := Int × Int

/-! rows by cells -/
def rb (g : Int) : Int → List Int → List Rw
  | _, [] => []
  | e, c :: cs => (e + c % 7, 1 + c / 7 % 9) :: rb g (e + c % 7 + 1 + c / 7 % 9 + g) cs
def rbEnd (g : Int) : Int → List Int → Int
  | e, [] => e
  | e, c :: cs => rbEnd g (e + c % 7 + 1 + c / 7 % 9 + g) cs
theorem rb_snoc (g : Int) (c : Int) : ∀ (cs : List Int) (e : Int), rb g e (cs ++ [c]) = rb g e cs ++ [(rbEnd g e cs + c % 7, 1 + c / 7 % 9)]
  | [], e => rfl
  | d :: cs, e => by simp only [List.cons_append, rb, rbEnd, rb_snoc g c cs]
theorem rbEnd_snoc (g : Int) (c : Int) : ∀ (cs : List Int) (e : Int), rbEnd g e (cs ++ [c]) = rbEnd g e cs + c % 7 + 1 + c / 7 % 9 + g
  | [], e => rfl
  | d :: cs, e => by simp only [List.cons_append, rbEnd, rbEnd_snoc g c cs]
theorem rb_length (g : Int) : ∀ (cs : List Int) (e : Int), (rb g e cs).length = cs.length
  | [], _ => rfl
  | c :: cs, e => by simp only [rb, List.length_cons, rb_length g cs]
theorem take_snoc {α : Type} {l : List α} {i : Nat} {x : α} (h : l[i]? = some x) : l.take (i + 1) = l.take i ++ [x] := by
  rw [List.take_add_one, h]; rfl

/-- in order, the gap between, one metre at least -/
def Spaced (g : Int) : Int → List Rw → Prop
  | _, [] => True
  | e, r :: rs => e ≤ r.1 ∧ 1 ≤ r.2 ∧ Spaced g (r.1 + r.2 + g) rs
theorem Spaced.low {g : Int} : ∀ {rs : List Rw} {e e' : Int}, Spaced g e rs → e' ≤ e → Spaced g e' rs
  | [], _, _, _, _ => trivial
  | r :: rs, e, e', h, l => ⟨Int.le_trans l h.1, h.2⟩
theorem rb_spaced {g : Int} : ∀ (cs : List Int) (e : Int), Spaced g e (rb g e cs)
  | [], _ => trivial
  | c :: cs, e => by
    have h1 : 0 ≤ c % 7 := Int.emod_nonneg _ (by decide)
    have h2 : 0 ≤ c / 7 % 9 := Int.emod_nonneg _ (by decide)
    refine ⟨by show e ≤ e + c % 7; omega, by show 1 ≤ 1 + c / 7 % 9; omega, (rb_spaced cs _).low ?_⟩
    show e + c % 7 + (1 + c / 7 % 9) + g ≤ e + c % 7 + 1 + c / 7 % 9 + g
    omega
theorem Spaced.filter {g : Int} (hg : 0 ≤ g) (p : Rw → Bool) : ∀ {rs : List Rw} {e : Int}, Spaced g e rs → Spaced g e (rs.filter p)
  | [], _, _ => trivial
  | r :: rs, e, h => by
    obtain ⟨h1, h2, h3⟩ := h
    rw [List.filter_cons]
    split
    · exact ⟨h1, h2, h3.filter hg p⟩
    · exact (h3.filter hg p).low (by omega)

/-! moved up -/
def mv (g : Int) : Int → List Rw → List Rw
  | _, [] => []
  | e, r :: rs => (e, r.2) :: mv g (e + r.2 + g) rs
def mvEnd (g : Int) : Int → List Rw → Int
  | e, [] => e
  | e, r :: rs => mvEnd g (e + r.2 + g) rs
theorem mv_snoc (g : Int) (r : Rw) : ∀ (rs : List Rw) (e : Int), mv g e (rs ++ [r]) = mv g e rs ++ [(mvEnd g e rs, r.2)]
  | [], e => rfl
  | d :: rs, e => by simp only [List.cons_append, mv, mvEnd, mv_snoc g r rs]
theorem mvEnd_snoc (g : Int) (r : Rw) : ∀ (rs : List Rw) (e : Int), mvEnd g e (rs ++ [r]) = mvEnd g e rs + r.2 + g
  | [], e => rfl
  | d :: rs, e => by simp only [List.cons_append, mvEnd, mvEnd_snoc g r rs]
theorem mv_length (g : Int) : ∀ (rs : List Rw) (e : Int), (mv g e rs).length = rs.length
  | [], _ => rfl
  | c :: cs, e => by simp only [mv, List.length_cons, mv_length g cs]
theorem mv_get (g : Int) : ∀ (rs : List Rw) (e : Int) (k : Nat) (r : Rw), rs[k]? = some r → (mv g e rs)[k]? = some (mvEnd g e (rs.take k), r.2)
  | [], _, k, _, h => by simp at h
  | d :: rs, e, 0, r, h => by simp at h; subst h; rfl
  | d :: rs, e, k + 1, r, h => by
    have h' : rs[k]? = some r := by simpa using h
    have ih := mv_get g rs (e + d.2 + g) k r h'
    simpa [mv, mvEnd] using ih

/-! the longest free stretch -/
def mx (i j : Int) : Int := if j > i then j else i
def lf : Int × Int → List Rw → Int × Int
  | st, [] => st
  | st, r :: rs => lf (mx st.1 (r.1 - st.2), r.1 + r.2) rs
theorem lf_snoc (r : Rw) : ∀ (rs : List Rw) (st : Int × Int), lf st (rs ++ [r]) = (mx (lf st rs).1 (r.1 - (lf st rs).2), r.1 + r.2)
  | [], st => rfl
  | d :: rs, st => by simp only [List.cons_append, lf, lf_snoc r rs]
def longest (rs : List Rw) (q : Int) : Int := mx (lf (0, 0) rs).1 (q - (lf (0, 0) rs).2)

def covR (m : Int) (r : Rw) : Bool := decide (r.1 ≤ m) && decide (m < r.1 + r.2)
def cov (rs : List Rw) (m : Int) : Bool := rs.any (covR m)
def fstep (rs : List Rw) (m : Int) (f : Int) : Int := if cov rs m = true then 0 else f
theorem fstep_snoc (rs : List Rw) (r : Rw) (m f : Int) : fstep (rs ++ [r]) m f = if covR m r = true then 0 else fstep rs m f := by
  unfold fstep cov
  rw [List.any_append]
  cases h1 : rs.any (covR m) <;> cases h2 : covR m r <;> simp [h2]
def run (c : Int → Bool) : Nat → Int × Int
  | 0 => (0, 0)
  | n + 1 => (mx (run c n).1 (if c (n : Int) = true then 0 else (run c n).2 + 1), if c (n : Int) = true then 0 else (run c n).2 + 1)
theorem run_nonneg (c : Int → Bool) : ∀ n, 0 ≤ (run c n).2 ∧ (run c n).2 ≤ (run c n).1
  | 0 => by simp [run]
  | n + 1 => by
    have ih := run_nonneg c n
    simp only [run, mx]
    split <;> split <;> omega
theorem run_free (c : Int → Bool) (a : Nat) : ∀ n : Nat, (∀ k : Nat, k < n → c ((a + k : Nat) : Int) = false) → run c (a + n) = (mx (run c a).1 ((run c a).2 + n), (run c a).2 + n)
  | 0, _ => by
    have := run_nonneg c a
    simp only [Nat.add_zero, Int.natCast_zero, Int.add_zero, mx]
    split
    · omega
    · rfl
  | n + 1, h => by
    have ih := run_free c a n fun k hk => h k (by omega)
    have hc := h n (by omega)
    have e : a + (n + 1) = (a + n) + 1 := by omega
    rw [e]
    simp only [run, ih, hc]
    have := run_nonneg c a
    refine Prod.ext ?_ ?_
    · simp only [mx, Bool.false_eq_true, if_false]
      split <;> split <;> split <;> omega
    · simp only [Bool.false_eq_true, if_false]
      omega
theorem run_cov (c : Int → Bool) (a : Nat) : ∀ n : Nat, 0 < n → (∀ k : Nat, k < n → c ((a + k : Nat) : Int) = true) → run c (a + n) = ((run c a).1, 0)
  | 0, h, _ => by omega
  | n + 1, _, h => by
    have hc := h n (by omega)
    have e : a + (n + 1) = (a + n) + 1 := by omega
    rw [e]
    by_cases h0 : n = 0
    · subst h0
      have hc' : c ((a : Nat) : Int) = true := by simpa using hc
      have := run_nonneg c a
      simp only [run, Nat.add_zero, hc', if_true, mx]
      refine Prod.ext ?_ rfl
      show (if _ then _ else _) = _
      split <;> omega
    · have ih := run_cov c a n (by omega) fun k hk => h k (by omega)
      have := run_nonneg c a
      simp only [run, ih, hc, if_true, mx]
      refine Prod.ext ?_ rfl
      show (if _ then _ else _) = _
      split <;> omega
def Within (q : Int) (rs : List Rw) : Prop := ∀ r ∈ rs, r.1 + r.2 ≤ q
theorem spaced_above {g : Int} (hg : 0 ≤ g) : ∀ {rs : List Rw} {e : Int}, Spaced g e rs → ∀ r ∈ rs, e ≤ r.1 ∧ 1 ≤ r.2
  | [], _, _, _, h => by simp at h
  | d :: rs, e, h, r, hr => by
    obtain ⟨h1, h2, h3⟩ := h
    rcases List.mem_cons.mp hr with rfl | hr
    · exact ⟨h1, h2⟩
    · have := spaced_above hg h3 r hr
      exact ⟨by omega, this.2⟩
theorem run_rows (c : Int → Bool) (q : Int) : ∀ (rs : List Rw) (e d : Int), Spaced 0 e rs → Within q rs → 0 ≤ e → e ≤ q → run c e.toNat = (d, 0) →
    (∀ m, e ≤ m → c m = cov rs m) → (run c q.toNat).1 = mx (lf (d, e) rs).1 (q - (lf (d, e) rs).2)
  | [], e, d, _, _, h0, hq, hr, hc => by
    have e1 : q.toNat = e.toNat + (q.toNat - e.toNat) := by omega
    rw [e1, run_free c e.toNat (q.toNat - e.toNat) (fun k hk => by rw [hc _ (by omega)]; rfl), hr]
    show mx d (0 + _) = mx d (q - e)
    congr 1
    omega
  | r :: rs, e, d, hs, hw, h0, hq, hr, hc => by
    obtain ⟨h1, h2, h3⟩ := hs
    have hwr := hw r List.mem_cons_self
    have above := spaced_above (Int.le_refl 0) h3
    have e1 : r.1.toNat = e.toNat + (r.1.toNat - e.toNat) := by omega
    have s1 : run c r.1.toNat = (mx d (r.1 - e), r.1 - e) := by
      rw [e1, run_free c e.toNat (r.1.toNat - e.toNat) (fun k hk => ?_), hr]
      · have e2 : (0 : Int) + ((r.1.toNat - e.toNat : Nat) : Int) = r.1 - e := by omega
        show (mx d _, _) = _
        rw [e2]
      · rw [hc _ (by omega)]
        simp only [cov, List.any_cons, Bool.or_eq_false_iff, List.any_eq_false]
        refine ⟨by simp only [covR]; simp; omega, fun x hx => ?_⟩
        have := above x hx
        simp only [covR]; simp; omega
    have e3 : (r.1 + r.2).toNat = r.1.toNat + r.2.toNat := by omega
    have s2 : run c (r.1 + r.2).toNat = (mx d (r.1 - e), 0) := by
      rw [e3, run_cov c r.1.toNat r.2.toNat (by omega) (fun k hk => ?_), s1]
      rw [hc _ (by omega)]
      simp only [cov, List.any_cons, Bool.or_eq_true]
      left
      simp only [covR]; simp; omega
    have h3' : Spaced 0 (r.1 + r.2) rs := h3.low (by omega)
    refine run_rows c q rs (r.1 + r.2) (mx d (r.1 - e)) h3' (fun x hx => hw x (List.mem_cons_of_mem _ hx)) (by omega) hwr s2 fun m hm => ?_
    rw [hc m (by omega)]
    simp only [cov, List.any_cons]
    have : covR m r = false := by simp only [covR]; simp; omega
    rw [this, Bool.false_or]
theorem longest_ok {rs : List Rw} {q : Int} (hs : Spaced 0 0 rs) (hw : Within q rs) (hq : 0 ≤ q) : (run (cov rs) q.toNat).1 = longest rs q :=
  run_rows (cov rs) q rs 0 0 hs hw (Int.le_refl 0) hq rfl fun _ _ => rfl

/-! the first place -/
def fp (len g q : Int) : Int → List Rw → Option Int
  | p, [] => if p + len ≤ q then some p else none
  | p, r :: rs => if p + len + g ≤ r.1 then some p else fp len g q (r.1 + r.2 + g) rs
def meets (len g p : Int) (r : Rw) : Bool := decide (p < r.1 + r.2 + g) && decide (r.1 < p + len + g)
def clear (len g : Int) (rs : List Rw) (p : Int) : Bool := !rs.any (meets len g p)
/-- the greatest-to-least search: the last that is clear among n places below hi -/
def due (c : Int → Bool) (hi : Int) : Nat → Option Int
  | 0 => none
  | n + 1 => if c (hi - n) = true then some (hi - n) else due c hi n
theorem due_none {c : Int → Bool} {hi : Int} : ∀ {n : Nat}, (∀ k : Nat, k < n → c (hi - k) = false) → due c hi n = none
  | 0, _ => rfl
  | n + 1, h => by
    rw [due, h n (by omega)]
    exact due_none fun k hk => h k (by omega)
theorem due_some {c : Int → Bool} {hi p : Int} (hp : c p = true) : ∀ {n : Nat}, hi - n < p → p ≤ hi → (∀ x, hi - n < x → x < p → c x = false) → due c hi n = some p
  | 0, h1, h2, _ => by omega
  | n + 1, h1, h2, h => by
    by_cases e : hi - (n : Int) = p
    · rw [due, e, hp]; rfl
    · rw [due, h (hi - n) (by omega) (by omega)]
      exact due_some hp (by omega) h2 fun x hx hx' => h x (by omega) hx'
theorem fp_spec {len g q : Int} (hl : 1 ≤ len) (hg : 0 ≤ g) (hq : 0 ≤ q) (all : List Rw) : ∀ (rs : List Rw) (p : Int), Spaced g p rs → Within q rs → 0 ≤ p →
    (∀ x, p ≤ x → clear len g all x = clear len g rs x) → (∀ x, 0 ≤ x → x < p → clear len g all x = false) →
    match fp len g q p rs with
    | some r => 0 ≤ r ∧ r + len ≤ q ∧ clear len g all r = true ∧ ∀ x, 0 ≤ x → x < r → clear len g all x = false
    | none => ∀ x, 0 ≤ x → x + len ≤ q → clear len g all x = false
  | [], p, _, _, h0, hc, hb => by
    by_cases e : p + len ≤ q
    · simp only [fp, if_pos e]
      exact ⟨h0, e, by rw [hc p (Int.le_refl _)]; rfl, hb⟩
    · simp only [fp, if_neg e]
      exact fun x hx hx' => hb x hx (by omega)
  | r :: rs, p, hs, hw, h0, hc, hb => by
    obtain ⟨h1, h2, h3⟩ := hs
    have hwr := hw r List.mem_cons_self
    have above := spaced_above hg h3
    by_cases e : p + len + g ≤ r.1
    · simp only [fp, if_pos e]
      refine ⟨h0, by omega, ?_, hb⟩
      rw [hc p (Int.le_refl _)]
      simp only [clear, Bool.not_eq_true', List.any_cons, Bool.or_eq_false_iff, List.any_eq_false]
      refine ⟨by simp only [meets]; simp; omega, fun y hy => ?_⟩
      have := above y hy
      simp only [meets]; simp; omega
    · simp only [fp, if_neg e]
      refine fp_spec hl hg hq all rs (r.1 + r.2 + g) h3 (fun y hy => hw y (List.mem_cons_of_mem _ hy)) (by omega) (fun x hx => ?_) fun x hx hx' => ?_
      · rw [hc x (by omega)]
        simp only [clear, List.any_cons]
        have : meets len g x r = false := by simp only [meets]; simp; omega
        rw [this, Bool.false_or]
      · by_cases l : x < p
        · exact hb x hx l
        · rw [hc x (by omega)]
          simp only [clear, List.any_cons]
          have : meets len g x r = true := by simp only [meets]; simp; omega
          rw [this, Bool.true_or]; rfl
theorem fp_due {len g q : Int} {rs : List Rw} (hl : 1 ≤ len) (hg : 0 ≤ g) (hq : 0 ≤ q) (hs : Spaced g 0 rs) (hw : Within q rs) : fp len g q 0 rs = due (clear len g rs) (q - len) (q - len + 1).toNat := by
  have h := fp_spec hl hg hq rs rs 0 hs hw (Int.le_refl 0) (fun _ _ => rfl) (fun x h1 h2 => by omega)
  cases e : fp len g q 0 rs with
  | some r =>
    rw [e] at h
    obtain ⟨h1, h2, h3, h4⟩ := h
    exact (due_some h3 (by omega) (by omega) fun x hx hx' => h4 x (by omega) hx').symm
  | none =>
    rw [e] at h
    refine (due_none fun k hk => h _ (by omega) (by omega)).symm
end Bl
namespace L2
open PySem PySem.Spec PyProof.Rows

/-! ### isinstance, by values -/
section
variable {X : Cx} {pins : List (Addr × Obj)} {σ : St} {H : Hp} {s : Shared}
theorem TyOf.kit {x : V} {u t : Value} (I : Inv X pins σ H s) (rx : RelV x u) (ty : TyOf X.K H x t) : ∃ HP : Heap → Prop, PySem.W.KitX X.K u t HP ∧ HP s.heap ∧ u ≠ .builtin "__main__.__loader__#opaque" := by
  cases ty with
  | non => cases (show u = Value.none from rx); exact ⟨_, PySem.W.kitx_none, True.intro, fun z => nomatch z⟩
  | bl y => cases (show u = Value.bool y from rx); exact ⟨_, PySem.W.kitx_bool, True.intro, fun z => nomatch z⟩
  | int i => obtain ⟨t, q⟩ := (show ∃ t, u = Value.int i t from rx); cases q; exact ⟨_, PySem.W.kitx_int, True.intro, fun z => nomatch z⟩
  | str y => obtain ⟨t, q⟩ := (show ∃ t, u = Value.str y t from rx); cases q; exact ⟨_, PySem.W.kitx_str, True.intro, fun z => nomatch z⟩
  | flt y => obtain ⟨t, q⟩ := (show ∃ t, u = Value.float y t from rx); cases q; exact ⟨_, PySem.W.kitx_float, True.intro, fun z => nomatch z⟩
  | @lst a xs ea =>
    cases (show u = Value.ref a from rx)
    obtain ⟨_, _, n, _, h1⟩ := (show ObjOk X.prog X.w H s.heap a (.lst xs) from I.hok a _ ea)
    exact ⟨_, PySem.W.kitx_list, ⟨_, h1, rfl⟩, fun z => nomatch z⟩
  | @frz a ob xs ea =>
    cases (show u = Value.ref a from rx)
    obtain ⟨_, _, _, n, _, h1⟩ := (show ObjOk X.prog X.w H s.heap a (.frz ob (.lst xs)) from I.hok a _ ea)
    exact ⟨_, PySem.W.kitx_list, ⟨_, h1, rfl⟩, fun z => nomatch z⟩
  | @tup a xs ea =>
    cases (show u = Value.ref a from rx)
    obtain ⟨_, _, _, p⟩ := (show ObjOk X.prog X.w H s.heap a (.tup xs) from I.hok a _ ea)
    obtain ⟨o, h1, h2, _⟩ := p
    exact ⟨_, PySem.W.kitx_tuple, ⟨o, h1, h2⟩, fun z => nomatch z⟩
  | @dK a kvs ea =>
    cases (show u = Value.ref a from rx)
    obtain ⟨_, _, vs, _, p⟩ := (show ObjOk X.prog X.w H s.heap a (.dK kvs) from I.hok a _ ea)
    obtain ⟨o, es, ep, h1, h2, _⟩ := p
    exact ⟨_, PySem.W.kitx_dict, ⟨o, h1, h2.1⟩, fun z => nomatch z⟩
  | @dT a kvs ea =>
    cases (show u = Value.ref a from rx)
    obtain ⟨_, _, xs, _, o, es, ep, h1, h2, _⟩ := (show ObjOk X.prog X.w H s.heap a (.dT kvs) from I.hok a _ ea)
    exact ⟨_, PySem.W.kitx_dict, ⟨o, h1, h2.1⟩, fun z => nomatch z⟩
  | @ins a C dx fs ea cl ha hn htk hm =>
    cases (show u = Value.ref a from rx)
    obtain ⟨mA, O, _⟩ := ins_get I.hok ea
    obtain ⟨od, J, _⟩ := O.look
    exact ⟨_, PySem.W.kitx_own (cl.get _) cl.hd ha hn htk hm, J, fun z => nomatch z⟩
def rIsi (K : PySem.W.Frag) : List V → Hp → VK → Prop := fun xs H Q => ∃ x n t b, xs = [x, .ty n] ∧ TyOf K H x t ∧ PySem.W.kitOne K t (.type n) = some b ∧ Q (.bl b) H
theorem call_isi : CallR X (.builtin "isinstance") (rIsi X.K) := by
  intro pins s σ H xs us Q I r h
  obtain ⟨x, n, t, b, rfl, ty, e, q⟩ := h
  obtain ⟨u, c, rfl, ru, rc⟩ := vals2 r
  cases (show c = Value.type n from rc)
  exact isinst_ok I ru ty e fun tk => ⟨.bl b, H, I.tok tk, rfl, q⟩
theorem vals_ty : ∀ {ns : List String} {its : List Value}, Vals (ns.map V.ty) its → its = ns.map Value.type
  | [], _, .nil => rfl
  | n :: ns, _, .cons r t => by
    cases (show _ = Value.type n from r)
    rw [vals_ty t]; rfl
/-- isinstance with a tuple of built-in classes -/
def rIsiT (K : PySem.W.Frag) : List V → Hp → VK → Prop := fun xs H Q => ∃ x p ns t b, xs = [x, .ref p] ∧ H p = some (.tup (List.map V.ty ns)) ∧ TyOf K H x t ∧ PySem.W.kitAny K t (List.map Value.type ns) = some b ∧ Q (.bl b) H
theorem call_isiT : CallR X (.builtin "isinstance") (rIsiT X.K) := by
  intro pins s σ H xs us Q I r h
  obtain ⟨x, p, ns, t, b, rfl, hp, ty, e, q⟩ := h
  obtain ⟨u, c, rfl, ru, rc⟩ := vals2 r
  cases (show c = Value.ref p from rc)
  obtain ⟨HP, Z, hz, hx⟩ := TyOf.kit I ru ty
  obtain ⟨_, its, rv, o, h1, h2, n, h3⟩ := (show ObjOk X.prog X.w H s.heap p (.tup (List.map V.ty ns)) from I.hok p _ hp)
  obtain ⟨oc, od, odt, osl⟩ := o
  cases (show oc = .type "tuple" from h2)
  cases (show odt = .seq its.toArray n from h3)
  rw [← vals_ty rv] at e
  exact PySem.W.kia_tup Z I.kIn hz h1 e hx fun tk => ⟨.bl b, H, I.tok tk, rfl, q⟩
end
theorem kit_ii (K : PySem.W.Frag) : PySem.W.kitOne K (.type "int") (.type "int") = some true := by kernel_rfl
theorem kit_ib (K : PySem.W.Frag) : PySem.W.kitOne K (.type "int") (.type "bool") = some false := by kernel_rfl
theorem kit_is (K : PySem.W.Frag) : PySem.W.kitOne K (.type "int") (.type "str") = some false := by kernel_rfl
theorem kit_il (K : PySem.W.Frag) : PySem.W.kitOne K (.type "int") (.type "list") = some false := by kernel_rfl
theorem kit_it (K : PySem.W.Frag) : PySem.W.kitOne K (.type "int") (.type "tuple") = some false := by kernel_rfl
theorem kit_ll (K : PySem.W.Frag) : PySem.W.kitOne K (.type "list") (.type "list") = some true := by kernel_rfl
theorem kit_lt (K : PySem.W.Frag) : PySem.W.kitOne K (.type "list") (.type "tuple") = some false := by kernel_rfl
theorem kit_tl (K : PySem.W.Frag) : PySem.W.kitOne K (.type "tuple") (.type "list") = some false := by kernel_rfl
theorem kit_tt (K : PySem.W.Frag) : PySem.W.kitOne K (.type "tuple") (.type "tuple") = some true := by kernel_rfl
theorem kit_ss (K : PySem.W.Frag) : PySem.W.kitOne K (.type "str") (.type "str") = some true := by kernel_rfl
theorem kit_sb (K : PySem.W.Frag) : PySem.W.kitOne K (.type "str") (.type "bool") = some false := by kernel_rfl
theorem kit_si (K : PySem.W.Frag) : PySem.W.kitOne K (.type "str") (.type "int") = some false := by kernel_rfl
abbrev LTs : List String := ["list", "tuple"]
theorem kita_i (K : PySem.W.Frag) : PySem.W.kitAny K (.type "int") (List.map Value.type LTs) = some false := by kernel_rfl
theorem kita_s (K : PySem.W.Frag) : PySem.W.kitAny K (.type "str") (List.map Value.type LTs) = some false := by kernel_rfl
theorem kita_l (K : PySem.W.Frag) : PySem.W.kitAny K (.type "list") (List.map Value.type LTs) = some true := by kernel_rfl
theorem kita_t (K : PySem.W.Frag) : PySem.W.kitAny K (.type "tuple") (List.map Value.type LTs) = some true := by kernel_rfl

/-! ### a range that goes down by one -/
def Itd (hi : Int) (n : Nat) : It := ⟨fun i _ => i < n, fun i H x H' => H' = H ∧ x = .int (hi - i), fun i _ => n ≤ i⟩
theorem turn_down {P : Program} {w : World} {K : PySem.W.Frag} {tg : Expr} (it : Addr) (hi : Int) (n : Nat) : Turn P w K tg (Itd hi n) [it] it (fun i h => IsRangeIter h it (hi + (i : Nat) * (-1)) ((n : Int) - (i : Nat)) (-1)) where
  mem := by simp
  obj := fun i h st b hb => by
    have e : b = it := by simpa using hb
    subst e
    exact ⟨_, st, fun v z => by
      have z' : Data.fields _ = Data.cell v := z
      cases z'⟩
  keep := fun i h h' st k => k it (by simp) _ st
  item := by
    intro X hP hw hK hc i pins s σ H E I hf st hg
    subst hP hw hK
    obtain ⟨f0, f1, f2, f3, f4, f5⟩ := hf it (by simp)
    have W := Walks.range (prog := X.prog) (w := X.w) (I.ok.hd hc) it hi (-1) n
    refine W.item i s _ _ hg st fun v h' tk hv st' kk => ?_
    obtain ⟨t, rfl⟩ := hv
    have I1 : Inv X pins σ H { s with heap := h', toks := tk } := I.turned (fun b o hb e => kk b o (by simpa using hb) e) f0 f1 f3 f4 f5
    refine ⟨_, rfl, go_of (s := { s with heap := h', toks := tk }) (n := "range_iterator") st' rfl rfl (by decide) ⟨.int (hi - i), H, I1, ⟨t, ?_⟩, ⟨rfl, rfl⟩, st', fun b hb => (hf b hb).1⟩⟩
    congr 1
    omega
  done := by
    intro X hP hw hK hc i pins s σ H E I hf st hg
    subst hP hw hK
    obtain ⟨f0, f1, f2, f3, f4, f5⟩ := hf it (by simp)
    exact wpAny_pyNext_range_end (I.ok.hd hc) st (by have : n ≤ i := hg; omega) fun h' eb => ⟨rfl, I.turned (t' := s.toks) (fun b o hb e => eb b o hb e) f0 f1 f3 f4 f5⟩
  self := fun _ _ _ _ _ st h => wpAny_pyIter_rangeiter st h
section
variable {X : Cx} {tg : Expr}
theorem down_it {pins : List (Addr × Obj)} {σ : St} {H : Hp} {s : Shared} {R : It → Hp → Prop} {E : Value → Shared → Prop} {hi lo : Int} {t u v : Tok} {tk : Nat} (I : Inv X pins σ H s) (h1 : -(2 ^ 62) ≤ hi) (h2 : hi < 2 ^ 62) (h3 : -(2 ^ 62) ≤ lo) (h4 : lo < 2 ^ 62)
    (q : R (Itd hi (hi - lo).toNat) H) : wpAny (model X.prog X.w) X.A (pyIter (.ref s.heap.objs.size)) (PIE X pins σ tg R) E { s with heap := s.heap.push { cls := .type "range", data := .fields #[.int hi t, .int lo u, .int (-1) v] }, toks := tk } := by
  refine wpAny_pyIter_range (IsRange.new ..) (PySem.W.small_down h1 h2 h3 h4) ?_
  have I1 : Inv X pins σ H { s with heap := s.heap.push { cls := .type "range", data := .fields #[.int hi t, .int lo u, .int (-1) v] }, toks := tk } := I.kept fun b o e => Heap.get?_push_of_some _ e
  refine ⟨(s.heap.push { cls := .type "range", data := .fields #[.int hi t, .int lo u, .int (-1) v] }).objs.size, [(s.heap.push { cls := .type "range", data := .fields #[.int hi t, .int lo u, .int (-1) v] }).objs.size], _, _, H, rfl,
    I1.kept (t' := tk) fun b o e => Heap.get?_push_of_some _ e, turn_down _ hi (hi - lo).toNat, ?_, fun b hb => ?_, q⟩
  · have e1 : hi + ((0 : Nat) : Int) * (-1) = hi := by simp
    have e2 : (((hi - lo).toNat : Nat) : Int) - ((0 : Nat) : Int) = Builtin.Range.rangeSize hi lo (-1) := by rw [PySem.W.rangeSize_downNat]; omega
    show IsRangeIter _ _ (hi + ((0 : Nat) : Int) * (-1)) ((((hi - lo).toNat : Nat) : Int) - ((0 : Nat) : Int)) (-1)
    rw [e1, e2]
    exact Heap.get?_push_size _ rfl
  · have e : b = (s.heap.push { cls := .type "range", data := .fields #[.int hi t, .int lo u, .int (-1) v] }).objs.size := by simpa using hb
    subst e
    exact I1.fpOk (Nat.le_refl _) (I1.hok.fresh (Nat.le_refl _))
def iDown (ta : TA) : TI := fun σ H R => ta σ H fun vs H1 => ∃ i j : Int, vs = [.int i, .int j, .int (-1)] ∧ (-(2 ^ 62) ≤ i ∧ i < 2 ^ 62 ∧ -(2 ^ 62) ≤ j ∧ j < 2 ^ 62) ∧ R (Itd i (i - j).toNat) H1
theorem pi_down {a b c : Expr} {ta : TA} {p pos : Pos} (hg : Gl X "range") (hm : X.mg "range" = none) (ha : PA X [a, b, c] ta) (hs : starEach [a, b, c] X.env = (false, eval a X.env) :: starEach [b, c] X.env := by rfl) (hpl : (backTo pos (starEach [b, c] X.env)).any (·.1) = false := by rfl) :
    PI X tg (.Call (.Name "range" p) [a, b, c] [] pos) (iDown ta) := by
  intro pins s σ H R I h
  refine Call_ (ld_blt I hg hm boot_range (PyProof.Rows.callWith_type1 (thn (ha pos pins s σ H _ I h) fun us s1 ⟨vs, H1, I1, r1, q1⟩ => ?_) hs hpl))
  obtain ⟨i, j, e, ⟨q1, q2, q3, q4⟩, q⟩ := q1
  subst e
  cases r1 with
  | cons r rr =>
    cases rr with
    | cons r' rr =>
      cases rr with
      | cons r'' rr =>
        cases rr
        obtain ⟨t, rfl⟩ := r
        obtain ⟨t', rfl⟩ := r'
        obtain ⟨t'', rfl⟩ := r''
        exact call_range_3 (by decide) (down_it I1 q1 q2 q3 q4 q) (Or.inl (PyProof.noPylong_small (by decide)))
end
theorem for_down {hi : Int} {n : Nat} {g : TG} {tb : TS} {D : Ends} {σ : St} {H : Hp} (Pv : Nat → St → Hp → Prop) (h0 : Pv 0 σ H)
    (hs : ∀ i σ H, i < n → Pv i σ H → g (.int (hi - i)) σ H fun σ2 H2 => tb { D with nx := Pv (i + 1), ct := Pv (i + 1), bk := D.nx } σ2 H2) (hd : ∀ σ H, Pv n σ H → D.nx σ H) :
    ∃ W : Nat → Nat → St → Hp → Prop, (∃ m, W 0 m σ H) ∧ ∀ i m σ H, W i m σ H →
      ((Itd hi n).stop i H ∧ D.nx σ H) ∨ ((Itd hi n).go i H ∧ ∃ N : St → Hp → Prop, (∀ σ' H', N σ' H' → ∃ m', m' < m ∧ W (i + 1) m' σ' H') ∧ ∀ x H', (Itd hi n).yld i H x H' → g x σ H' fun σ2 H2 => tb { D with nx := N, ct := N, bk := D.nx } σ2 H2) := by
  refine ⟨fun i m σ H => m = n - i ∧ i ≤ n ∧ Pv i σ H, ⟨n, by simp, Nat.zero_le _, h0⟩, ?_⟩
  rintro i m σ H ⟨rfl, hi', p⟩
  by_cases hlt : i < n
  · refine .inr ⟨hlt, Pv (i + 1), fun σ' H' p' => ⟨n - (i + 1), by omega, rfl, hlt, p'⟩, fun x H' y => ?_⟩
    obtain ⟨e, y⟩ := y
    subst e y
    exact hs i σ _ hlt p
  · have e : i = n := by omega
    subst e
    exact .inl ⟨Nat.le_refl _, hd σ H p⟩
end L2
namespace Bl
open PySem PySem.Spec PyProof.Rows L2
/-! ### rows on the heap -/
def Pairs (H : Hp) (as : List Addr) (rs : List Rw) : Prop := Paired (fun a (r : Rw) => H a = some (.tup [.int r.1, .int r.2])) as rs
structure RowsAt (H : Hp) (p : Addr) (as : List Addr) (rs : List Rw) : Prop where
  ls : H p = some (.lst (as.map V.ref))
  ps : Pairs H as rs
theorem Pairs.mono {H H' : Hp} : ∀ {as : List Addr} {rs : List Rw}, Pairs H as rs → (∀ a xs, H a = some (.tup xs) → H' a = some (.tup xs)) → Pairs H' as rs
  | _, _, .nil, _ => .nil
  | _, _, .cons r t, k => .cons (k _ _ r) (Pairs.mono t k)
theorem Pairs.same {H H' : Hp} {as : List Addr} {rs : List Rw} (h : Pairs H as rs) (k : Same H H') : Pairs H' as rs := h.mono fun a xs e => k a _ e
theorem RowsAt.same {H H' : Hp} {p : Addr} {as : List Addr} {rs : List Rw} (h : RowsAt H p as rs) (k : Same H H') : RowsAt H' p as rs := ⟨k _ _ h.ls, h.ps.same k⟩
theorem Pairs.snoc {H : Hp} {a : Addr} {r : Rw} (e : H a = some (.tup [.int r.1, .int r.2])) : ∀ {as : List Addr} {rs : List Rw}, Pairs H as rs → Pairs H (as ++ [a]) (rs ++ [r])
  | _, _, .nil => .cons e .nil
  | _, _, .cons q t => .cons q (Pairs.snoc e t)
theorem Pairs.len {H : Hp} : ∀ {as : List Addr} {rs : List Rw}, Pairs H as rs → as.length = rs.length
  | _, _, .nil => rfl
  | _, _, .cons _ t => by simp [Pairs.len t]
theorem Pairs.get {H : Hp} : ∀ {as : List Addr} {rs : List Rw} {i : Nat} {a : Addr}, Pairs H as rs → as[i]? = some a → ∃ r, rs[i]? = some r ∧ H a = some (.tup [.int r.1, .int r.2])
  | _, _, _, _, .nil, e => by simp at e
  | _, _, 0, _, .cons r _, e => by simp at e; subst e; exact ⟨_, rfl, r⟩
  | _, _, i + 1, a, .cons _ t, e => by
    obtain ⟨r, h1, h2⟩ := Pairs.get (i := i) (a := a) t (by simpa using e)
    exact ⟨r, by simpa using h1, h2⟩
theorem Pairs.at {H : Hp} {as : List Addr} {rs : List Rw} {i : Nat} {r : Rw} (h : Pairs H as rs) (e : rs[i]? = some r) : ∃ a, as[i]? = some a ∧ H a = some (.tup [.int r.1, .int r.2]) := by
  have hl := h.len
  have hi : i < rs.length := (List.getElem?_eq_some_iff.mp e).1
  have ea : as[i]? = some (as[i]'(by omega)) := List.getElem?_eq_getElem (by omega)
  obtain ⟨r', h1, h2⟩ := h.get ea
  rw [e] at h1; cases h1
  exact ⟨_, ea, h2⟩
theorem Pairs.mem {H : Hp} : ∀ {as : List Addr} {rs : List Rw}, Pairs H as rs → ∀ a ∈ as, ∃ r : Rw, H a = some (.tup [.int r.1, .int r.2])
  | _, _, .nil, _, h => by simp at h
  | _, _, .cons q t, a, h => by
    rcases List.mem_cons.mp h with rfl | h
    · exact ⟨_, q⟩
    · exact Pairs.mem t a h
/-- the chosen ones -/
def sel (f : Rw → Bool) : List Addr → List Rw → List Addr
  | a :: as, r :: rs => if f r = true then a :: sel f as rs else sel f as rs
  | _, _ => []
theorem Pairs.sel {H : Hp} (f : Rw → Bool) : ∀ {as : List Addr} {rs : List Rw}, Pairs H as rs → Pairs H (sel f as rs) (rs.filter f)
  | _, _, .nil => .nil
  | a :: as, r :: rs, .cons q t => by
    have ih := Pairs.sel f t
    rw [List.filter_cons]
    show Pairs H (if f r = true then a :: Bl.sel f as rs else Bl.sel f as rs) _
    by_cases h : f r = true
    · rw [if_pos h, if_pos h]; exact .cons q ih
    · rw [if_neg h, if_neg h]; exact ih
theorem upd_same_of {H : Hp} {p : Addr} {o : HO} (h : H p = none) : Same H (upd H p o) := fun b u e => by
  rw [upd_ne (ne_of_none e h)]; exact e
/-- all but p is as it was -/
def But (p : Addr) (H H' : Hp) : Prop := ∀ b o, H b = some o → b ≠ p → H' b = some o
end Bl
namespace L2
open PySem PySem.Spec PyProof.Rows
theorem ObjOk.there {P : Program} {w : World} {H : Hp} {h : Heap} {a : Addr} {o : HO} (x : ObjOk P w H h a o) : ∃ u, h.get? a = some u := by
  cases o with
  | lst xs => obtain ⟨_, _, _, _, e⟩ := x; exact ⟨_, e⟩
  | tup xs => obtain ⟨_, _, _, o, e, _⟩ := x; exact ⟨_, e⟩
  | dK kvs => obtain ⟨_, _, _, _, o, _, _, e, _⟩ := x; exact ⟨_, e⟩
  | dT kvs => obtain ⟨_, _, _, _, o, _, _, e, _⟩ := x; exact ⟨_, e⟩
  | set S n => obtain ⟨o, _, _, _, e, _⟩ := x; exact ⟨_, e⟩
  | ins C dx fs => obtain ⟨_, _, _, e, _⟩ := x; exact ⟨_, e⟩
  | own y => exact x
  | xd fs => obtain ⟨_, ⟨_, _, _, e, _⟩, _⟩ := x; exact ⟨_, e⟩
  | rng lo hi => obtain ⟨_, _, _, e⟩ := x; exact ⟨_, e⟩
  | frz ob u => obtain ⟨e, _⟩ := x; exact ⟨_, e⟩
  | tbl ps => obtain ⟨_, e, _⟩ := x; exact ⟨_, e⟩
  | met f y => exact ⟨_, x⟩
  | ext φ => obtain ⟨_, e, _⟩ := x; exact e
theorem ns_uniq {h : Heap} {a : Addr} {m m2 : Str → Option Value} (h1 : h.Ns a m) (h2 : h.Ns a m2) (x : Str) : m x = m2 x := by
  obtain ⟨o, es, ep, ho, hd, _, hf⟩ := h1
  obtain ⟨o2, es2, ep2, ho2, hd2, _, hf2⟩ := h2
  rw [ho] at ho2; cases ho2
  rw [hd] at hd2; cases hd2
  rw [← hf x, ← hf2 x]
section
variable {X : Cx} {pins : List (Addr × Obj)} {σ : St} {H : Hp} {s : Shared}
theorem Inv.nogo (I : Inv X pins σ H s) {a : Addr} (h : s.heap.get? a = none) : H a = none := by
  cases q : H a with
  | none => rfl
  | some u =>
    obtain ⟨o, e⟩ := (I.hok a u q).there
    rw [h] at e; cases e
/-- a new list d is tracked, an iterator of ours has turned, a local name of the frame is stored -/
theorem Inv.comped {it d : Addr} {xs : List V} {ys : Array Value} {h' : Heap} {tk : Nat} {m : Str → Option Value} {y : Str} {j : Nat} (I : Inv X pins σ H s) (hm : s.heap.Ns X.env.locals m)
    (hN : X.N.Nodup) (hj : X.N[j]? = some y) (hy : X.env.kindOf y = some .local) (f : FpOk X pins H it)
    (hd : s.heap.get? d = none) (pl : h'.PlainList d ys) (rv : Vals xs ys.toList) (hz : xs.length ≤ sizeLine)
    (hn' : h'.Ns X.env.locals (fun z => if z = y then some (.ref d) else m z))
    (hk : ∀ b o, b ≠ X.env.locals → b ∉ [it] → s.heap.get? b = some o → h'.get? b = some o) :
    Inv X pins (σ.set j (some (.ref d))) (upd H d (.lst xs)) { s with heap := h', toks := tk } := by
  obtain ⟨f0, f1, f2, f3, f4, f5⟩ := f
  have hd0 : H d = none := I.nogo hd
  have nd : ∀ {b : Addr} {o : Obj}, s.heap.get? b = some o → b ≠ d := fun e z => by rw [z, hd] at e; cases e
  have ndH : ∀ {b : Addr} {o : HO}, H b = some o → b ≠ d := fun e z => by rw [z, hd0] at e; cases e
  have k2 : ∀ b o, b ≠ X.env.locals → b ≠ it → s.heap.get? b = some o → h'.get? b = some o := fun b o h1 h2 e => hk b o h1 (by simpa using h2) e
  have neL : ∀ b o, X.s₀.heap.get? b = some o → b ≠ X.env.locals := fun b o e => Nat.ne_of_lt (Nat.lt_of_lt_of_le (Heap.lt_size e) I.ok.above)
  have neI : ∀ b o, X.s₀.heap.get? b = some o → b ∉ X.ex → b ≠ it := fun b o e hx z => by
    subst z
    rcases f3 with z | z
    · exact hx z
    · exact absurd (Nat.lt_of_lt_of_le (Heap.lt_size e) z) (Nat.lt_irrefl _)
  have hjσ : j < σ.length := by rw [I.len]; exact (List.getElem?_eq_some_iff.mp hj).1
  have cne := I.cne
  have cellK : ∀ x c, X.env.cells.lookup x = some c → ∀ v, s.heap.IsCell c v → h'.IsCell c v := fun x c e v ⟨o, ho, hd⟩ =>
    ⟨o, k2 c o (cne x c e) (f4 x c e) ho, hd⟩
  have nit : ∀ b u, H b = some u → b ≠ it := fun b u e z => by rw [z, f0] at e; cases e
  have nloc : ∀ b u, H b = some u → b ≠ X.env.locals := fun b u e z => by rw [z, I.free] at e; cases e
  refine ⟨I.ok, I.os, I.bare, ⟨fun b o e n hb hx => ?_, fun b o e n hb hx => ?_, fun b o e n hx => ?_, fun b o e hx => ?_, fun b xs e => ?_, fun b o u e => ?_, fun b ps e => ?_⟩, ⟨_, hn', fun i x v e1 e2 e3 => ?_⟩, fun x c e => ?_, ?_, fun x c e => ?_, fun p hp => ?_, fun b u e => ?_, by simpa using I.len⟩
  · exact k2 b o (neL b o e) (neI b o e hx) (I.base.keep b o e n hb hx)
  · obtain ⟨sl, e1⟩ := I.base.slot b o e n hb hx
    exact ⟨sl, k2 b _ (neL b o e) (neI b o e hx) e1⟩
  · obtain ⟨o', e1⟩ := I.base.there b o e hx
    rw [upd_ne (nd e1)]
    exact I.base.free b o e n hx
  · obtain ⟨o', e1⟩ := I.base.there b o e hx
    exact ⟨o', k2 b o' (neL b o e) (neI b o e hx) e1⟩
  · have e1 := I.base.tups b xs e
    rw [upd_ne (ndH e1)]; exact e1
  · have e1 := I.base.frzs b o u e
    rw [upd_ne (ndH e1)]; exact e1
  · obtain ⟨m1, e1⟩ := I.base.tbls b ps e
    exact ⟨m1, by rw [upd_ne (ndH e1)]; exact e1⟩
  · obtain ⟨m2, hn2, hl⟩ := id I.loc
    by_cases hji : i = j
    · subst hji
      rw [hj] at e1; cases e1
      rw [List.getElem?_set_self hjσ] at e2
      cases e2
      exact ⟨.ref d, rfl, .inl ⟨hy, by simp⟩⟩
    · rw [List.getElem?_set_ne (Ne.symm hji)] at e2
      obtain ⟨u', r', q⟩ := hl i x v e1 e2 e3
      refine ⟨u', r', ?_⟩
      rcases q with ⟨k, e⟩ | ⟨k, c, e, z⟩
      · refine .inl ⟨k, ?_⟩
        have ne : x ≠ y := fun e => hji (nodup_ix hN e1 (e ▸ hj))
        show (if x = y then some (Value.ref d) else m x) = some u'
        rw [if_neg ne, ns_uniq hm hn2 x]
        exact e
      · exact .inr ⟨k, c, e, cellK x c e _ z⟩
  · obtain ⟨v, z⟩ := I.cell x c e
    exact ⟨v, cellK x c e v z⟩
  · obtain ⟨m2, ⟨o, _, _, ho, _⟩, _⟩ := id I.loc
    show upd H d (.lst xs) X.env.locals = none
    rw [upd_ne (nd ho)]; exact I.free
  · obtain ⟨v, o, ho, hd⟩ := I.cell x c e
    show upd H d (.lst xs) c = none
    rw [upd_ne (nd ho)]; exact I.freeC x c e
  · obtain ⟨e, n, ne, nf, dd⟩ := I.pin p hp
    exact ⟨k2 p.1 p.2 ne (f5 p hp) e, by rw [upd_ne (nd e)]; exact n, ne, nf, dd⟩
  · by_cases hb : b = d
    · subst hb
      rw [upd_same] at e
      cases e
      obtain ⟨n, e1⟩ := pl
      exact ⟨hz, ys.toList, n, rv, by rw [Array.toArray_toList]; exact e1⟩
    · rw [upd_ne hb] at e
      refine (I.hok b u e).stay (fun c v hc q => ?_) (fun c q => by rw [upd_ne (ndH q)]; exact q) fun c xs q => by rw [upd_ne (ndH q)]; exact q
      rcases hc with z | z
      · subst z; exact k2 _ v (nloc _ u e) (nit _ u e) q
      · exact k2 c v (nloc c _ z) (nit c _ z) q
end
end L2
namespace Bl
open PySem PySem.Spec PyProof.Rows L2
abbrev scComp : Scope := { kind := .function, names := [(Str.ofString ".0", .local), (Str.ofString "_law_row", .local), (Str.ofString "_law_quay", .free)], isGenerator := false, isCoroutine := false, more := [] }
def fits (q : Int) (r : Rw) : Bool := decide (r.1 + r.2 ≤ q)
def look (H : Hp) : Value → Rw
  | .ref b => match H b with
    | some (.tup [.int i, .int j]) => (i, j)
    | _ => (0, 0)
  | _ => (0, 0)
theorem look_ref {H : Hp} {b : Addr} {r : Rw} (h : H b = some (.tup [.int r.1, .int r.2])) : look H (.ref b) = r := by
  show (match H b with | some (.tup [.int i, .int j]) => (i, j) | _ => (0, 0)) = r
  rw [h]
theorem sel_vals {H : Hp} (q : Int) : ∀ {as : List Addr} {rs : List Rw}, Pairs H as rs → (as.map Value.ref).filter (fun v => fits q (look H v)) = (sel (fits q) as rs).map Value.ref
  | _, _, .nil => rfl
  | a :: as, r :: rs, .cons e t => by
    have ih := sel_vals q t
    rw [List.map_cons, List.filter_cons, look_ref e]
    show _ = List.map Value.ref (if fits q r = true then a :: sel (fits q) as rs else sel (fits q) as rs)
    by_cases h : fits q r = true
    · rw [if_pos h, if_pos h, ih, List.map_cons]
    · rw [if_neg h, if_neg h, ih]
theorem sel_len (f : Rw → Bool) : ∀ (as : List Addr) (rs : List Rw), (sel f as rs).length ≤ as.length
  | [], _ => by cases ‹List Rw› <;> exact Nat.le_refl _
  | a :: as, [] => Nat.zero_le _
  | a :: as, r :: rs => by
    have ih := sel_len f as rs
    show (if f r = true then a :: sel f as rs else sel f as rs).length ≤ as.length + 1
    split
    · simp only [List.length_cons]; omega
    · omega
theorem vals_ref : ∀ {as : List Addr} {us : List Value}, Vals (as.map V.ref) us → us = as.map Value.ref
  | [], _, .nil => rfl
  | a :: as, _, .cons r t => by
    cases (show _ = Value.ref a from r)
    rw [vals_ref t]; rfl
theorem vals_of_ref : ∀ as : List Addr, Vals (as.map V.ref) (as.map Value.ref)
  | [] => .nil
  | a :: as => .cons rfl (vals_of_ref as)
theorem paired_eq {xs ys : List Value} (h : Paired (fun v y => y = v) xs ys) : ys = xs := by
  induction h with
  | nil => rfl
  | cons e _ ih => rw [e, ih]
def tComp (ti : TE) (qi j : Nat) : TS := fun D σ H => ti σ H fun v H1 => ∃ a as rs q, v = .ref a ∧ RowsAt H1 a as rs ∧ σ[qi]? = some (some (.int q)) ∧
  ∀ d, H1 d = none → D.nx (σ.set j (some (.ref d))) (upd H1 d (.lst ((sel (fits q) as rs).map V.ref)))
/-- row[0] + row[1] <= quay, in the comprehension's block -/
theorem comp_test {prog : Program} {w : World} {A : Around} {env : Env} {E : Value → Shared → Prop} {s : Shared} {m : Str → Option Value} {b c : Addr} {i j q : Int} {u : Tok} {its : List Value} {p2 p3 p4 p5 p6 p7 p8 p9 p10 : Pos}
    (hk : env.scope.kind = .function) (h1 : env.kindOf "_law_row" = some .local) (h2 : env.kindOf "_law_quay" = some .cell) (hn : s.heap.Ns env.locals m) (hm : m "_law_row" = some (.ref b))
    (hc : env.cells.lookup ("_law_quay" : Str) = some c) (hv : s.heap.IsCell c (some (.int q u))) (ht : IsTup s.heap b its.toArray) (rv : Vals [V.int i, V.int j] its) :
    wpAny (model prog w) A (isTrue (.Compare (.BinOp (.Subscript (.Name "_law_row" p2) (.Constant (.int 0) 0 p3) p4) .Add (.Subscript (.Name "_law_row" p5) (.Constant (.int 1) 0 p6) p7) p8) [.LtE] [.Name "_law_quay" p9] p10) env
      (eval (.Compare (.BinOp (.Subscript (.Name "_law_row" p2) (.Constant (.int 0) 0 p3) p4) .Add (.Subscript (.Name "_law_row" p5) (.Constant (.int 1) 0 p6) p7) p8) [.LtE] [.Name "_law_quay" p9] p10) env))
      (fun ok s' => ok = decide (i + j ≤ q) ∧ Keeps s s') E s := by
  obtain ⟨v1, v2, rfl, ⟨t1, rfl⟩, ⟨t2, rfl⟩⟩ := Vals.two rv
  have nm : ∀ (tk : Nat) (p : Pos) (Q : Value → Shared → Prop), Q (.ref b) { s with toks := tk } → wpAny (model prog w) A (eval (.Name "_law_row" p) env) Q E { s with toks := tk } := fun tk p Q h =>
    wpAny_Name (wpAny_loadName_local hk h1 hn hm h) (by decide)
  have ixs : ∀ (tk : Nat) (k : Nat) (x : Value) (p p' p'' : Pos) (Q : Value → Shared → Prop), [Value.int i t1, Value.int j t2][k]? = some x → k < 2 → Q x { s with toks := tk + 1 } →
      wpAny (model prog w) A (eval (.Subscript (.Name "_law_row" p) (.Constant (.int (k : Int)) 0 p') p'') env) Q E { s with toks := tk } := fun tk k x p p' p'' Q hx hk2 h => by
    refine Subscript_ (nm tk p _ (wpAny_Constant_int ?_))
    exact subscriptTail_builtinR (x := x) ht.typeIs slot_tuple_getitem.lookup
      (getItem_tuple (j := k) (Q := fun r s' => r = x ∧ Q r s') ht (by omega) (by omega) (by simp [seqIndex?]; omega) (by simpa using hx) ⟨rfl, h⟩) rfl
  refine wpAny_isTrue_Compare1 (wpAny_BinOp (ixs s.toks 0 _ _ _ _ _ rfl (by decide) (ixs (s.toks + 1) 1 _ _ _ _ _ rfl (by decide) (add_int ?_)))) (nomark _)
  refine wpAny_Name (wpAny_loadName_cell hk h2 hc hv ?_) (by decide)
  refine le_int (wpAny_truthy_bool ⟨rfl, s.heap, _, rfl, fun _ _ e => e⟩)
theorem ps_comp {X : Cx} {iter : Expr} {ti : TE} {qi j : Nat} {p1 px p2 p3 p4 p5 p6 p7 p8 p9 p10 pos py spos : Pos} (hi : PE X iter ti) (hc : X.calm = true) (hN : X.N.Nodup) (hj : X.N[j]? = some ("_law_rows" : Str)) (hy : X.env.kindOf "_law_rows" = some .local)
    (hq : X.N[qi]? = some ("_law_quay" : Str)) (hz : X.env.kindOf "_law_quay" = some .cell) (hvis : Vis X.env.scope "_law_quay") (hkf : X.env.scope.kind = .function)
    (hsw : swapsWith (.ListComp (.Name "_law_row" p1) [⟨.Name "_law_row" px, iter, [.Compare (.BinOp (.Subscript (.Name "_law_row" p2) (.Constant (.int 0) 0 p3) p4) .Add (.Subscript (.Name "_law_row" p5) (.Constant (.int 1) 0 p6) p7) p8) [.LtE] [.Name "_law_quay" p9] p10], 0⟩] scComp pos)
      (some (.Name "_law_rows" py)) spos.line X.env = pure true) (hs : ∀ x, foldedSetIterable iter X.env x = pure x := by intro _; rfl) :
    PS X (.Assign [.Name "_law_rows" py] (.ListComp (.Name "_law_row" p1) [⟨.Name "_law_row" px, iter, [.Compare (.BinOp (.Subscript (.Name "_law_row" p2) (.Constant (.int 0) 0 p3) p4) .Add (.Subscript (.Name "_law_row" p5) (.Constant (.int 1) 0 p6) p7) p8) [.LtE] [.Name "_law_quay" p9] p10], 0⟩] scComp pos) spos) (tComp ti qi j) := by
  intro pins s σ H D I h
  obtain ⟨c, hcl⟩ := I.ok.has "_law_quay" (.inl hz)
  have hclos : closureFor scComp X.env = pure [(("_law_quay" : Str), c)] := by
    have e : cellOf X.env "_law_quay" = pure c := by unfold cellOf; rw [hcl]
    unfold closureFor
    simp [scComp, e]
  have hcls : (X.env.scope.kind == .class || (X.env.scope.kind == .module && X.env.locals != X.env.globals)) = false := by rw [hkf]; rfl
  rw [exec_Assign_Name_used _ _ _ _ hsw]
  refine wpAny_bind (wpAny_standAt (wpAny_bind ?_))
  refine wpAny_bind (wpAny_mono (wpAny_comprehension_free (use := some (assign (.Name "_law_rows" py) X.env)) (Q := fun _ s' => SP X pins D .next s') rfl hs hclos rfl (by decide +kernel) ?_) (fun _ _ q => wpAny_pure (wpAny_pure q)) fun _ _ e => e)
  refine thn (show wpAny (model X.prog X.w) X.A (eval iter X.env) _ _ _ from hi pins s σ H _ I h) fun v s1 ⟨x, H1, I1, r1, q1⟩ => ?_
  obtain ⟨a, as, rs, q, rfl, ⟨hls, hps⟩, hσ, q1⟩ := q1
  cases r1
  obtain ⟨its, rv, pl, hzl⟩ := I1.list (SqL.of hls)
  have eits := vals_ref rv
  subst eits
  have ha : a < s1.heap.objs.size := I1.hok.lt hls
  refine wpAny_pyIter_list pl.isList ?_
  have I2 : Inv X pins σ H1 { s1 with heap := s1.heap.push { cls := .type "list_iterator", data := .fields #[.ref a, .int 0 0] } } := I1.kept (t' := s1.toks) fun b o e => Heap.get?_push_of_some _ e
  have fpk : FpOk X pins H1 s1.heap.objs.size := I1.fpOk (Nat.le_refl _) (I1.hok.fresh (Nat.le_refl _))
  obtain ⟨m, hm, hl⟩ := id I2.loc
  obtain ⟨uq, ruq, lq⟩ := hl qi "_law_quay" (.int q) hq hσ hvis
  obtain ⟨tq, rfl⟩ := ruq
  have hcell : Heap.IsCell (s1.heap.push { cls := .type "list_iterator", data := .fields #[.ref a, .int 0 0] }) c (some (.int q tq)) := by
    rcases lq with ⟨k, _⟩ | ⟨_, c', e, z⟩
    · rw [hz] at k; cases k
    · rw [hcl] at e; cases e; exact z
  refine comp_block_walkC (RR := fun acc C => compPost (model X.prog X.w) X.A X.xe (some (assign (.Name "_law_rows" py) X.env)) (fun _ s' => SP X pins D .next s') acc C)
    (Walks.list (I.ok.hd hc) s1.heap.objs.size a (Nat.ne_of_lt ha) (as.map Value.ref).toArray) (n := (as.map Value.ref).toArray.size) ?_ (fun v => fits q (look H1 v)) (fun v y => y = v) (by decide +kernel) rfl rfl
    ⟨⟨_, Heap.get?_push_size _ rfl, rfl, rfl⟩, pl.isList.push _⟩ ?_ ⟨?_, ?_⟩ ?_
  · rw [List.length_map] at hzl
    simpa using hzl
  · intro b hb
    show b < (s1.heap.push _).objs.size
    rw [Heap.size_push]
    rcases List.mem_cons.mp hb with rfl | hb
    · exact Nat.lt_succ_self _
    · have e : b = a := by simpa using hb
      rw [e]
      exact Nat.lt_succ_of_lt ha
  · intro C i v s₃ m₃ E' hC hP hn hmx hk htk
    have hP' : (as.map Value.ref)[i]? = some v := by simpa using hP
    rw [List.getElem?_map] at hP'
    obtain ⟨b, hb, rfl⟩ := Option.map_eq_some_iff.mp hP'
    obtain ⟨r, hr, hH⟩ := hps.get hb
    obtain ⟨_, its, rv2, ht⟩ := (show ObjOk X.prog X.w H1 _ b (.tup [.int r.1, .int r.2]) from I2.hok b _ hH)
    obtain ⟨o, h1, h2, h3⟩ := ht
    have ht3 : IsTup s₃.heap b its.toArray := ⟨o, hk b o (by
      intro z
      have z' : b = s1.heap.objs.size := by simpa using z
      rw [z', fpk.1] at hH; cases hH) h1, h2, h3⟩
    have hv3 : s₃.heap.IsCell c (some (.int q tq)) := by
      obtain ⟨oc, e1, e2⟩ := hcell
      refine ⟨oc, hk c oc (by
        intro z
        have z' : c = s1.heap.objs.size := by simpa using z
        exact fpk.2.2.2.2.1 _ c hcl z') e1, e2⟩
    refine wpAny_tests_one ?_
    refine thn (comp_test (b := b) (c := c) (i := r.1) (j := r.2) (q := q) (its := its) (m := m₃) ?_ ?_ ?_ hn hmx ?_ hv3 ht3 rv2) fun ok s4 ⟨e, k⟩ => ⟨?_, k⟩
    · rfl
    · rfl
    · show (relabel scComp X.env).names.lookup ("_law_quay" : Str) = some NameKind.cell
      simp only [relabel, scComp, List.map_cons, List.map_nil, hkf, hz]
      rfl
    · rfl
    · rw [e, look_ref hH]; rfl
  · intro C i v s₃ m₃ E' hC hP hp hn hmx hk htk
    exact wpAny_Name (wpAny_loadName_local rfl rfl hn hmx ⟨rfl, s₃.heap, s₃.toks, rfl, fun _ _ e => e⟩) (by decide)
  · intro d C h' tk m' ys vs hD hC hDC hnC hlD hplD hlen hP hF hk
    have evs : vs = as.map Value.ref := by
      have := list_of_places (items := (as.map Value.ref).toArray) hlen hP
      simpa using this
    subst evs
    have eys : ys.toList = (sel (fits q) as rs).map Value.ref := (paired_eq hF).trans (sel_vals q hps)
    have hLC : X.env.locals ≠ C := by
      rintro e
      obtain ⟨o, _, _, ho, _⟩ := hm
      rw [← e] at hC
      exact absurd (hC.symm.trans ho) (by simp)
    have hLD : X.env.locals ≠ d := by
      rintro e
      obtain ⟨o, _, _, ho, _⟩ := hm
      rw [← e] at hD
      exact absurd (hD.symm.trans ho) (by simp)
    have hLI : X.env.locals ∉ [s1.heap.objs.size] := by
      intro z
      have z' : X.env.locals = s1.heap.objs.size := by simpa using z
      exact fpk.2.1 z'.symm
    show wpAny _ _ (assign (.Name "_law_rows" py) X.env (.ref d)) _ _ _
    refine wpAny_assign_Name (wpAny_storeName_local hy (hm.at' fun o e => hk _ o hLI e) (fun h₂ hn₂ hs₂ => ?_) hcls)
    refine ⟨m', hnC.sameBut hs₂ (Ne.symm hLC), fun h₃ hs₃ => ?_⟩
    have fpk2 : FpOk X pins H1 s1.heap.objs.size := fpk
    refine ⟨_, _, I2.comped (it := s1.heap.objs.size) (d := d) (h' := h₃) (ys := ys) (xs := (sel (fits q) as rs).map V.ref) hm hN hj hy fpk2 hD ((hplD.extBut hs₂.extBut (Ne.symm hLD)).extBut hs₃.extBut hDC) ?_ ?_ (hn₂.sameBut hs₃ hLC) ?_, q1 d (I2.nogo hD)⟩
    · rw [eys]; exact vals_of_ref _
    · have := sel_len (fits q) as rs
      have := rv.length
      simp only [List.length_map] at *
      omega
    · intro b o hb hbI e
      refine hs₃.extBut b o ?_ (hs₂.extBut b o hb (hk b o hbI e))
      rintro rfl
      rw [hC] at e; cases e
end Bl
namespace L2
open PySem PySem.Spec PyProof.Rows
/-- a comprehension's block: its own frame lies behind the state s, the iterator's records are fp -/
def Cx.block (X : Cx) (s : Shared) (H : Hp) (scope : Scope) (cl : List (Str × Addr)) (N : List Str) (fp : List Addr) : Cx :=
  { X with N := N, s₀ := s, H₀ := H, env := compEnvC scope cl s.heap.objs.size X.env, outer := X.stack, stack := X.stack, ex := fp, fn := fun _ => false, pn := [], xe := fun _ _ => False }
structure Clos (X : Cx) (scope : Scope) (cl : List (Str × Addr)) : Prop where
  eq : closureFor scope X.env = pure cl
  sub : ∀ x c, cl.lookup x = some c → X.env.cells.lookup x = some c
  has : ∀ x, ((relabel scope X.env).names.lookup x = some .cell ∨ (relabel scope X.env).names.lookup x = some .free) → ∃ c, cl.lookup x = some c
section
variable {X : Cx} {pins : List (Addr × Obj)} {σ : St} {H : Hp} {s : Shared} {scope : Scope} {cl : List (Str × Addr)} {N : List Str} {fp : List Addr}
theorem Cx.block_ok (I : Inv X pins σ H s) (hk : scope.kind = .function) (C : Clos X scope cl) (hf : ∀ b ∈ fp, FpOk X pins H b) (hl : ∀ b ∈ fp, b < s.heap.objs.size) : (X.block s H scope cl N fp).Ok where
  mod := I.mod
  kind := hk
  glob := I.ok.glob
  blt := I.ok.blt
  above := Nat.le_refl _
  inj := fun x y c h1 h2 => I.ok.inj x y c (C.sub x c h1) (C.sub y c h2)
  has := C.has
  cab := fun x c h => nomatch (show false = true from h)
  hd := I.ok.hd
  frames := I.ok.frames
  stk := .inl rfl
  exf := fun b hb => ⟨Nat.ne_of_lt (hl b hb), fun x c e => (hf b hb).2.2.2.2.1 x c (C.sub x c e)⟩
  bs := fun b o e => I.bs b o e
  bsz := Nat.le_trans I.ok.bsz I.sz
  noex := fun b o e hb => by
    rcases (hf b hb).2.2.2.1 with z | z
    · exact I.ok.noex b o e z
    · exact absurd (Nat.lt_of_lt_of_le (Heap.lt_size (I.ok.bs b o e).1) z) (Nat.lt_irrefl _)
  exfs := fun b hb z => by
    rcases List.mem_cons.mp (I.stkSub b z) with z | z
    · exact (hf b hb).2.1 z
    · exact (hf b hb).2.2.1 z
  funs := I.stack
  frf := fun b hb => I.stkFree b hb
theorem Inv.block {h' : Heap} {tk : Nat} {σ' : St} (I : Inv X pins σ H s) (hk : scope.kind = .function) (C : Clos X scope cl) (hf : ∀ b ∈ fp, FpOk X pins H b) (hl : ∀ b ∈ fp, b < s.heap.objs.size)
    (hn : h'.Ns s.heap.objs.size fun _ => none) (kp : ∀ b o, s.heap.get? b = some o → h'.get? b = some o) (hlen : σ'.length = N.length)
    (hσ : ∀ (i : Nat) (x : Str) (v : V), N[i]? = some x → σ'[i]? = some (some v) → ((relabel scope X.env).names.lookup x = some .cell ∨ (relabel scope X.env).names.lookup x = some .free) ∧ ∃ c u, X.env.cells.lookup x = some c ∧ RelV v u ∧ s.heap.IsCell c (some u)) :
    Inv (X.block s H scope cl N fp) [] σ' H { s with heap := h', toks := tk } where
  ok := Cx.block_ok I hk C hf hl
  os := rfl
  bare := I.bare
  base := Un.kept kp
  loc := ⟨_, hn, fun i x v e1 e2 _ => by
    obtain ⟨hx, c, u, hc, r, o, ho, hd⟩ := hσ i x v e1 e2
    obtain ⟨c', hc'⟩ := C.has x hx
    have e := C.sub x c' hc'
    rw [hc] at e; cases e
    exact ⟨u, r, .inr ⟨hx, c, hc', o, kp c o ho, hd⟩⟩⟩
  cell := fun x c e => by
    obtain ⟨v, o, ho, hd⟩ := I.cell x c (C.sub x c e)
    exact ⟨v, o, kp c o ho, hd⟩
  free := I.hok.fresh (Nat.le_refl _)
  freeC := fun x c e => I.freeC x c (C.sub x c e)
  pin := fun p hp => nomatch (show p ∈ ([] : List (Addr × Obj)) from hp)
  hok := I.hok.kept kp
  len := hlen
/-- behind the block -/
theorem Inv.unblock {σ' : St} {H' : Hp} {s' : Shared} (I : Inv X pins σ H s) (hf : ∀ b ∈ fp, FpOk X pins H b) (J : Inv (X.block s H scope cl N fp) [] σ' H' s') : Inv X pins σ H' s' :=
  I.call' (ch := fp) J.os J.base J.hok J.bare fun b hb => ⟨(hf b hb).2.2.2.1, (hf b hb).2.1, (hf b hb).2.2.2.2.1, (hf b hb).2.2.2.2.2⟩
/-- the block's frame is let go -/
theorem Inv.letgo {C : Addr} {s' : Shared} {H' : Hp} {σ' : St} {h' : Heap} (I : Inv X pins σ H s) (J : Inv X pins σ' H' s') (hC : s.heap.objs.size ≤ C) (hn : H' C = none) (hs : Heap.SameBut C s'.heap h') : Inv X pins σ' H' { s' with heap := h' } := by
  have f := I.fpOk (H' := H') hC hn
  exact J.turned (t' := s'.toks) (fun b o hb e => (hs.2 b hb).trans e) f.1 f.2.1 f.2.2.2.1 f.2.2.2.2.1 f.2.2.2.2.2
end
/-- the tests of a comprehension -/
def PTs (X : Cx) (ifs : List Expr) (t : TT) : Prop :=
  ∀ (pins : List (Addr × Obj)) (s : Shared) (σ : St) (H : Hp) (Q : Bool → Hp → Prop) (E : Value → Shared → Prop), Inv X pins σ H s → t σ H Q → (∀ e s, X.xe e s → E e s) →
    wpAny (model X.prog X.w) X.A (forIn ifs true fun c r => if r = true then do let ok ← isTrue c X.env (eval c X.env); pure (ForInStep.yield ok) else pure (ForInStep.yield r)) (TP X pins σ Q) E s
def tNoTest : TT := fun _ H Q => Q true H
theorem pts_nil {X : Cx} : PTs X [] tNoTest := fun _ _ _ H _ _ I h _ => wpAny_tests_nil ⟨H, I, h⟩
theorem pts_one {X : Cx} {c : Expr} {t : TT} (h : PT X c t) : PTs X [c] t := fun pins s σ H Q _ I hw he => wpAny_tests_one (wpAny_mono (h pins s σ H Q I hw) (fun _ _ q => q) he)
section
variable {X : Cx} {pins : List (Addr × Obj)} {σ : St} {H : Hp} {s : Shared} {scope : Scope} {cl : List (Str × Addr)} {N : List Str} {fp : List Addr} {it : Addr} {tn : Nat → Heap → Prop} {J : It}
  {tg iter elt : Expr} {ifs : List Expr} {g : TG} {tt : TT} {te : TE} {pos : Pos}
/-- what the block's turns ask: d is the list that is filled -/
def Turns (J : It) (g : TG) (tt : TT) (te : TE) (d : Addr) (σ : St) (H : Hp) (Q : Hp → Prop) : Prop :=
  ∃ W : Nat → Nat → St → Hp → Prop, (∃ m, W 0 m σ H) ∧ ∀ i m σ H, W i m σ H →
    (J.stop i H ∧ Q H) ∨ (J.go i H ∧ ∃ Z : St → Hp → Prop, (∀ σ' H', Z σ' H' → ∃ m', m' < m ∧ W (i + 1) m' σ' H') ∧
      ∀ x H', J.yld i H x H' → g x σ H' fun σ2 H2 => tt σ2 H2 fun b H3 => if b = true then te σ2 H3 fun y H4 => ∃ ys, H4 d = some (.lst ys) ∧ ys.length < sizeLine ∧ Z σ2 (upd H4 d (.lst (ys ++ [y]))) else Z σ2 H3)
theorem block_loop {RR : Result → Shared → Prop} {s3 s4 : Shared} {d : Addr} {H3 : Hp} {σ' : St} {Q : Hp → Prop} (I3 : Inv X pins σ H3 s3) (hc : X.calm = true) (T : Turn X.prog X.w X.K tg J fp it tn)
    (hf3 : ∀ b ∈ fp, FpOk X pins H3 b) (hl3 : ∀ b ∈ fp, b < s3.heap.objs.size) (J0 : Inv (X.block s3 H3 scope cl N fp) [] σ' H3 s4) (st4 : tn 0 s4.heap)
    (hg : PG (X.block s3 H3 scope cl N fp) tg g) (ht : PTs (X.block s3 H3 scope cl N fp) ifs tt) (he : PE (X.block s3 H3 scope cl N fp) elt te)
    (hw : Turns J g tt te d σ' H3 Q)
    (hR : ∀ (H' : Hp) (s' : Shared) (m : Str → Option Value), Inv X pins σ H' s' → H' s3.heap.objs.size = none → s'.heap.Ns s3.heap.objs.size m → Q H' → RR (.ok .next) s') :
    codeAny (model X.prog X.w) X.A (.compStart (.ListComp elt [⟨tg, iter, ifs, 0⟩] scope pos) 0 (.ref it) (.ref d) (compEnvC scope cl s3.heap.objs.size X.env)) RR s4 := by
  obtain ⟨W, ⟨m0, w0⟩, turn⟩ := hw
  have fpb : ∀ {H' : Hp}, (∀ b ∈ fp, H' b = none) → ∀ b ∈ fp, FpOk (X.block s3 H3 scope cl N fp) [] H' b := fun hn b hb =>
    ⟨hn b hb, (J0.ok.exf b hb).1, J0.ok.exfs b hb, .inl hb, (J0.ok.exf b hb).2, fun p hp => nomatch (show p ∈ ([] : List (Addr × Obj)) from hp)⟩
  have loop : codeAny (model X.prog X.w) X.A (.compLoop (.ListComp elt [⟨tg, iter, ifs, 0⟩] scope pos) 0 (.ref it) (.ref d) (compEnvC scope cl s3.heap.objs.size X.env)) RR s4 := by
    refine codeAny_loop rfl (fun n s' => ∃ i σ1 H1, Inv (X.block s3 H3 scope cl N fp) [] σ1 H1 s' ∧ tn i s'.heap ∧ (∀ b ∈ fp, H1 b = none) ∧ W i n σ1 H1) (fun n s1 hI => ?_) m0 ⟨0, σ', H3, J0, st4, fun b hb => (hf3 b hb).1, w0⟩
    obtain ⟨i, σ1, H1, I1, st1, fr1, w1⟩ := hI
    show wpAny _ X.A ((compTurn (.ListComp elt [⟨tg, iter, ifs, 0⟩] scope pos) 0 (.ref it) (.ref d) (compEnvC scope cl s3.heap.objs.size X.env)).onRaise (fun x => do noteFrame x (compEnvC scope cl s3.heap.objs.size X.env); theTreesLotGoes x)) _ _ s1
    refine wpAny_noted ?_
    rw [compTurn_list]
    refine wpAny_bind (wpAny_standAt (wpAny_bind ?_))
    rcases turn i n σ1 H1 w1 with ⟨stop, qn⟩ | ⟨go, Z, hZ, step⟩
    · refine thn (T.done (X.block s3 H3 scope cl N fp) rfl rfl rfl hc i [] s1 σ1 H1 _ I1 (fpb fr1) st1 stop) fun r s2 ⟨er, I2⟩ => ?_
      subst er
      obtain ⟨m, hn, _⟩ := id I2.loc
      exact wpAny_pure (show RR (.ok .next) s2 from hR H1 s2 m (I3.unblock hf3 I2) I2.free hn qn)
    · refine thn (T.item (X.block s3 H3 scope cl N fp) rfl rfl rfl hc i [] s1 σ1 H1 _ I1 (fpb fr1) st1 go) fun r s2 ⟨u, er, h2⟩ => ?_
      subst er
      refine wpAny_bind (thn h2 fun _ s3' ⟨x, H2, I2, r2, y2, st2, fr2⟩ => ?_)
      have I2' := I2.pinned (fpb fr2) (T.obj _ _ st2)
      refine wpAny_bind (wpAny_mono (hg _ s3' σ1 H2 x u _ I2' r2 (step x H2 y2)) (fun _ s4' ⟨σ2, H4, I4, q4⟩ => ?_) fun _ _ z => z.elim)
      refine wpAny_bind (thn (ht _ s4' σ2 H4 _ _ I4 q4 fun _ _ z => z.elim) fun b s5 ⟨H5, I5, q5⟩ => ?_)
      have again : ∀ {σ7 : St} {H7 : Hp} {s7 : Shared}, Inv (X.block s3 H3 scope cl N fp) ([] ++ pinsAt fp s3'.heap) σ7 H7 s7 → Z σ7 H7 →
          ∃ m, m < n ∧ ∃ i σ1 H1, Inv (X.block s3 H3 scope cl N fp) [] σ1 H1 s7 ∧ tn i s7.heap ∧ (∀ b ∈ fp, H1 b = none) ∧ W i m σ1 H1 := fun {σ7 H7 s7} I7 z7 => by
        obtain ⟨m', hm, w7⟩ := hZ σ7 H7 z7
        refine ⟨m', hm, i + 1, σ7, H7, I7.unpinned, T.keep _ _ _ st2 fun b hb o e => (I7.pin (b, o) (List.mem_append_right _ (List.mem_append_right _ (mem_pinsAt hb e)))).1, fun b hb => ?_, w7⟩
        obtain ⟨o, e, _⟩ := T.obj _ _ st2 b hb
        exact (I7.pin (b, o) (List.mem_append_right _ (List.mem_append_right _ (mem_pinsAt hb e)))).2.1
      cases b with
      | false =>
        have q5' : Z σ2 H5 := q5
        exact wpAny_pure ⟨rfl, again I5 q5'⟩
      | true =>
        refine wpAny_bind (wpAny_bind (wpAny_mono (he _ s5 σ2 H5 _ I5 q5) (fun y s6 ⟨yv, H6, I6, r6, ys, hd6, hz6, z6⟩ => ?_) fun _ _ z => z.elim))
        refine wpAny_bind (wpAny_mono (mt_append (X := X.block s3 H3 scope cl N fp) _ s6 σ2 H6 (.ref d) [yv] (.ref d) [y] (fun _ H7 => Z σ2 H7) I6 rfl (.cons r6 .nil) ⟨d, ys, yv, rfl, rfl, hd6, hz6, z6⟩) (fun _ s7 ⟨_, H7, I7, _, z7⟩ => ?_) fun _ _ z => z.elim)
        exact wpAny_pure (wpAny_pure ⟨rfl, again I7 z7⟩)
  exact codeAny_compStart_list loop (T.self _ 0 s4 _ _ st4 loop)
theorem block_run {RR : Value → Addr → Result → Shared → Prop} {E : Value → Shared → Prop} {σ' : St} (I : Inv X pins σ H s) (hc : X.calm = true) (T : Turn X.prog X.w X.K tg J fp it tn) (st : tn 0 s.heap) (hf : ∀ b ∈ fp, FpOk X pins H b)
    (hcell : ∀ y ∈ scope.names, y.2 ≠ .cell) (hk : scope.kind = .function) (C : Clos X scope cl)
    (hg : ∀ s H fp, PG (X.block s H scope cl N fp) tg g) (ht : ∀ s H fp, PTs (X.block s H scope cl N fp) ifs tt) (he : ∀ s H fp, PE (X.block s H scope cl N fp) elt te)
    (hlen : σ'.length = N.length)
    (hσ : ∀ (i : Nat) (x : Str) (v : V), N[i]? = some x → σ'[i]? = some (some v) → ((relabel scope X.env).names.lookup x = some .cell ∨ (relabel scope X.env).names.lookup x = some .free) ∧ ∃ c u, X.env.cells.lookup x = some c ∧ RelV v u ∧ s.heap.IsCell c (some u))
    {Q : Addr → Hp → Prop} (hW : ∀ d, H d = none → Turns J g tt te d σ' (upd H d (.lst [])) (Q d))
    (hR : ∀ (d c : Addr) (H' : Hp) (s' : Shared) (m : Str → Option Value), Inv X pins σ H' s' → s.heap.objs.size ≤ c → H' c = none → s'.heap.Ns c m → Q d H' → RR (.ref d) c (.ok .next) s') :
    wpAny (model X.prog X.w) X.A (newList []) (fun acc s₃ => wpAny (model X.prog X.w) X.A (newFunctionEnv scope X.env.globals cl [] X.env.qual none .none (some X.env)) (fun cenv s₄ =>
      codeAny (model X.prog X.w) X.A (.compStart (.ListComp elt [⟨tg, iter, ifs, 0⟩] scope pos) 0 (.ref it) acc { cenv with scope := relabel scope X.env }) (RR acc cenv.locals) s₄) E s₃) E s := by
  have hl : ∀ b ∈ fp, b < s.heap.objs.size := fun b hb => by
    obtain ⟨o, e, _⟩ := T.obj 0 _ st b hb
    exact Heap.lt_size e
  refine wpAny_newObj_type (wpAny_newFunctionEnv hcell (by intro y hy; simp at hy) (fun h₁ hns₁ hsb₁ => ?_) hk)
  dsimp only at hns₁ hsb₁ ⊢
  have hd0 : H s.heap.objs.size = none := I.fresh
  have I3 := I.lnew (ys := []) (its := []) (t' := s.toks) .nil (Nat.zero_le _)
  have nb : ∀ b ∈ fp, b ≠ s.heap.objs.size := fun b hb => Nat.ne_of_lt (hl b hb)
  have hf3 : ∀ b ∈ fp, FpOk X pins (upd H s.heap.objs.size (.lst [])) b := fun b hb => ⟨by rw [upd_ne (nb b hb)]; exact (hf b hb).1, (hf b hb).2⟩
  have kp3 : ∀ b o, s.heap.get? b = some o → (s.heap.push { cls := .type "list", data := .seq ([] : List Value).toArray }).get? b = some o := fun b o e => Heap.get?_push_of_some _ e
  have hl3 : ∀ b ∈ fp, b < (s.heap.push { cls := .type "list", data := .seq ([] : List Value).toArray }).objs.size := fun b hb => by
    rw [Heap.size_push]; exact Nat.lt_succ_of_lt (hl b hb)
  have kp4 : ∀ b o, (s.heap.push { cls := .type "list", data := .seq ([] : List Value).toArray }).get? b = some o → h₁.get? b = some o := fun b o e =>
    hsb₁.extBut b o (Nat.ne_of_lt (Heap.lt_size e)) (Heap.get?_push_of_some _ e)
  have st4 : tn 0 h₁ := T.keep _ _ _ st fun b _ o e => kp4 b o (kp3 b o e)
  have J0 := I3.block (scope := scope) (cl := cl) (N := N) (fp := fp) (h' := h₁) (tk := s.toks + ([] : List (Str × Value)).length) (σ' := σ') hk C hf3 hl3 hns₁ kp4 hlen fun i x v e1 e2 => by
    obtain ⟨q, c, u, q1, q2, o, q3, q4⟩ := hσ i x v e1 e2
    exact ⟨q, c, u, q1, q2, o, kp3 c o q3, q4⟩
  exact block_loop (s3 := { s with heap := s.heap.push { cls := .type "list", data := .seq ([] : List Value).toArray } }) (Q := Q s.heap.objs.size) I3 hc T hf3 hl3 J0 st4 (hg _ _ _) (ht _ _ _) (he _ _ _) (hW _ hd0)
    fun H' s' m J1 hn hm q => hR _ _ H' s' m J1 (by show _ ≤ (s.heap.push _).objs.size; rw [Heap.size_push]; exact Nat.le_succ _) hn hm q
end
end L2
namespace L2
open PySem PySem.Spec PyProof.Rows
/-- the names that a block takes from around it are cells there -/
def FreeAll (X : Cx) : List (Str × NameKind) → Prop
  | [] => True
  | (x, .free) :: r => (X.env.kindOf x = some .cell ∨ X.env.kindOf x = some .free) ∧ FreeAll X r
  | (_, .local) :: r => FreeAll X r
  | (_, .cell) :: r => False
  | (_, _) :: r => FreeAll X r
theorem forIn_clos {env : Env} {f : Str × NameKind → List (Str × Addr) → Sem (ForInStep (List (Str × Addr)))} (h1 : ∀ n cs c, env.cells.lookup n = some c → f (n, .free) cs = pure (.yield ((n, c) :: cs))) (h2 : ∀ n k cs, k ≠ .free → f (n, k) cs = pure (.yield cs)) :
    ∀ (l : List (Str × NameKind)) (acc : List (Str × Addr)), (∀ x ∈ l, x.2 = .free → ∃ c, env.cells.lookup x.1 = some c) → (∀ x c, acc.lookup x = some c → env.cells.lookup x = some c) →
    ∃ cl, forIn l acc f = pure cl ∧ (∀ x c, cl.lookup x = some c → env.cells.lookup x = some c) ∧ (∀ x c, acc.lookup x = some c → ∃ c, cl.lookup x = some c) ∧ ∀ x ∈ l, x.2 = .free → ∃ c, cl.lookup x.1 = some c
  | [], acc, _, ha => ⟨acc, rfl, ha, fun x c e => ⟨c, e⟩, fun x hx => nomatch hx⟩
  | (n, k) :: l, acc, hl, ha => by
    have hl' : ∀ x ∈ l, x.2 = .free → ∃ c, env.cells.lookup x.1 = some c := fun x hx => hl x (List.mem_cons_of_mem _ hx)
    by_cases hk : k = .free
    · subst hk
      obtain ⟨c, hc⟩ := hl (n, .free) List.mem_cons_self rfl
      obtain ⟨cl, e, p1, p2, p3⟩ := forIn_clos h1 h2 l ((n, c) :: acc) hl' fun x c' e => by
        rw [List.lookup_cons] at e
        split at e
        · rename_i q
          cases e
          have q' : x = n := by simpa using q
          rw [q']; exact hc
        · exact ha x c' e
      refine ⟨cl, ?_, p1, fun x c' e' => ?_, fun x hx hf => ?_⟩
      · rw [List.forIn_cons, h1 n acc c hc, pure_bind]
        exact e
      · by_cases q : x = n
        · subst q; exact p2 x c (by rw [List.lookup_cons]; simp)
        · exact p2 x c' (by rw [List.lookup_cons]; rw [beq_eq_false_iff_ne.mpr q]; exact e')
      · rcases List.mem_cons.mp hx with rfl | hx
        · exact p2 n c (by rw [List.lookup_cons]; simp)
        · exact p3 x hx hf
    · obtain ⟨cl, e, p1, p2, p3⟩ := forIn_clos h1 h2 l acc hl' ha
      refine ⟨cl, ?_, p1, p2, fun x hx hf => ?_⟩
      · rw [List.forIn_cons, h2 n k acc hk, pure_bind]
        exact e
      · rcases List.mem_cons.mp hx with rfl | hx
        · exact absurd hf hk
        · exact p3 x hx hf
theorem relabel_free {env : Env} : ∀ {names : List (Str × NameKind)} {x : Str}, (∀ y ∈ names, y.2 ≠ .cell) →
    ((names.map fun (n, k) => if (k == NameKind.free && env.scope.kind == .function && env.kindOf n == some .cell) then (n, NameKind.cell) else (n, k)).lookup x = some .cell ∨
     (names.map fun (n, k) => if (k == NameKind.free && env.scope.kind == .function && env.kindOf n == some .cell) then (n, NameKind.cell) else (n, k)).lookup x = some .free) → (x, NameKind.free) ∈ names
  | [], _, _, h => by rcases h with h | h <;> exact nomatch h
  | (n, k) :: r, x, hc, h => by
    by_cases q : x = n
    · subst q
      by_cases hk : k = .free
      · subst hk; exact List.mem_cons_self
      · exfalso
        have hk' : (k == NameKind.free) = false := by simpa using hk
        have hkc : k ≠ .cell := hc (x, k) List.mem_cons_self
        simp [hk, List.lookup_cons] at h
        exact hkc h
    · refine List.mem_cons_of_mem _ (relabel_free (env := env) (fun y hy => hc y (List.mem_cons_of_mem _ hy)) ?_)
      have e : ∀ (a b : NameKind) (t : List (Str × NameKind)) (cnd : Bool), List.lookup x ((if cnd = true then (n, a) else (n, b)) :: t) = List.lookup x t := fun a b t cnd => by
        cases cnd <;> simp [List.lookup_cons, beq_eq_false_iff_ne.mpr q]
      rw [List.map_cons] at h
      dsimp only at h
      rw [e] at h
      exact h
theorem freeAll_mem {X : Cx} : ∀ {l : List (Str × NameKind)}, FreeAll X l → (∀ x ∈ l, x.2 = .free → (X.env.kindOf x.1 = some .cell ∨ X.env.kindOf x.1 = some .free)) ∧ ∀ y ∈ l, y.2 ≠ .cell
  | [], _ => ⟨fun x hx => (nomatch hx), fun x hx => (nomatch hx)⟩
  | (n, k) :: r, h => by
    cases k with
    | free =>
      obtain ⟨h1, h2⟩ := h
      obtain ⟨p1, p2⟩ := freeAll_mem h2
      refine ⟨fun x hx hf => ?_, fun x hx => ?_⟩
      · rcases List.mem_cons.mp hx with rfl | hx
        · exact h1
        · exact p1 x hx hf
      · rcases List.mem_cons.mp hx with rfl | hx
        · exact fun z => nomatch z
        · exact p2 x hx
    | cell => exact False.elim h
    | _ =>
      have h2 : FreeAll X r := h
      obtain ⟨p1, p2⟩ := freeAll_mem h2
      refine ⟨fun x hx hf => ?_, fun x hx => ?_⟩
      · rcases List.mem_cons.mp hx with rfl | hx
        · exact nomatch hf
        · exact p1 x hx hf
      · rcases List.mem_cons.mp hx with rfl | hx
        · exact fun z => nomatch z
        · exact p2 x hx
theorem clos_mk {X : Cx} {scope : Scope} (ok : X.Ok) (h : FreeAll X scope.names) : ∃ cl, Clos X scope cl := by
  obtain ⟨h1, h2⟩ := freeAll_mem h
  obtain ⟨cl, e, p1, p2, p3⟩ := forIn_clos (env := X.env) (f := fun x r => match x with
      | (name, kind) => if (kind == NameKind.free) = true then do let y ← cellOf X.env name; pure (ForInStep.yield ((name, y) :: r)) else pure (ForInStep.yield r))
    (fun n cs c hc => by
      have e : cellOf X.env n = pure c := by unfold cellOf; rw [hc]
      simp [e]) (fun n k cs hk => by
      have hk' : (k == NameKind.free) = false := by simpa using hk
      simp [hk']) scope.names [] (fun x hx hf => ok.has x.1 (h1 x hx hf)) (fun x c z => nomatch z)
  refine ⟨cl, ?_, p1, fun x hx => p3 (x, .free) (relabel_free (env := X.env) h2 hx) rfl⟩
  unfold closureFor
  simp only [bind_pure]
  rw [← e]
/-- the slots of the block's names: those of the names around it, or none -/
def pick (fs : List (Option Nat)) (σ : St) : St := fs.map fun o => match o with
  | some k => (σ[k]?).join
  | none => none
def PickOk (X : Cx) (scope : Scope) : List Str → List (Option Nat) → Prop
  | [], [] => True
  | _ :: N, none :: fs => PickOk X scope N fs
  | x :: N, some k :: fs => (X.N[k]? = some x ∧ Vis X.env.scope x ∧ (X.env.kindOf x = some .cell ∨ X.env.kindOf x = some .free) ∧ ((relabel scope X.env).names.lookup x = some .cell ∨ (relabel scope X.env).names.lookup x = some .free)) ∧ PickOk X scope N fs
  | _, _ => False
theorem pick_len {X : Cx} {scope : Scope} {σ : St} : ∀ {N : List Str} {fs : List (Option Nat)}, PickOk X scope N fs → (pick fs σ).length = N.length
  | [], [], _ => rfl
  | _ :: N, none :: fs, h => by
    have := pick_len (σ := σ) (show PickOk X scope N fs from h)
    simp only [pick, List.map_cons, List.length_cons, List.length_map] at *
    omega
  | _ :: N, some k :: fs, h => by
    have := pick_len (σ := σ) h.2
    simp only [pick, List.map_cons, List.length_cons, List.length_map] at *
    omega
  | [], _ :: _, h => False.elim h
  | _ :: _, [], h => False.elim h
theorem pick_ok {X : Cx} {scope : Scope} {pins : List (Addr × Obj)} {σ : St} {H : Hp} {s : Shared} (I : Inv X pins σ H s) : ∀ {N : List Str} {fs : List (Option Nat)}, PickOk X scope N fs → ∀ (i : Nat) (x : Str) (v : V), N[i]? = some x → (pick fs σ)[i]? = some (some v) →
    ((relabel scope X.env).names.lookup x = some .cell ∨ (relabel scope X.env).names.lookup x = some .free) ∧ ∃ c u, X.env.cells.lookup x = some c ∧ RelV v u ∧ s.heap.IsCell c (some u)
  | [], [], _, i, x, v, e, _ => by simp at e
  | y :: N, none :: fs, h, 0, x, v, e1, e2 => by simp [pick] at e2
  | y :: N, none :: fs, h, i + 1, x, v, e1, e2 => pick_ok I (show PickOk X scope N fs from h) i x v (by simpa using e1) (by simpa [pick] using e2)
  | y :: N, some k :: fs, h, 0, x, v, e1, e2 => by
    obtain ⟨⟨h1, h2, h3, h4⟩, _⟩ := h
    simp at e1
    subst e1
    have e3 : σ[k]? = some (some v) := by
      have e2' : (σ[k]?).join = some v := by simpa [pick] using e2
      cases q : σ[k]? with
      | none => rw [q] at e2'; exact nomatch e2'
      | some o => rw [q] at e2'; exact congrArg some e2'
    obtain ⟨m, hn, hl⟩ := I.loc
    obtain ⟨u, r, l⟩ := hl k y v h1 e3 h2
    refine ⟨h4, ?_⟩
    rcases l with ⟨kk, _⟩ | ⟨_, c, hc, z⟩
    · rcases h3 with q | q <;> rw [q] at kk <;> cases kk
    · exact ⟨c, u, hc, r, z⟩
  | y :: N, some k :: fs, h, i + 1, x, v, e1, e2 => pick_ok I h.2 i x v (by simpa using e1) (by simpa [pick] using e2)
  | [], _ :: _, h, _, _, _, _, _ => False.elim h
  | _ :: _, [], h, _, _, _, _, _ => False.elim h
section
variable {X : Cx} {scope : Scope} {N : List Str} {fs : List (Option Nat)} {tg iter elt : Expr} {ifs : List Expr} {wi : TI} {g : TG} {tt : TT} {te : TE} {pos : Pos}
/-- [elt for tg in iter if ..] -/
def tLC (wi : TI) (g : TG) (tt : TT) (te : TE) (fs : List (Option Nat)) : TE := fun σ H Q => wi σ H fun J H1 => ∀ d, H1 d = none → Turns J g tt te d (pick fs σ) (upd H1 d (.lst [])) fun H' => Q (.ref d) H'
theorem pe_lc (hi : PI X tg iter wi) (hc : X.calm = true) (hk : scope.kind = .function) (hnames : ∀ x ∈ scope.names, x.2 = .local → scope.names.lookup x.1 = some .local) (hfr : FreeAll X scope.names) (hp : PickOk X scope N fs)
    (hg : ∀ s H cl fp, PG (X.block s H scope cl N fp) tg g) (ht : ∀ s H cl fp, PTs (X.block s H scope cl N fp) ifs tt) (he : ∀ s H cl fp, PE (X.block s H scope cl N fp) elt te)
    (hs : ∀ x, foldedSetIterable iter X.env x = pure x := by intro _; rfl) : PE X (.ListComp elt [⟨tg, iter, ifs, 0⟩] scope pos) (tLC wi g tt te fs) := by
  intro pins s σ H Q I h
  obtain ⟨cl, C⟩ := clos_mk I.ok hfr
  rw [eval_ListComp]
  refine wpAny_comprehension_free (use := none) rfl hs C.eq hk hnames ?_
  refine thn (show wpAny (model X.prog X.w) X.A (eval iter X.env) _ _ _ from hi pins s σ H _ I h) fun v s1 h1 => thn h1 fun itv s2 h2 => ?_
  obtain ⟨it, fp, tn, J, H2, e, I2, T, st2, f2, hw⟩ := h2
  subst e
  refine block_run (RR := fun acc C => compPost (model X.prog X.w) X.A X.xe none (EP X pins σ Q) acc C) (Q := fun d H' => Q (.ref d) H') I2 hc T st2 f2 (freeAll_mem hfr).2 hk C (fun s H fp => hg s H cl fp) (fun s H fp => ht s H cl fp) (fun s H fp => he s H cl fp) (pick_len hp) (pick_ok I2 hp) hw ?_
  intro d c H' s' m J1 hsz hn hm q
  exact ⟨m, hm, fun h' hs' => ⟨.ref d, H', I2.letgo J1 hsz hn hs', rfl, q⟩⟩
/-- y = [elt for tg in iter if ..], on one row: stored ahead of the block's end -/
theorem ps_lc {j : Nat} {y : Str} {py spos : Pos} (hi : PI X tg iter wi) (hc : X.calm = true) (hk : scope.kind = .function) (hnames : ∀ x ∈ scope.names, x.2 = .local → scope.names.lookup x.1 = some .local) (hfr : FreeAll X scope.names) (hp : PickOk X scope N fs)
    (hg : ∀ s H cl fp, PG (X.block s H scope cl N fp) tg g) (ht : ∀ s H cl fp, PTs (X.block s H scope cl N fp) ifs tt) (he : ∀ s H cl fp, PE (X.block s H scope cl N fp) elt te)
    (hN : X.N.Nodup) (hj : X.N[j]? = some y) (hy : X.env.scope.names.lookup y = some .local)
    (hsw : swapsWith (.ListComp elt [⟨tg, iter, ifs, 0⟩] scope pos) (some (.Name y py)) spos.line X.env = pure true)
    (hs : ∀ x, foldedSetIterable iter X.env x = pure x := by intro _; rfl) : PS X (.Assign [.Name y py] (.ListComp elt [⟨tg, iter, ifs, 0⟩] scope pos) spos) (tAsg (tLC wi g tt te fs) (gName j)) := by
  intro pins s σ H D I h
  obtain ⟨cl, C⟩ := clos_mk I.ok hfr
  rw [exec_Assign_Name_used _ _ _ _ hsw]
  refine wpAny_bind (wpAny_standAt (wpAny_bind ?_))
  refine wpAny_bind (wpAny_mono (wpAny_comprehension_free (use := some (assign (.Name y py) X.env)) (Q := fun _ s' => SP X pins D .next s') rfl hs C.eq hk hnames ?_) (fun _ _ q => wpAny_pure (wpAny_pure q)) fun _ _ e => e)
  refine thn (show wpAny (model X.prog X.w) X.A (eval iter X.env) _ _ _ from hi pins s σ H _ I h) fun v s1 h1 => thn h1 fun itv s2 h2 => ?_
  obtain ⟨it, fp, tn, J, H2, e, I2, T, st2, f2, hw⟩ := h2
  subst e
  refine block_run (RR := fun acc C => compPost (model X.prog X.w) X.A X.xe (some (assign (.Name y py) X.env)) (fun _ s' => SP X pins D .next s') acc C) (Q := fun d H' => D.nx (σ.set j (some (.ref d))) H') I2 hc T st2 f2 (freeAll_mem hfr).2 hk C
    (fun s H fp => hg s H cl fp) (fun s H fp => ht s H cl fp) (fun s H fp => he s H cl fp) (pick_len hp) (pick_ok I2 hp) hw ?_
  intro d c H' s' m J1 hsz hn hm q
  refine wpAny_assign_Name (store_ok2 J1 hN hj (.inl hy) (v := .ref d) rfl (fun s'' J2 ⟨a, hs2, ha⟩ => ?_) (.inr hy))
  have nca : c ≠ a := by
    rcases ha with rfl | ha
    · exact Nat.ne_of_gt (Nat.lt_of_lt_of_le I2.lt hsz)
    · obtain ⟨v, z⟩ := I2.cell y a ha
      exact Nat.ne_of_gt (Nat.lt_of_lt_of_le z.lt hsz)
  exact ⟨m, hm.sameBut hs2 nca, fun h' hs' => ⟨_, H', I2.letgo J2 hsz hn hs', q⟩⟩
end
end L2
namespace L2
open PySem PySem.Spec PyProof.Rows
/-! ### an exception of the text's own in flight: every object that is tracked, or stood ahead of the call, lies in B as it is now (frames but for their slots) -/
def Cov (B : Heap) (fs : List Addr) (H' : Hp) (h0 h' : Heap) : Prop := ∀ b o, h'.get? b = some o → b ∉ fs → (H' b ≠ none ∨ ∃ o0, h0.get? b = some o0) → B.get? b = some o
def CX1 (P : Program) (w : World) : CXT := fun outer H s E e s' => ∃ (ea : Addr) (cls a0 : Value) (B : Heap) (H' : Hp), e = .ref ea ∧ Heap.FlyingW B outer ea cls a0 s'.heap ∧ Cov B (frs outer) H' s.heap s'.heap ∧
  Un (frs outer) [] H H' s.heap s'.heap ∧ HOk P w H' s'.heap ∧ s'.os = s.os ∧ AllBare s'.gens ∧ E cls none H'
section
variable {X : Cx} {pins : List (Addr × Obj)} {σ : St} {H : Hp} {s : Shared}
theorem Inv.offS (I : Inv X pins σ H s) {b : Addr} (h1 : b ≠ X.env.locals) (h2 : b ∉ X.fs) : b ∉ frs X.stack := fun z => (List.mem_cons.mp (I.stkSub b z)).elim h1 h2
/-- a step of the flight: what B holds stays, all else but records stays up to slots -/
theorem Inv.flown {B h0 h' : Heap} (J : Inv X pins σ H s) (cov : Cov B (frs X.stack) H h0 s.heap) (old : ∀ b o, X.s₀.heap.get? b = some o → b ∉ X.ex → ∃ o0, h0.get? b = some o0)
    (pn : ∀ p ∈ X.pn ++ pins, ∃ o0, h0.get? p.1 = some o0) (st : B.StaysIn h') (up : s.heap.UpToSlots h') : Inv X pins σ H { s with heap := h' } := by
  have neL : ∀ b o, X.s₀.heap.get? b = some o → b ≠ X.env.locals := fun b o e => Nat.ne_of_lt (Nat.lt_of_lt_of_le (Heap.lt_size e) J.ok.above)
  have frame : ∀ b o, s.heap.get? b = some o → b ∈ X.fs → ∃ sl, h'.get? b = some { o with slots := sl } := fun b o e hb => by
    obtain ⟨_, o', e', d⟩ := J.funs.mem hb
    rw [e] at e'; cases e'
    exact up b o e d
  have keepO : ∀ b o o0, X.s₀.heap.get? b = some o0 → b ∉ X.fs → b ∉ X.ex → s.heap.get? b = some o → h'.get? b = some o := fun b o o0 e0 hb hx e =>
    st b o (cov b o e (J.offS (neL b o0 e0) hb) (.inr (old b o0 e0 hx)))
  have cellK : ∀ c v, s.heap.IsCell c v → h'.IsCell c v := fun c v ⟨o, e, d⟩ => by
    obtain ⟨sl, q⟩ := up c o e (fun vs z => by rw [d] at z; cases z)
    exact ⟨_, q, d⟩
  have tracked : ∀ b u o, H b = some u → s.heap.get? b = some o → h'.get? b = some o := fun b u o hu e =>
    st b o (cov b o e (fun z => by have := J.stkFree b z; rw [this] at hu; cases hu) (.inl (by rw [hu]; intro z; cases z)))
  refine ⟨J.ok, J.os, J.bare, ⟨fun b o e n hb hx => ?_, fun b o e n hb hx => ?_, J.base.free, fun b o e hx => ?_, J.base.tups, J.base.frzs, J.base.tbls⟩, ?_, fun x c e => ?_, J.free, J.freeC, fun p hp => ?_, fun b u e => ?_, J.len⟩
  · exact keepO b o o e hb hx (J.base.keep b o e n hb hx)
  · obtain ⟨sl, e1⟩ := J.base.slot b o e n hb hx
    obtain ⟨sl', e2⟩ := frame b _ e1 hb
    exact ⟨sl', e2⟩
  · obtain ⟨o', e1⟩ := J.base.there b o e hx
    by_cases hb : b ∈ X.fs
    · obtain ⟨sl, e2⟩ := frame b o' e1 hb
      exact ⟨_, e2⟩
    · exact ⟨o', keepO b o' o e hb hx e1⟩
  · obtain ⟨m, ⟨o, es, ep, ho, hd, hk, hm⟩, hl⟩ := J.loc
    obtain ⟨sl, q⟩ := up _ o ho (fun vs z => by rw [hd] at z; cases z)
    refine ⟨m, ⟨_, es, ep, q, hd, hk, hm⟩, fun i x v e1 e2 e3 => ?_⟩
    obtain ⟨u, r, l⟩ := hl i x v e1 e2 e3
    refine ⟨u, r, ?_⟩
    rcases l with l | ⟨k, c, e, z⟩
    · exact .inl l
    · exact .inr ⟨k, c, e, cellK c _ z⟩
  · obtain ⟨v, z⟩ := J.cell x c e
    exact ⟨v, cellK c v z⟩
  · obtain ⟨e, n, ne, nf, d⟩ := J.pin p hp
    exact ⟨st _ _ (cov _ _ e (J.offS ne nf) (.inr (pn p hp))), n, ne, nf, d⟩
  · refine (J.hok b u e).stay (fun c v hc q => ?_) (fun _ q => q) fun _ _ q => q
    rcases hc with z | z
    · subst z; exact tracked _ u v e q
    · exact tracked c _ v z q
theorem Cov.flown {B h0 h' : Heap} {fs : List Addr} {H : Hp} {h : Heap} (cov : Cov B fs H h0 h) (th : ∀ b, b ∉ fs → (H b ≠ none ∨ ∃ o0, h0.get? b = some o0) → ∃ o, h.get? b = some o) (st : B.StaysIn h') : Cov B fs H h0 h' := fun b o e hb hc => by
  obtain ⟨o1, e1⟩ := th b hb hc
  have e2 := cov b o1 e1 hb hc
  have e3 := st b o1 e2
  rw [e] at e3; cases e3
  exact e2
end
section
variable {P : Program} {w : World} {K : PySem.W.Frag} {mg : Str → Option Value} {base : Heap} {N : List Str} {qual : Str} {scope : Scope} {f : Addr} {cd : Value} {A : Around} {outer : List Env} {s : Shared} {H : Hp} {E : XK}
/-- the context of a def that may raise -/
abbrev cxR (P : Program) (w : World) (K : PySem.W.Frag) (mg : Str → Option Value) (base : Heap) (N : List Str) (qual : Str) (scope : Scope) (f : Addr) (cd : Value) (A : Around) (outer : List Env) (s : Shared) (H : Hp) (E : XK) : Cx :=
  cxOf (CX1 P w) P w K mg base N qual scope f cd A outer s H E
theorem left_ok {pins : List (Addr × Obj)} {σ : St} {H' : Hp} {s1 : Shared} {B h0 h' : Heap} {ea : Addr} {cls a0 : Value} (J : Inv (cxR P w K mg base N qual scope f cd A outer s H E) pins σ H' s1)
    (cov : Cov B (frs (cxR P w K mg base N qual scope f cd A outer s H E).stack) H' h0 s1.heap) (old : ∀ b o, s.heap.get? b = some o → ∃ o0, h0.get? b = some o0) (pn : ∀ p ∈ pins, ∃ o0, h0.get? p.1 = some o0)
    (fl : Heap.FlyingW B outer ea cls a0 h') (up : s1.heap.UpToSlots h') (hE : E cls none H') : CX1 P w outer H s E (.ref ea) { s1 with heap := h' } := by
  have J' := J.flown (h' := h') cov (fun b o e _ => old b o e) (fun p hp => pn p (by simpa [cxOf] using hp)) fl.1 up
  refine ⟨ea, cls, a0, B, H', rfl, fl, fun b o e hb hc => ?_, J'.base, J'.hok, J'.os, J'.bare, hE⟩
  have neL : ∀ o0, s.heap.get? b = some o0 → b ≠ (cxR P w K mg base N qual scope f cd A outer s H E).env.locals := fun o0 e0 => Nat.ne_of_lt (Nat.lt_of_lt_of_le (Heap.lt_size e0) J.ok.above)
  have nst : b ∉ frs (cxR P w K mg base N qual scope f cd A outer s H E).stack := by
    rcases hc with z | ⟨o0, e0⟩
    · exact fun q => z (J.stkFree b q)
    · exact J.offS (neL o0 e0) hb
  have th : ∃ o1, s1.heap.get? b = some o1 := by
    rcases hc with z | ⟨o0, e0⟩
    · cases q : H' b with
      | none => exact absurd q z
      | some u => exact (J.hok b u q).there
    · exact J.base.there b o0 e0 (by intro z; exact nomatch z)
  obtain ⟨o1, e1⟩ := th
  have e2 := cov b o1 e1 nst (hc.elim .inl fun ⟨o0, e0⟩ => .inr (old b o0 e0))
  have e3 := fl.1 b o1 e2
  have e4 : h'.get? b = some o := e
  rw [e4] at e3; cases e3
  exact e2
/-- an exception of a callee leaves this def too -/
theorem passX : Passes (CX1 P w) (cxR P w K mg base N qual scope f cd A outer s H E) E := by
  intro pins σ H1 s1 e s' I hcx
  obtain ⟨ea, cls, a0, B, H', rfl, fl, cov, un, hok, ho, hg, hE⟩ := hcx
  have J : Inv (cxR P w K mg base N qual scope f cd A outer s H E) pins σ H' s' := I.call' (ch := []) ho un hok hg fun b hb => nomatch hb
  show wpAny (model P w) (A.deeper (envOfC qual scope s.heap.objs.size f cd)) (leaving (envOfC qual scope s.heap.objs.size f cd) (.ref ea)) (fun _ s'' => CX1 P w outer H s E (.ref ea) s'') (fun e' s'' => CX1 P w outer H s E e' s'') s'
  refine wpAny_leaves_onW (L := s.heap.objs.size) I.ok.frames rfl fl fun h' fl' up => ?_
  exact left_ok J cov (fun b o e => I.base.there b o e (by intro z; exact nomatch z)) (fun p hp => ⟨_, (I.pin p (List.mem_append_right _ hp)).1⟩) fl' up hE
/-- what a raise must reach -/
def Raises (X : Cx) (E : XK) : Prop := ∀ (pins : List (Addr × Obj)) (σ : St) (H : Hp) (s : Shared) (h' : Heap) (ea : Addr) (cls : Value) (vs : List Value), Inv X pins σ H s → Heap.MadeExcOf s.heap h' ea cls vs → E cls none H → X.xe (.ref ea) { s with heap := h' }
theorem raises_fn : Raises (cxR P w K mg base N qual scope f cd A outer s H E) E := by
  intro pins σ H1 s1 h2 ea cls vs I hm hE
  have J : Inv (cxR P w K mg base N qual scope f cd A outer s H E) pins σ H1 { s1 with heap := h2 } := I.kept (t' := s1.toks) hm.keeps
  obtain ⟨t, he, ht, htup⟩ := hm.there
  show wpAny (model P w) (A.deeper (envOfC qual scope s.heap.objs.size f cd)) (leaving (envOfC qual scope s.heap.objs.size f cd) (.ref ea)) (fun _ s'' => CX1 P w outer H s E (.ref ea) s'') (fun e' s'' => CX1 P w outer H s E e' s'') { s1 with heap := h2 }
  have hB : ∀ b o, (PySem.W.hideAll s1.heap (frs (cxR P w K mg base N qual scope f cd A outer s H E).stack)).get? b = some o → s1.heap.get? b = some o := fun b o e => PySem.W.of_hideAll _ e
  have hen : (PySem.W.hideAll s1.heap (frs (cxR P w K mg base N qual scope f cd A outer s H E).stack)).get? ea = none := by
    cases q : (PySem.W.hideAll s1.heap (frs (cxR P w K mg base N qual scope f cd A outer s H E).stack)).get? ea with
    | none => rfl
    | some o => have := hB _ _ q; rw [hm.new] at this; cases this
  have ff : h2.FunFrames (PySem.W.hideAll s1.heap (frs (cxR P w K mg base N qual scope f cd A outer s H E).stack)) (cxR P w K mg base N qual scope f cd A outer s H E).stack :=
    (PySem.W.funFrames_hide (as := frs (cxR P w K mg base N qual scope f cd A outer s H E).stack) I.stack fun env he a ha => List.mem_filterMap.mpr ⟨env, he, ha⟩).of_keeps fun b o e _ => ⟨o, hm.keeps b o e, rfl⟩
  refine wpAny_leaving_firstW (base := PySem.W.hideAll s1.heap (frs (cxR P w K mg base N qual scope f cd A outer s H E).stack)) (L := s.heap.objs.size) (a0 := .ref t) I.ok.frames ff rfl he (fun b o e => hm.keeps b o (hB b o e)) hen rfl rfl rfl fun h' left => ?_
  obtain ⟨k1, ⟨_, _, k2⟩, k3, k4⟩ := left
  refine left_ok (h0 := s1.heap) J (fun b o e hb hc => ?_) (fun b o e => I.base.there b o e (by intro z; exact nomatch z)) (fun p hp => ⟨_, (I.pin p (List.mem_append_right _ hp)).1⟩) ⟨k1, hen, k2, k3⟩ k4 hE
  have th : ∃ o1, s1.heap.get? b = some o1 := by
    rcases hc with z | z
    · cases q : H1 b with
      | none => exact absurd q z
      | some u => exact (I.hok b u q).there
    · exact z
  obtain ⟨o1, e1⟩ := th
  have e2 := hm.keeps b o1 e1
  have e3 : h2.get? b = some o := e
  rw [e3] at e2; cases e2
  exact PySem.W.hideAll_get _ e1 hb
end
/-! ### raise C(..) -/
section
variable {X : Cx} {E : XK} {x : Str} {C : Addr} {B newId initId : String} {bm : List Value} {np cpos pos : Pos} {e₀ : Expr} {rest : List Expr} {ta : TA}
def tRaise (cls : Value) (ta : TA) (E : XK) : TS := fun _ σ H => ta σ H fun vs H1 => vs.length ≤ sizeLine ∧ E cls none H1
theorem ps_raise (O : OwnCls x C bm newId X.mg X.base) (FB : ExcBaseFacts B newId initId bm) (hc : X.calm = true) (hg : Gl X x) (hR : Raises X E) (ha : PA X (e₀ :: rest) ta)
    (he : starEach (e₀ :: rest) X.env = (false, eval e₀ X.env) :: starEach rest X.env := by rfl) (hplain : (backTo cpos (starEach rest X.env)).any (·.1) = false := by rfl) (hd : (x == ("__debug__" : Str)) = false := by decide) :
    PS X (.Raise (some (.Call (.Name x np) (e₀ :: rest) [] cpos)) none pos) (tRaise (.ref C) ta E) := by
  intro pins s σ H D I h
  obtain ⟨tl, N, nm, q, bs, hdct, sn, sub, ab, col, dd, k0, k1, k2, k3, k5, mN, hC, hN, hni, T⟩ := O.obj
  refine wpAny_Raise_call_subT (C := C) (nm := nm) (q := q) (N := N) (bs := bs) (bm := tl) (hdct := hdct) (sn := sn) (sub := sub) (ab := ab) (col := col) (dd := dd) (k0 := k0) (k1 := k1) (k2 := k2) (k3 := k3) (k5 := k5)
    FB (mN := mN) (T.hasType FB.hasBase) (I.ok.hd hc) (by rw [he]; show (false || (backTo cpos (starEach rest X.env)).any (·.1)) = false; rw [hplain]; rfl) hni (ld_glob I hg O.bound ⟨rfl, ?_⟩ hd)
  have hA := ha cpos pins s σ H _ I h
  rw [he] at hA ⊢
  exact Calls.evalArgs_plain (thn hA fun us s2 ⟨vs, H2, I2, r2, hz, q2⟩ => ⟨rfl, by rw [← r2.length]; exact hz, I2.bk _ _ hC, hN.keeps I2.bk, T.keeps I2.bk, fun h' ea hm => hR pins σ H2 s2 h' ea _ _ I2 hm q2⟩)
theorem ps_raise0 (O : OwnCls x C bm newId X.mg X.base) (FB : ExcBaseFacts B newId initId bm) (hc : X.calm = true) (hg : Gl X x) (hR : Raises X E) (hd : (x == ("__debug__" : Str)) = false := by decide) :
    PS X (.Raise (some (.Call (.Name x np) [] [] cpos)) none pos) (fun _ _ H => E (.ref C) none H) := by
  intro pins s σ H D I h
  obtain ⟨tl, N, nm, q, bs, hdct, sn, sub, ab, col, dd, k0, k1, k2, k3, k5, mN, hC, hN, hni, T⟩ := O.obj
  refine wpAny_Raise_call_subT (C := C) (nm := nm) (q := q) (N := N) (bs := bs) (bm := tl) (hdct := hdct) (sn := sn) (sub := sub) (ab := ab) (col := col) (dd := dd) (k0 := k0) (k1 := k1) (k2 := k2) (k3 := k3) (k5 := k5)
    FB (mN := mN) (T.hasType FB.hasBase) (I.ok.hd hc) rfl hni (ld_glob I hg O.bound ⟨rfl, ?_⟩ hd)
  exact evalArgs_empty ⟨rfl, Nat.zero_le _, I.bk _ _ hC, hN.keeps I.bk, T.keeps I.bk, fun h' ea hm => hR pins σ H s h' ea _ _ I hm h⟩
end
/-- a def of the text that may raise -/
theorem Fun.okR {P : Program} {w : World} {K : PySem.W.Frag} {mg : Str → Option Value} {base : Heap} {x qual : Str} {st : Stmt} {f : Addr} {fd : FuncData} {N ps : List Str} {k : Nat} {sp : Sp} (F : Fun K x qual st f fd) (S : FnScope N ps (defScope st)) (len : ∀ vs H Q E, sp vs H Q E → vs.length = ps.length)
    (hbody : ∀ (cdv : Value) (A : Around) (outer : List Env) (s : Shared) (H : Hp) (vs : List V) (Q : VK) (E : XK), Room k (A.deeper (envOfC qual (defScope st) s.heap.objs.size f cdv)) → sp vs H Q E →
      ∃ t, PSs (cxR P w K mg base N qual (defScope st) f cdv A outer s H E) (defBody st) t ∧ t { nx := fun _ H' => Q .non H', rt := Q } (start N vs) H) : FnOk P w K mg base (CX1 P w) (k + 1) f fd ps sp := by
  obtain ⟨oc, od, kV, doc, pm, an, cdv, ct, osl, rfl, lk, hcd⟩ := F.ex
  exact fn_of lk hcd S len fun A outer s H vs Q E hr hsp => hbody cdv A outer s H vs Q E hr hsp
end L2
namespace L2
open PySem PySem.Spec PyProof.Rows
/-- an exception of a callee, by the values of the names at the call -/
def PassesS (CX : CXT) (X : Cx) (Eσ : St → XK) : Prop := ∀ (pins : List (Addr × Obj)) (σ : St) (H : Hp) (s : Shared) (e : Value) (s' : Shared), Inv X pins σ H s → CX X.stack H s (Eσ σ) e s' → X.xe e s'
theorem passS {CX : CXT} {X : Cx} {E : XK} (h : Passes CX X E) : PassesS CX X (fun _ => E) := h
def tCallS (sp : Sp) (dvs : List V) (Eσ : St → XK) (t : TA) : TE := fun σ H Q => t σ H fun vs H1 => sp (vs ++ dvs) H1 Q (Eσ σ)
def tMethS (C : Addr) (m : Str) (sp : Sp) (dvs : List V) (Eσ : St → XK) (ta : TE) (t : TA) : TE := fun σ H Q => ta σ H fun x H1 => ∃ a dx fs, x = .ref a ∧ H1 a = some (.ins C dx fs) ∧ fs.lookup m = none ∧
  t σ H1 fun vs H2 => sp (.ref a :: vs ++ dvs) H2 Q (Eσ σ)
section
variable {X : Cx} {CX : CXT} {k : Nat} {f C : Addr} {fd : FuncData} {ps : List Str} {sp : Sp} {dvs : List V} {ds : List Value} {Eσ : St → XK} {x m : Str} {p pos apos : Pos} {e o : Expr} {es : List Expr} {ta : TE} {t : TA}
theorem run_fnS {pins : List (Addr × Obj)} {σ : St} {H : Hp} {s : Shared} {Q : VK} {us : List Value} {vs : List V} (F : FnOk X.prog X.w X.K X.mg X.base CX k f fd ps sp) (hr : Room k X.A) (hb : Binds X.K fd ps ds) (hd : Vals dvs ds) (hx : PassesS CX X Eσ)
    (I : Inv X pins σ H s) (r : Vals vs us) (h : sp (vs ++ dvs) H Q (Eσ σ)) : wpAny (model X.prog X.w) X.A (call (.ref f) us) (EP X pins σ Q) X.xe s := by
  have r2 : Vals (vs ++ dvs) (us ++ ds) := r.append hd
  have hl : (us ++ ds).length = ps.length := by rw [← r2.length]; exact F.len _ _ _ _ h
  refine wpAny_call (codeAny_mono (F.run X.A X.stack s H ⟨us, []⟩ (us ++ ds) (vs ++ dvs) Q (Eσ σ) hr I.env0 (hb s us I.kIn hl) r2 h) fun r s' hq => ?_)
  cases r with
  | error e => exact hx pins σ H s e s' I hq
  | ok fl =>
    cases fl with
    | ret u => exact I.after hq
    | next => exact False.elim hq
    | brk => exact False.elim hq
    | cont => exact False.elim hq
theorem pe_callS (F : FnOk X.prog X.w X.K X.mg X.base CX k f fd ps sp) (hr : Room k X.A) (hg : Gl X x) (hm : X.mg x = some (.ref f)) (hk : PySem.W.keepIn X.K (.ref f) = true) (hb : Binds X.K fd ps ds) (hd : Vals dvs ds) (hx : PassesS CX X Eσ)
    (ha : PA X (e :: es) t) (hdb : (x == ("__debug__" : Str)) = false := by decide) (he : starEach (e :: es) X.env = (false, eval e X.env) :: starEach es X.env := by rfl) (hpl : (backTo pos (starEach es X.env)).any (·.1) = false := by rfl) :
    PE X (.Call (.Name x p) (e :: es) [] pos) (tCallS sp dvs Eσ t) := by
  intro pins s σ H Q I h
  refine wpAny_Call_Name_kw (ld_glob I hg hm ?_ hdb)
  refine PySem.W.callWith_K (h₀ := X.base) I.ok.mod.kin hk (thn (ha pos pins s σ H _ I h) fun us s1 ⟨vs, H1, I1, r, q⟩ => ⟨I1.kIn, ?_⟩) he hpl
  exact run_fnS F hr hb hd hx I1 r q
theorem pe_methS {pl : Sem Bool} (he : PE X o ta) (c : Cls X.K C) (hm : Meth X.K C m f) (F : FnOk X.prog X.w X.K X.mg X.base CX k f fd ps sp) (hr : Room k X.A) (hb : Binds X.K fd ps ds) (hd : Vals dvs ds) (hx : PassesS CX X Eσ) (ha : PA X (e :: es) t)
    (hst : starEach (e :: es) X.env = (false, eval e X.env) :: starEach es X.env := by rfl) (hpl : (backTo pos (starEach es X.env)).any (·.1) = false := by rfl)
    (ht : eval (.Call (.Attribute o m apos) (e :: es) [] pos) X.env = (do
      let ov ← eval o X.env
      standAt apos.atName
      let (f, first) ← holding [ov] (getMethod ov m pl)
      callWith pos f first (backTo pos (starEach (e :: es) X.env)) (backToKw pos (keywordEach [] X.env))) := by rfl) :
    PE X (.Call (.Attribute o m apos) (e :: es) [] pos) (tMethS C m sp dvs Eσ ta t) := by
  intro pins s σ H Q I h
  refine PySem.W.methodCall_KW (pl := pl) (thn (he pins s σ H _ I h) fun u s1 ⟨x, H1, I1, rx, a, dx, fs, ex, ea, l, q⟩ => ?_) ht
  subst ex
  obtain rfl : u = Value.ref a := rx
  refine getmeth_ok I1 ea c hm l ?_
  refine PySem.W.callWith_K (first := [.ref a]) (h₀ := X.base) I.ok.mod.kin hm.kp (thn (ha pos pins s1 σ H1 _ I1 q) fun us s2 ⟨vs, H2, I2, r, q2⟩ => ⟨I2.kIn, ?_⟩) hst hpl
  exact run_fnS (us := .ref a :: us) (vs := .ref a :: vs) F hr hb hd hx I2 (.cons rfl r) q2
end
/-! ### try: .. except C: .. (no name, no else, no finally) -/
abbrev Cx.tried (X : Cx) (pn : List (Addr × Obj)) (E1 : Value → Shared → Prop) : Cx := { X with pn := pn, xe := E1 }
abbrev Cx.marked (X : Cx) (ea : Addr) : Cx := { X with A := X.A.mark (some (.ref ea)), calm := false, xe := fun _ _ => False }
section
variable {X : Cx} {pins : List (Addr × Obj)} {σ : St} {H : Hp} {s : Shared}
theorem Cx.Ok.tried (ok : X.Ok) (pn : List (Addr × Obj)) (E1 : Value → Shared → Prop) : (X.tried pn E1).Ok :=
  ⟨ok.mod, ok.kind, ok.glob, ok.blt, ok.above, ok.inj, ok.has, ok.cab, ok.hd, ok.frames, ok.stk, ok.exf, ok.bs, ok.bsz, ok.noex, ok.exfs, ok.funs, ok.frf⟩
theorem Cx.Ok.marked (ok : X.Ok) (ea : Addr) : (X.marked ea).Ok :=
  ⟨ok.mod, ok.kind, ok.glob, ok.blt, ok.above, ok.inj, ok.has, ok.cab, (fun z => absurd (show false = true from z) (by decide)), ok.frames, ok.stk, ok.exf, ok.bs, ok.bsz, ok.noex, ok.exfs, ok.funs, ok.frf⟩
theorem Inv.tried (I : Inv X pins σ H s) (E1 : Value → Shared → Prop) : Inv (X.tried (X.pn ++ pins) E1) [] σ H s :=
  ⟨I.ok.tried _ _, I.os, I.bare, I.base, I.loc, I.cell, I.free, I.freeC, fun p hp => I.pin p (by simpa using hp), I.hok, I.len⟩
theorem Inv.untried {pn pins' : List (Addr × Obj)} {E1 : Value → Shared → Prop} (ok : X.Ok) (hpn : pn = X.pn ++ pins) (I : Inv (X.tried pn E1) pins' σ H s) : Inv X pins σ H s :=
  ⟨ok, I.os, I.bare, I.base, I.loc, I.cell, I.free, I.freeC, fun p hp => I.pin p (List.mem_append_left _ (by rw [hpn]; exact hp)), I.hok, I.len⟩
theorem Inv.marked (I : Inv X pins σ H s) (ea : Addr) : Inv (X.marked ea) pins σ H s := ⟨I.ok.marked ea, I.os, I.bare, I.base, I.loc, I.cell, I.free, I.freeC, I.pin, I.hok, I.len⟩
theorem Inv.unmarked {ea : Addr} (ok : X.Ok) (I : Inv (X.marked ea) pins σ H s) : Inv X pins σ H s := ⟨ok, I.os, I.bare, I.base, I.loc, I.cell, I.free, I.freeC, I.pin, I.hok, I.len⟩
end
def tTry (K : PySem.W.Frag) (CQ : Addr) (tb : (St → XK) → TS) (ts : TS) : TS := fun D σ H => tb (fun σ' cls _ H' => PySem.W.exmOne K cls (.ref CQ) = some true ∧ ts D σ' H') D σ H
theorem ps_try {X : Cx} {x : Str} {CQ : Addr} {body suite : List Stmt} {b₀ : Stmt} {tb : (St → XK) → TS} {ts : TS} {np hpos pos : Pos} (hst : X.stack = X.env :: X.outer) (hfr : X.env.frame = some X.env.locals)
    (hg : Gl X x) (hm : X.mg x = some (.ref CQ)) (hb : ∀ pn E1 Eσ, PassesS (CX1 X.prog X.w) (X.tried pn E1) Eσ → PSs (X.tried pn E1) body (tb Eσ)) (hs : ∀ ea, PSs (X.marked ea) (b₀ :: suite) ts) (hd : (x == ("__debug__" : Str)) = false := by decide) :
    PS X (.Try body [.ExceptHandler (some (.Name x np)) none (b₀ :: suite) hpos] [] [] pos) (tTry X.K CQ tb ts) := by
  intro pins s σ H D I h
  let Eσ : St → XK := fun σ' cls _ H' => PySem.W.exmOne X.K cls (.ref CQ) = some true ∧ ts D σ' H'
  let E1 : Value → Shared → Prop := fun e s' => ∃ σ' H1 s1, Inv X pins σ' H1 s1 ∧ CX1 X.prog X.w X.stack H1 s1 (Eσ σ') e s'
  have pass : PassesS (CX1 X.prog X.w) (X.tried (X.pn ++ pins) E1) Eσ := fun pins' σ' H1 s1 e s' I1 hcx => ⟨σ', H1, s1, I1.untried I.ok rfl, hcx⟩
  refine wpAny_Try_except (wpAny_mono (hb (X.pn ++ pins) E1 Eσ pass [] s σ H D (I.tried E1) h) (fun fl s1 q => ?_) fun e s1 hE => ?_)
  · cases fl with
    | next =>
      obtain ⟨σ', H', J, q⟩ := q
      exact wpAny_execs_nil ⟨σ', H', J.untried I.ok rfl, q⟩
    | brk =>
      obtain ⟨σ', H', J, q⟩ := q
      exact ⟨σ', H', J.untried I.ok rfl, q⟩
    | cont =>
      obtain ⟨σ', H', J, q⟩ := q
      exact ⟨σ', H', J.untried I.ok rfl, q⟩
    | ret u =>
      obtain ⟨v, σ', H', J, r, q⟩ := q
      exact ⟨v, σ', H', J.untried I.ok rfl, r, q⟩
  · obtain ⟨σ', H1, s0, I0, ea, cls, a0, B, H', rfl, fl, cov, un, hok, ho, hgn, hcls, hts⟩ := hE
    have J : Inv X pins σ' H' s1 := I0.call' (ch := []) ho un hok hgn fun b hb => nomatch hb
    have old : ∀ b o, X.s₀.heap.get? b = some o → b ∉ X.ex → ∃ o0, s0.heap.get? b = some o0 := fun b o e hx => I0.base.there b o e hx
    have pn : ∀ p ∈ X.pn ++ pins, ∃ o0, s0.heap.get? p.1 = some o0 := fun p hp => ⟨_, (I0.pin p hp).1⟩
    have th : ∀ b, b ∉ frs X.stack → (H' b ≠ none ∨ ∃ o0, s0.heap.get? b = some o0) → ∃ o, s1.heap.get? b = some o := fun b _ hc => by
      rcases hc with z | ⟨o0, e0⟩
      · cases q : H' b with
        | none => exact absurd q z
        | some u => exact (J.hok b u q).there
      · exact un.there b o0 e0 (by simp)
    refine wpAny_looks_onW (outer := X.outer) (L := X.env.locals) (by rw [I.ok.frames, hst]) hfr (by rw [← hst]; exact fl) fun h4 held4 up4 => ?_
    refine wpAny_landsW held4 fun h5 fl5 up5 => ?_
    have up := up4.trans up5
    have J5 : Inv X pins σ' H' { s1 with heap := h5 } := J.flown cov old pn fl5.1 up
    have cov5 : Cov B (frs X.stack) H' s0.heap h5 := cov.flown th fl5.1
    refine wpAny_handleBy_cons (codeAny_handlers_test ?_) (by intro q; cases q)
    refine ld_glob (X := X.marked ea) (J5.marked ea) hg hm ?_ hd
    have LT : PySem.W.Looks (model X.prog X.w) h5 (typeOf (.ref ea)) cls := by
      obtain ⟨ob, hob, hc⟩ := fl5.there
      subst hc
      exact (PySem.W.Looks.ld hob).andThen .now
    refine (PySem.W.exm_one (h := h5) J5.kIn LT hcls).here ?_
    refine codeAny_handlers_suite ?_
    refine lands_againW fl5 fun h6 fl6 up6 => ?_
    have J6 : Inv X pins σ' H' { s1 with heap := h6 } := J5.flown cov5 old pn fl6.1 up6
    refine wpAny_mono (hs ea pins _ σ' H' D (J6.marked ea) hts) (fun fw s7 q7 => ?_) fun _ _ z => z.elim
    cases fw with
    | next =>
      obtain ⟨σ7, H7, J7, q⟩ := q7
      exact ⟨σ7, H7, J7.unmarked I.ok, q⟩
    | brk =>
      obtain ⟨σ7, H7, J7, q⟩ := q7
      exact ⟨σ7, H7, J7.unmarked I.ok, q⟩
    | cont =>
      obtain ⟨σ7, H7, J7, q⟩ := q7
      exact ⟨σ7, H7, J7.unmarked I.ok, q⟩
    | ret u =>
      obtain ⟨v, σ7, H7, J7, r, q⟩ := q7
      exact ⟨v, σ7, H7, J7.unmarked I.ok, r, q⟩
end L2
namespace L2
open PySem PySem.Spec PyProof.Rows
section
variable {X : Cx}
/-! ### texts: times, slices, split, int -/
theorem op_mul_str : OpR X (binaryOp .Mult) (fun x y H Q => ∃ z n, x = .str z ∧ y = .int n ∧ MulOk z n ∧ Q (.str (Txt.mul z n)) H) := by
  intro pins s σ H x y v u Q I rx ry h
  obtain ⟨z, n, rfl, rfl, hok, q⟩ := h
  obtain ⟨t, rfl⟩ := rx
  obtain ⟨t', rfl⟩ := ry
  exact SB.mul hok fun t2 k => ⟨.str _, H, I.tok _, ⟨_, rfl⟩, q⟩
def rSlS : V → Option Int → Option Int → Hp → VK → Prop := fun x lo hi H Q => ∃ z, x = .str z ∧ z.length ≤ sizeLine ∧ Q (.str (Txt.slice z lo hi)) H
theorem sl_str : SlR X rSlS := by
  intro pins s σ H x v vl vu lo hi sl Q I rx hs pl pu h
  obtain ⟨z, rfl, hz, q⟩ := h
  obtain ⟨t, rfl⟩ := rx
  obtain ⟨o, ho, hc, hd⟩ := hs
  refine ⟨"str", _, PySem.F.slot_str_getitem.lookup, typeIs_str _ _ _, ?_⟩
  have fin : ∀ (t' : Tok) (k : Nat), EP X pins σ Q (.str (Txt.slice z lo hi) t') { s with toks := k } := fun t' k => ⟨.str _, H, I.tok _, ⟨_, rfl⟩, q⟩
  cases pl with
  | none =>
    cases pu with
    | none => exact wpAny_getItem_str_slice (l := none) (u := none) (st := none) ⟨o, ho, hc, hd⟩ rfl (post_val_or_str ⟨Nat.le_trans (Txt.slice_le z _ _) hz, fin⟩)
    | int j uj => exact wpAny_getItem_str_slice (l := none) (u := some (j, uj)) (st := none) ⟨o, ho, hc, hd⟩ rfl (post_val_or_str ⟨Nat.le_trans (Txt.slice_le z _ _) hz, fin⟩)
  | int i ui =>
    cases pu with
    | none => exact wpAny_getItem_str_slice (l := some (i, ui)) (u := none) (st := none) ⟨o, ho, hc, hd⟩ rfl (post_val_or_str ⟨Nat.le_trans (Txt.slice_le z _ _) hz, fin⟩)
    | int j uj => exact wpAny_getItem_str_slice (l := some (i, ui)) (u := some (j, uj)) (st := none) ⟨o, ho, hc, hd⟩ rfl (post_val_or_str ⟨Nat.le_trans (Txt.slice_le z _ _) hz, fin⟩)
theorem vals_strs (k : Nat) : ∀ ss : List Str, Vals (ss.map V.str) (strsFrom k ss)
  | [] => .nil
  | x :: r => .cons ⟨_, rfl⟩ (vals_strs _ r)
/-- the parts of a text between the places where y stands -/
def splitS (x y : Str) : List Str := if (Builtin.Str.occurrences x y 0 x.length (x.length + 1)).isEmpty then [x] else Builtin.Str.partsBetween x (Builtin.Str.occurrences x y 0 x.length (x.length + 1)) y.length
theorem meets_split_one (x y : Str) (t u : Tok) (h1 : (decide (x.length < y.length) || decide (Builtin.Str.strKind x < Builtin.Str.strKind y)) = false) (hy : (y.length == 0) = false)
    (hf : (Builtin.Str.occurrences x y 0 x.length (x.length + 1)).isEmpty = true) :
    Meets (Builtin.«str.split» ⟨[.str x t, .str y u], []⟩) (fun _ R s => R (.ok (.ret (.ref s.heap.objs.size))) { s with heap := s.heap.push { cls := .type "list", data := .seq [Value.str x t].toArray } }) := by
  obtain ⟨raising, htree⟩ := split_sep_tree x y t u
  refine .of_wp fun prog w A R s h => ?_
  rw [htree, h1, hy, hf]
  show wpAny _ _ (do rule "str.split.same-object"; ret (← newList [.str x t])) _ _ s
  exact wpAny_bind (wpAny_rule (wpAny_bind (wpAny_newList (wpAny_pure ⟨_, rfl, h⟩) (by show 1 ≤ sizeLine; decide))))
def rSplit : V → List V → Hp → VK → Prop := fun x vs H Q => ∃ z y, x = .str z ∧ vs = [.str y] ∧ (decide (z.length < y.length) || decide (Builtin.Str.strKind z < Builtin.Str.strKind y)) = false ∧ (y.length == 0) = false ∧
  z.length ≤ sizeLine ∧ (splitS z y).length ≤ sizeLine ∧ ∀ p, H p = none → Q (.ref p) (upd H p (.lst ((splitS z y).map V.str)))
theorem mt_split : MtR X "str.split" rSplit := by
  intro pins s σ H x vs v us Q I rx rv h
  obtain ⟨z, y, rfl, rfl, h1, hy, hz, hn, q⟩ := h
  obtain ⟨t, rfl⟩ := rx
  obtain ⟨u, rfl, t', rfl⟩ := vals1 rv
  have hf := I.fresh
  unfold splitS at hn q
  cases e : (Builtin.Str.occurrences z y 0 z.length (z.length + 1)).isEmpty with
  | true =>
    rw [e] at hn q
    refine call_meets PySem.F.slot_str_split (typeIs_str _ _ _) PySem.F.entry_str_split (PySem.F.args_str_split_2 _ _) (meets_split_one z y t t' h1 hy e) ?_
    exact ⟨.ref s.heap.objs.size, _, I.lnew (t' := s.toks) (ys := [.str z]) (its := [.str z t]) (.cons ⟨_, rfl⟩ .nil) (by show 1 ≤ sizeLine; decide), rfl, q _ hf⟩
  | false =>
    rw [e] at hn q
    refine call_meets PySem.F.slot_str_split (typeIs_str _ _ _) PySem.F.entry_str_split (PySem.F.args_str_split_2 _ _) (meets_str_split_sep z y t t' h1 hy e hz hn) ?_
    exact ⟨.ref s.heap.objs.size, _, I.lnew (vals_strs s.toks _) (by rw [List.length_map]; exact hn), rfl, q _ hf⟩
theorem call_int_str : CallR X (.type "int") (fun xs H Q => ∃ z n, xs = [.str z] ∧ intText? z = some n ∧ z.length ≤ 640 ∧ Q (.int n) H) := by
  intro pins s σ H xs us Q I r h
  obtain ⟨z, n, rfl, hn, hl, q⟩ := h
  obtain ⟨u, rfl, t, rfl⟩ := vals1 r
  exact PySem.W.KIN.call_text hn hl ⟨.int n, H, I.tok _, ⟨_, rfl⟩, q⟩
/-! ### sum of a list of ints -/
/-- sum(xs) of none or one int -/
theorem call_sum1 (hc : X.calm = true) : CallR X (.builtin "sum") (fun xs H Q => ∃ p ns, xs = [.ref p] ∧ SqL X.K H p (List.map V.int ns) ∧ ns.length ≤ 1 ∧ Q (.int ns.sum) H) := by
  intro pins s σ H xs us Q I r h
  obtain ⟨p, ns, rfl, hS, hl, q⟩ := h
  obtain ⟨u, rfl, ru⟩ := vals1 r
  cases ru
  obtain ⟨its, rv, pl, hz⟩ := I.list hS
  match ns, rv, hl, q with
  | [], .nil, _, q =>
    refine sum_intListG (xs := #[]) (I.ok.hd hc) (by have h1 := pl.isList; simpa [intItems] using h1) fun h' tk t' hk => ⟨.int 0, H, I.kept hk, ⟨t', rfl⟩, q⟩
  | [n], .cons ⟨t, e⟩ .nil, _, q =>
    subst e
    refine sum_intListG (xs := #[(n, t)]) (I.ok.hd hc) (by have h1 := pl.isList; simpa [intItems] using h1) fun h' tk t' hk => ⟨.int n, H, I.kept hk, ⟨t', ?_⟩, by simpa using q⟩
    simp [preSum, numAt]
  | _ :: _ :: _, _, hl, _ => exact absurd hl (by simp)
end
end L2
namespace L2
open PySem PySem.Spec PyProof.Rows
theorem eqV_refl {x : V} (h : flatV x = true) : eqV x x = true := by
  cases x with
  | non => rfl
  | bl b => simp [eqV]
  | int i => simp [eqV]
  | str z => simp [eqV]
  | _ => exact nomatch h
theorem all_range {n : Nat} {e : Nat → Bool} (h : ∀ j, j < n → e j = true) : (List.range n).all e = true := List.all_eq_true.mpr fun j hj => h j (List.mem_range.mp hj)
theorem vals_eqAt {A : Around} {s : Shared} {xs : List V} {us vs : List Value} (r1 : Vals xs us) (r2 : Vals xs vs) (hf : xs.all flatV = true) : ∀ j (h1 : j < us.toArray.size) (h2 : j < vs.toArray.size), SeqAt.EqAt A s us.toArray[j] vs.toArray[j] true := fun j h1 h2 => by
  have l1 := r1.length
  have hj : j < xs.length := by rw [l1]; simpa using h1
  have ex : xs[j]? = some xs[j] := List.getElem?_eq_getElem hj
  obtain ⟨u, eu, ru⟩ := r1.get ex
  obtain ⟨v, ev, rv⟩ := r2.get ex
  have fx : flatV xs[j] = true := List.all_eq_true.mp hf _ (List.getElem_mem hj)
  have e1 : us.toArray[j] = u := by
    have : us[j]? = some (us[j]'(by simpa using h1)) := List.getElem?_eq_getElem _
    rw [eu] at this; simpa using (Option.some.inj this).symm
  have e2 : vs.toArray[j] = v := by
    have : vs[j]? = some (vs[j]'(by simpa using h2)) := List.getElem?_eq_getElem _
    rw [ev] at this; simpa using (Option.some.inj this).symm
  rw [e1, e2]
  have := eqAt_V (A := A) (s := s) ru rv fx fx
  rwa [eqV_refl fx] at this
section
variable {X : Cx}
/-- two tuples of the same flat items are not unlike -/
theorem op_neT_same (hu : X.A.units < cLine) : OpR X (compareOp .NotEq) (fun x y H Q => ∃ a b xs, x = .ref a ∧ y = .ref b ∧ SqT X.K H a xs ∧ SqT X.K H b xs ∧ xs.all flatV = true ∧ Q (.bl false) H) := by
  intro pins s σ H x y v u Q I rx ry h
  obtain ⟨a, b, xs, rfl, rfl, ha, hb, hf, q⟩ := h
  cases rx
  cases ry
  obtain ⟨us, r1, t1, _⟩ := I.tuple ha
  obtain ⟨vs, r2, t2, _⟩ := I.tuple hb
  have l1 := r1.length
  have l2 := r2.length
  have key := SeqAt.RcNeAt.tuples (A := X.A) (s := s) (e := fun _ => true) (show s.heap.IsTuple a us.toArray from t1) (show s.heap.IsTuple b vs.toArray from t2) hu (vals_eqAt r1 r2 hf)
  refine key X.prog X.w X.xe _ ?_
  have e : (!((List.range (min us.toArray.size vs.toArray.size)).all (fun _ => true) && us.toArray.size == vs.toArray.size)) = false := by
    rw [all_range fun _ _ => rfl]
    simp [← l1, ← l2]
  rw [e]
  exact ⟨.bl false, H, I, rfl, q⟩
theorem op_neL_same (hu : X.A.units < cLine) : OpR X (compareOp .NotEq) (fun x y H Q => ∃ a b xs, x = .ref a ∧ y = .ref b ∧ SqL X.K H a xs ∧ SqL X.K H b xs ∧ xs.all flatV = true ∧ Q (.bl false) H) := by
  intro pins s σ H x y v u Q I rx ry h
  obtain ⟨a, b, xs, rfl, rfl, ha, hb, hf, q⟩ := h
  cases rx
  cases ry
  obtain ⟨us, r1, t1, _⟩ := I.list ha
  obtain ⟨vs, r2, t2, _⟩ := I.list hb
  have l1 := r1.length
  have l2 := r2.length
  have key := SeqAt.RcNeAt.lists (A := X.A) (s := s) (e := fun _ => true) t1.isList t2.isList (by simp [← l1, ← l2]) hu (vals_eqAt r1 r2 hf)
  refine key X.prog X.w X.xe _ ?_
  rw [all_range fun _ _ => rfl]
  exact ⟨.bl false, H, I, rfl, q⟩
/-- two lists of one tuple each, the same flat items -/
theorem op_neL1_same (hu : X.A.units + 1 < cLine) : OpR X (compareOp .NotEq) (fun x y H Q => ∃ a b c d xs, x = .ref a ∧ y = .ref b ∧ SqL X.K H a [.ref c] ∧ SqL X.K H b [.ref d] ∧ SqT X.K H c xs ∧ SqT X.K H d xs ∧ xs.all flatV = true ∧ Q (.bl false) H) := by
  intro pins s σ H x y v u Q I rx ry h
  obtain ⟨a, b, c, d, xs, rfl, rfl, ha, hb, hc, hd, hf, q⟩ := h
  cases rx
  cases ry
  obtain ⟨us, r1, t1, _⟩ := I.list ha
  obtain ⟨vs, r2, t2, _⟩ := I.list hb
  obtain ⟨us', r1', t1', _⟩ := I.tuple hc
  obtain ⟨vs', r2', t2', _⟩ := I.tuple hd
  obtain ⟨u1, rfl, e1⟩ := vals1 r1
  obtain ⟨v1, rfl, e2⟩ := vals1 r2
  cases e1
  cases e2
  have l1 := r1'.length
  have l2 := r2'.length
  have key1 := SeqAt.RcAt.tuples (A := X.A.in1) (s := s) (e := fun _ => true) (show s.heap.IsTuple c us'.toArray from t1') (show s.heap.IsTuple d vs'.toArray from t2') hu (vals_eqAt r1' r2' hf)
  have e : ((List.range (min us'.toArray.size vs'.toArray.size)).all (fun _ => true) && us'.toArray.size == vs'.toArray.size) = true := by
    rw [all_range fun _ _ => rfl]
    simp [← l1, ← l2]
  rw [e] at key1
  have key2 : SeqAt.EqAt X.A.in1 s (.ref c) (.ref d) true := by
    by_cases hcd : c = d
    · subst hcd; exact SeqAt.EqAt.same _
    · exact SeqAt.EqAt.of_refs hcd key1
  have key := SeqAt.RcNeAt.lists (A := X.A) (s := s) (e := fun _ => true) t1.isList t2.isList rfl (by omega) (fun j h1 h2 => by
    have : j = 0 := by simpa using h1
    subst this
    exact key2)
  refine key X.prog X.w X.xe _ ?_
  rw [all_range fun _ _ => rfl]
  exact ⟨.bl false, H, I, rfl, q⟩
end
end L2
namespace L2
open PySem PySem.Spec PyProof.Rows
theorem turns_range {lo : Int} {n : Nat} {g : TG} {tt : TT} {te : TE} {d : Addr} {σ : St} {H : Hp} {Q : Hp → Prop} (Pv : Nat → St → Hp → Prop) (h0 : Pv 0 σ H)
    (hs : ∀ i σ H, i < n → Pv i σ H → g (.int (lo + i)) σ H fun σ2 H2 => tt σ2 H2 fun b H3 => if b = true then te σ2 H3 fun y H4 => ∃ ys, H4 d = some (.lst ys) ∧ ys.length < sizeLine ∧ Pv (i + 1) σ2 (upd H4 d (.lst (ys ++ [y]))) else Pv (i + 1) σ2 H3)
    (hd : ∀ σ H, Pv n σ H → Q H) : Turns (Itr lo n) g tt te d σ H Q := by
  refine ⟨fun i m σ H => m = n - i ∧ i ≤ n ∧ Pv i σ H, ⟨n, by simp, Nat.zero_le _, h0⟩, ?_⟩
  rintro i m σ H ⟨rfl, hi, p⟩
  by_cases hlt : i < n
  · refine .inr ⟨hlt, Pv (i + 1), fun σ' H' p' => ⟨n - (i + 1), by omega, rfl, hlt, p'⟩, fun x H' y => ?_⟩
    obtain ⟨e, y⟩ := y
    subst e y
    exact hs i σ _ hlt p
  · have e : i = n := by omega
    subst e
    exact .inl ⟨Nat.le_refl _, hd σ H p⟩
theorem turns_list {K : PySem.W.Frag} {a : Addr} {xs : List V} {g : TG} {tt : TT} {te : TE} {d : Addr} {σ : St} {H : Hp} {Q : Hp → Prop} (Pv : Nat → St → Hp → Prop) (h0 : Pv 0 σ H) (hl : ∀ i σ H, i ≤ xs.length → Pv i σ H → SqL K H a xs)
    (hs : ∀ i x σ H, xs[i]? = some x → Pv i σ H → g x σ H fun σ2 H2 => tt σ2 H2 fun b H3 => if b = true then te σ2 H3 fun y H4 => ∃ ys, H4 d = some (.lst ys) ∧ ys.length < sizeLine ∧ Pv (i + 1) σ2 (upd H4 d (.lst (ys ++ [y]))) else Pv (i + 1) σ2 H3)
    (hd : ∀ σ H, Pv xs.length σ H → Q H) : Turns (Itl K a) g tt te d σ H Q := by
  refine ⟨fun i m σ H => m = xs.length - i ∧ i ≤ xs.length ∧ Pv i σ H, ⟨xs.length, by simp, Nat.zero_le _, h0⟩, ?_⟩
  rintro i m σ H ⟨rfl, hi, p⟩
  have q := hl i σ H hi p
  by_cases hlt : i < xs.length
  · refine .inr ⟨⟨xs, xs[i], q, by simp [hlt]⟩, Pv (i + 1), fun σ' H' p' => ⟨xs.length - (i + 1), by omega, rfl, hlt, p'⟩, fun x H' y => ?_⟩
    obtain ⟨e, y⟩ := y
    subst e
    exact hs i x σ _ (y xs q) p
  · have e : i = xs.length := by omega
    subst e
    exact .inl ⟨⟨xs, q, Nat.le_refl _⟩, hd σ H p⟩
theorem noT {σ : St} {H : Hp} {A B : Hp → Prop} (h : A H) : tNoTest σ H fun b H3 => if b = true then A H3 else B H3 := by
  show if true = true then A H else B H
  rw [if_pos rfl]
  exact h
end L2
namespace L2
open PySem PySem.Spec PyProof.Rows PySem.W
section
variable {X : Cx}
/-! ### any, sum of a list -/
theorem bools_are : ∀ {bs : List Bool} {vs : List Value}, Vals (bs.map V.bl) vs → LSm.BoolsAre vs bs
  | [], _, .nil => .nil
  | b :: bs, _, .cons e r => by
    cases e
    exact .cons b (bools_are r)
theorem call_any (hc : X.calm = true) : CallR X (.builtin "any") (fun xs H Q => ∃ p bs, xs = [.ref p] ∧ SqL X.K H p (List.map V.bl bs) ∧ Q (.bl (bs.any id)) H) := by
  intro pins s σ H xs us Q I r h
  obtain ⟨p, bs, rfl, hS, q⟩ := h
  obtain ⟨u, rfl, ru⟩ := vals1 r
  cases ru
  obtain ⟨its, rv, pl, hz⟩ := I.list hS
  have hb := bools_are rv
  have hl := pl.isList
  have hlt : p < s.heap.objs.size := by obtain ⟨_, e, _⟩ := hl; exact Heap.lt_size e
  refine call_any_walk (wpAny_pyIter_list hl ?_)
  refine ⟨s.heap.objs.size, [s.heap.objs.size, p], [s.heap.objs.size], its.toArray.size, _, _, fun i => (bs[i]?).getD false, rfl, Walks.list (A := X.A.in1) (I.ok.hd hc) _ p (Nat.ne_of_lt hlt) its.toArray,
    ⟨⟨_, Heap.get?_push_size _ rfl, rfl, rfl⟩, hl.push _⟩, fun i v s' Q' E' hP hQ => ?_, fun h' tk hk => ?_⟩
  · obtain ⟨b, e, rfl⟩ := hb.get i v (by simpa using hP)
    simp only [e, Option.getD_some] at hQ
    exact wpAny_truthy_bool hQ
  · have e : ((List.range its.toArray.size).any fun i => (bs[i]?).getD false) = bs.any id := by
      rw [List.size_toArray, hb.length]; exact LSm.range_any bs
    rw [e]
    exact ⟨.bl (bs.any id), H, I.kept (LSm.kept_iter hk), rfl, q⟩
theorem call_sumN (hc : X.calm = true) : CallR X (.builtin "sum") (fun xs H Q => ∃ p ns, xs = [.ref p] ∧ SqL X.K H p (List.map V.int ns) ∧ Q (.int ns.sum) H) := by
  intro pins s σ H xs us Q I r h
  obtain ⟨p, ns, rfl, hS, q⟩ := h
  obtain ⟨u, rfl, ru⟩ := vals1 r
  cases ru
  obtain ⟨its, rv, pl, hz⟩ := I.list hS
  have hi : IntsAre its ns := by
    clear hS q hz pl r
    induction ns generalizing its with
    | nil => cases rv; exact .nil
    | cons n ns ih =>
      cases rv with
      | cons e r =>
        obtain ⟨t, rfl⟩ := e
        exact .cons n t (ih _ r)
  obtain ⟨xs, hx⟩ := hi.allInts.items
  have hl' : s.heap.IsList p (intItems xs) := hx ▸ pl.isList
  refine sum_intListG (I.ok.hd hc) hl' fun h' tk t' hk => ?_
  have e1 : ns = xs.toList.map (·.1) := by
    rw [← nums_intItems, ← hx]
    exact (show numsOf its.toArray.toList = ns from hi.numsOf).symm
  have e2 : preSum (numAt xs) xs.size = ns.sum := by
    rw [preSum_eq, List.take_of_length_le (by simp), e1]
  rw [e2]
  exact ⟨.int ns.sum, H, I.kept hk, ⟨t', rfl⟩, q⟩
/-! ### x.split() -/
def rSplit0 : V → List V → Hp → VK → Prop := fun x vs H Q => ∃ z, x = .str z ∧ vs = [] ∧ z.length ≤ sizeLine ∧ (Txt.words z).length ≤ 1000 ∧ ∀ p, H p = none → Q (.ref p) (upd H p (.lst ((Txt.words z).map V.str)))
theorem mt_split0 : MtR X "str.split" rSplit0 := by
  intro pins s σ H x vs v us Q I rx rv h
  obtain ⟨z, rfl, rfl, hz, hn, q⟩ := h
  obtain ⟨t, rfl⟩ := rx
  cases rv
  have hf := I.fresh
  have hw : (Txt.words z).length = (Builtin.Str.spaceWords z (z.length + 1)).length := by
    unfold Txt.words
    split
    · rename_i h
      have h' : Builtin.Str.spaceWords z (z.length + 1) = [(0, z.length)] := by simpa using h
      rw [h']; rfl
    · simp [PySem.wordsOf]
  refine call_meets PySem.F.slot_str_split (typeIs_str _ _ _) PySem.F.entry_str_split (PySem.F.args_str_split_1 _) (meets_str_split_space z t hz (by rw [← hw, sizeLine_eq]; omega)) ?_
  unfold Txt.words at q hn
  by_cases h : (Builtin.Str.spaceWords z (z.length + 1) == [(0, z.length)]) = true
  · rw [if_pos h] at q hn ⊢
    exact ⟨.ref s.heap.objs.size, _, I.lnew (t' := s.toks) (ys := [.str z]) (its := [.str z t]) (.cons ⟨_, rfl⟩ .nil) (by show 1 ≤ sizeLine; decide), rfl, q _ hf⟩
  · rw [if_neg h] at q hn ⊢
    exact ⟨.ref s.heap.objs.size, _, I.lnew (vals_strs s.toks _) (by rw [List.length_map, sizeLine_eq]; omega), rfl, q _ hf⟩
/-! ### f'..{x!r}..' -/
theorem pe_repr {e : Expr} {te : TE} {pos : Pos} (he : PE X e te) : PE X (.FormattedValue e 114 none pos) (fun σ H Q => te σ H fun v H1 => ∃ x, v = .str x ∧ (reprText x).length ≤ sizeLine ∧ Q (.str (reprText x)) H1) := by
  intro pins s σ H Q I h
  refine wpAny_FormattedValue_repr (thn (he pins s σ H _ I h) fun u s1 ⟨v, H1, I1, r, x, ex, hz, q⟩ => ?_)
  subst ex
  obtain ⟨t, rfl⟩ := r
  refine pyReprObj_str ?_ hz
  exact PyProof.Rows.formatField_str (fun t' tk => ⟨.str _, H1, I1.tok tk, ⟨t', rfl⟩, q⟩) hz
def tJoin (tp : List TE) (acc : Str) : TE := match tp with
  | [] => fun σ H Q => Q (.str acc) H
  | t :: r => fun σ H Q => t σ H fun v H1 => ∃ x, v = .str x ∧ (acc ++ x).length ≤ sizeLine ∧ tJoin r (acc ++ x) σ H1 Q
inductive PEs (X : Cx) : List Expr → List TE → Prop
  | nil : PEs X [] []
  | cons {e es t ts} : PE X e t → PEs X es ts → PEs X (e :: es) (t :: ts)
theorem join_ok {pins : List (Addr × Obj)} {σ : St} : ∀ {es : List Expr} {ts : List TE}, PEs X es ts → ∀ {acc : Str} {s : Shared} {H : Hp} {Q : VK}, acc.length ≤ sizeLine → Inv X pins σ H s → tJoin ts acc σ H Q →
    wpAny (model X.prog X.w) X.A (joinParts acc (es.map fun e => eval e X.env)) (EP X pins σ Q) X.xe s
  | _, _, .nil, acc, s, H, Q, ha, I, h => joinParts_nil ⟨.str acc, H, I.tok _, ⟨_, rfl⟩, h⟩ ha
  | _, _, .cons he hr, acc, s, H, Q, ha, I, h => by
    refine joinParts_cons (thn (he pins s σ H _ I h) fun u s1 ⟨v, H1, I1, r, x, ex, hz, q⟩ => ?_)
    subst ex
    obtain ⟨t, rfl⟩ := r
    exact ⟨hz, join_ok hr hz I1 q⟩
theorem pe_fstr {e1 e2 : Expr} {es : List Expr} {ts : List TE} {pos : Pos} (h : PEs X (e1 :: e2 :: es) ts) (hev : evalEach es X.env = es.map fun e => eval e X.env := by rfl) : PE X (.JoinedStr (e1 :: e2 :: es) pos) (tJoin ts Str.empty) := by
  intro pins s σ H Q I hw
  refine JoinedStr_many ?_
  rw [hev]
  exact join_ok (es := e1 :: e2 :: es) h (Nat.zero_le _) I hw
/-! ### two lists of the same flat items are equal -/
theorem op_eqL_same (hu : X.A.units < cLine) : OpR X (compareOp .Eq) (fun x y H Q => ∃ a b xs, x = .ref a ∧ y = .ref b ∧ SqL X.K H a xs ∧ SqL X.K H b xs ∧ xs.all flatV = true ∧ Q (.bl true) H) := by
  intro pins s σ H x y v u Q I rx ry h
  obtain ⟨a, b, xs, rfl, rfl, ha, hb, hf, q⟩ := h
  cases rx
  cases ry
  obtain ⟨us, r1, t1, _⟩ := I.list ha
  obtain ⟨vs, r2, t2, _⟩ := I.list hb
  have l1 := r1.length
  have l2 := r2.length
  have key := SeqAt.RcAt.lists (A := X.A) (s := s) (e := fun _ => true) t1.isList t2.isList (by simp [← l1, ← l2]) hu (vals_eqAt r1 r2 hf)
  refine key X.prog X.w X.xe _ ?_
  rw [all_range fun _ _ => rfl]
  exact ⟨.bl true, H, I, rfl, q⟩
/-! ### try: .. except ..: where nothing is raised -/
def PsF (X : Cx) : Cx := { X with xe := fun _ _ => False }
end
section
variable {X : Cx} {pins : List (Addr × Obj)} {σ : St} {H : Hp} {s : Shared}
theorem Inv.never (I : Inv X pins σ H s) : Inv (X.tried (X.pn ++ pins) fun _ _ => False) [] σ H s := I.tried _
theorem ps_tryN {body : List Stmt} {h0 : ExceptHandler} {hs : List ExceptHandler} {tb : TS} {pos : Pos} (hb : ∀ pn, PSs (X.tried pn fun _ _ => False) body tb) : PS X (.Try body (h0 :: hs) [] [] pos) tb := by
  intro pins s σ H D I h
  refine wpAny_Try_except (wpAny_mono (hb (X.pn ++ pins) [] s σ H D I.never h) (fun fl s1 q => ?_) fun e s1 hE => hE.elim)
  cases fl with
  | next =>
    obtain ⟨σ', H', J, q⟩ := q
    exact wpAny_execs_nil ⟨σ', H', J.untried I.ok rfl, q⟩
  | brk =>
    obtain ⟨σ', H', J, q⟩ := q
    exact ⟨σ', H', J.untried I.ok rfl, q⟩
  | cont =>
    obtain ⟨σ', H', J, q⟩ := q
    exact ⟨σ', H', J.untried I.ok rfl, q⟩
  | ret u =>
    obtain ⟨v, σ', H', J, r, q⟩ := q
    exact ⟨v, σ', H', J.untried I.ok rfl, r, q⟩
end
end L2
namespace L2
open PySem PySem.Spec PyProof.Rows PySem.W
/-! ### for p, q in zip(a, b), both lists -/
def Itz (K : PySem.W.Frag) (a b : Addr) (xs ys : List V) : It :=
  ⟨fun i H => SqL K H a xs ∧ SqL K H b ys ∧ i < xs.length ∧ i < ys.length, fun i H x H' => ∃ u p q, x = .ref u ∧ H u = none ∧ xs[i]? = some p ∧ ys[i]? = some q ∧ H' = upd H u (.tup [p, q]), fun i H => SqL K H a xs ∧ SqL K H b ys ∧ (xs.length ≤ i ∨ ys.length ≤ i)⟩
theorem turn_zip {P : Program} {w : World} {K : PySem.W.Frag} {elts : List Expr} {x1 : Nat} {tp : Pos} {z TI TO i1 i2 a b : Addr} (D : ZipApart z TI TO i1 i2 a b) (xs ys : List V) :
    Turn P w K (.Tuple elts x1 tp) (Itz K a b xs ys) [z, TI, TO, i1, i2] z (fun i h => IsZip h z TI TO .none ∧ IsPair h TI (.ref i1) (.ref i2) ∧ (∃ p q, IsPair h TO p q) ∧ h.IsListIter i1 a i ∧ h.IsListIter i2 b i) where
  mem := by simp
  obj := fun i h st c hc => by
    obtain ⟨hz, hTI, ⟨p, q, hTO⟩, ⟨o1, e1, c1, d1⟩, ⟨o2, e2, c2, d2⟩⟩ := st
    simp only [List.mem_cons, List.not_mem_nil, or_false] at hc
    rcases hc with rfl | rfl | rfl | rfl | rfl
    · exact ⟨_, hz, fun v z => nomatch z⟩
    · exact ⟨_, hTI, fun v z => nomatch z⟩
    · exact ⟨_, hTO, fun v z => nomatch z⟩
    · exact ⟨_, e1, fun v z => by rw [d1] at z; cases z⟩
    · exact ⟨_, e2, fun v z => by rw [d2] at z; cases z⟩
  keep := fun i h h' st k => by
    obtain ⟨hz, hTI, ⟨p, q, hTO⟩, h1, h2⟩ := st
    exact ⟨k z (by simp) _ hz, k TI (by simp) _ hTI, ⟨p, q, k TO (by simp) _ hTO⟩, h1.at fun o e => k i1 (by simp) o e, h2.at fun o e => k i2 (by simp) o e⟩
  item := by
    intro X hP hw hK hc i pins s σ H E I hf st hg
    subst hP hw hK
    obtain ⟨hz, hTI, ⟨pp, qq, hTO⟩, h1, h2⟩ := st
    obtain ⟨ha, hb, hi, hj⟩ := hg
    obtain ⟨its, rv, p1, _⟩ := I.list ha
    obtain ⟨jts, rw', p2, _⟩ := I.list hb
    have ex : xs[i]? = some xs[i] := List.getElem?_eq_getElem hi
    have ey : ys[i]? = some ys[i] := List.getElem?_eq_getElem hj
    obtain ⟨u, hu, ru⟩ := rv.get ex
    obtain ⟨v, hv, rv2⟩ := rw'.get ey
    refine wpAny_pyNext_zip_item D hz hTI hTO h1 h2 p1.isList p2.isList (x := u) (y := v) (by simpa using hu) (by simpa using hv) fun h' a1 a2 a3 a4 a5 a6 hk => ⟨.ref s.heap.objs.size, rfl, ?_⟩
    refine wpAny_letOwnedTupleGo_zip a1 fun h'' hz'' hs'' => ?_
    have zlt : z < s.heap.objs.size := Heap.lt_size hz
    have kp : ∀ c o, c ≠ z → c ≠ TO → c ≠ i1 → c ≠ i2 → s.heap.get? c = some o → h''.get? c = some o := fun c o q1 q2 q3 q4 e => hs''.extBut _ _ q1 (hk c o q1 q2 q3 q4 e)
    have hn : ∀ c ∈ [z, TI, TO, i1, i2], H c = none := fun c hc => (hf c hc).1
    have nH : ∀ c u, H c = some u → c ≠ z ∧ c ≠ TO ∧ c ≠ i1 ∧ c ≠ i2 := fun c u e =>
      ⟨(fun q => by rw [q, hn z (by simp)] at e; cases e), (fun q => by rw [q, hn TO (by simp)] at e; cases e), (fun q => by rw [q, hn i1 (by simp)] at e; cases e), (fun q => by rw [q, hn i2 (by simp)] at e; cases e)⟩
    have hnew : H s.heap.objs.size = none := I.fresh
    have nin : ∀ c, c ∉ [z, TI, TO, i1, i2] → c ≠ z ∧ c ≠ TO ∧ c ≠ i1 ∧ c ≠ i2 := fun c hc => by
      simp only [List.mem_cons, List.not_mem_nil, or_false, not_or] at hc
      exact ⟨hc.1, hc.2.2.1, hc.2.2.2.1, hc.2.2.2.2⟩
    have hT : IsPair h'' s.heap.objs.size u v := hs''.extBut _ _ (Nat.ne_of_gt zlt) a5
    have I1 : Inv X pins σ (upd H s.heap.objs.size (.tup [xs[i], ys[i]])) { s with heap := h'' } := by
      refine I.step (t' := s.toks) (g' := s.gens) (d' := s.drawn) (ch := [z, TI, TO, i1, i2]) (fun c hc => ⟨(hf c hc).2.2.2.1, (hf c hc).2.1, (hf c hc).2.2.2.2.1, (hf c hc).2.2.2.2.2⟩)
        (fun c o _ _ hc e _ => kp c o (nin c hc).1 (nin c hc).2.1 (nin c hc).2.2.1 (nin c hc).2.2.2 e) (fun c o _ _ hc e _ => ⟨o.slots, kp c o (nin c hc).1 (nin c hc).2.1 (nin c hc).2.2.1 (nin c hc).2.2.2 e⟩) (fun c o _ e n => ?_)
        (fun c o hc e => ⟨o, kp c o (nin c hc).1 (nin c hc).2.1 (nin c hc).2.2.1 (nin c hc).2.2.2 e⟩) (fun c xs e => by rw [upd_ne (ne_of_none e hnew)]; exact e) (fun c o u e => by rw [upd_ne (ne_of_none e hnew)]; exact e)
        (fun c ps e => ⟨#[], by rw [upd_ne (ne_of_none e hnew), e]; simp⟩) (fun m hm => ?_) (fun c uu e => ?_) I.bare
      · rw [upd_ne (fun q => by rw [q] at e; exact absurd (Heap.lt_size e) (Nat.lt_irrefl _))]; exact n
      · obtain ⟨o, es, ep, ho, r⟩ := hm
        exact ⟨o, es, ep, kp _ o (Ne.symm (hf z (by simp)).2.1) (Ne.symm (hf TO (by simp)).2.1) (Ne.symm (hf i1 (by simp)).2.1) (Ne.symm (hf i2 (by simp)).2.1) ho, r⟩
      · by_cases hcs : c = s.heap.objs.size
        · subst hcs
          rw [upd_same] at e
          cases e
          exact ⟨by show 2 ≤ sizeLine; decide, [u, v], .cons ru (.cons rv2 .nil), _, hT, rfl, _, rfl⟩
        · rw [upd_ne hcs] at e
          refine (I.hok c uu e).stay (fun d v hd q => ?_) (fun d q => by rw [upd_ne (ne_of_none q hnew)]; exact q) fun d xs q => by rw [upd_ne (ne_of_none q hnew)]; exact q
          rcases hd with rfl | hd
          · exact kp d v (nH d _ e).1 (nH d _ e).2.1 (nH d _ e).2.2.1 (nH d _ e).2.2.2 q
          · exact kp d v (nH d _ hd).1 (nH d _ hd).2.1 (nH d _ hd).2.2.1 (nH d _ hd).2.2.2 q
    refine ⟨.ref s.heap.objs.size, _, I1, rfl, ⟨_, _, _, rfl, hnew, ex, ey, rfl⟩, ⟨hz'', hs''.extBut _ _ D.TIz (hk _ _ D.TIz D.TITO D.TIi1 D.TIi2 hTI), ⟨_, _, hs''.extBut _ _ D.TOz a2⟩, a3.extBut hs''.extBut D.i1z, a4.extBut hs''.extBut D.i2z⟩, fun c hc => ?_⟩
    rw [upd_ne (fun q => ?_)]
    · exact hn c hc
    · have lt : c < s.heap.objs.size := by
        simp only [List.mem_cons, List.not_mem_nil, or_false] at hc
        rcases hc with rfl | rfl | rfl | rfl | rfl
        · exact zlt
        · exact Heap.lt_size hTI
        · exact Heap.lt_size hTO
        · obtain ⟨_, e, _⟩ := h1; exact Heap.lt_size e
        · obtain ⟨_, e, _⟩ := h2; exact Heap.lt_size e
      exact absurd lt (by rw [q]; exact Nat.lt_irrefl _)
  done := by
    intro X hP hw hK hc i pins s σ H E I hf st hg
    subst hP hw hK
    obtain ⟨hz, hTI, ⟨pp, qq, hTO⟩, h1, h2⟩ := st
    obtain ⟨ha, hb, hij⟩ := hg
    obtain ⟨its, rv, p1, _⟩ := I.list ha
    obtain ⟨jts, rw', p2, _⟩ := I.list hb
    have l1 := rv.length
    have l2 := rw'.length
    refine wpAny_pyNext_zip_end (I.ok.hd hc) D hz hTI hTO h1 h2 p1.isList p2.isList (hij.elim (fun q => .inl (by simp; omega)) fun q => .inr (by simp; omega)) fun h' hk => ⟨rfl, ?_⟩
    have hn : ∀ c ∈ [z, TI, TO, i1, i2], H c = none := fun c hc => (hf c hc).1
    have nH : ∀ c u, H c = some u → c ≠ z ∧ c ≠ TO ∧ c ≠ i1 ∧ c ≠ i2 := fun c u e =>
      ⟨(fun q => by rw [q, hn z (by simp)] at e; cases e), (fun q => by rw [q, hn TO (by simp)] at e; cases e), (fun q => by rw [q, hn i1 (by simp)] at e; cases e), (fun q => by rw [q, hn i2 (by simp)] at e; cases e)⟩
    have nin : ∀ c, c ∉ [z, TI, TO, i1, i2] → c ≠ z ∧ c ≠ TO ∧ c ≠ i1 ∧ c ≠ i2 := fun c hc => by
      simp only [List.mem_cons, List.not_mem_nil, or_false, not_or] at hc
      exact ⟨hc.1, hc.2.2.1, hc.2.2.2.1, hc.2.2.2.2⟩
    refine I.step (t' := s.toks) (g' := s.gens) (d' := s.drawn) (ch := [z, TI, TO, i1, i2]) (fun c hc => ⟨(hf c hc).2.2.2.1, (hf c hc).2.1, (hf c hc).2.2.2.2.1, (hf c hc).2.2.2.2.2⟩)
        (fun c o _ _ hc e _ => hk c o (nin c hc).1 (nin c hc).2.1 (nin c hc).2.2.1 (nin c hc).2.2.2 e) (fun c o _ _ hc e _ => ⟨o.slots, hk c o (nin c hc).1 (nin c hc).2.1 (nin c hc).2.2.1 (nin c hc).2.2.2 e⟩) (fun c o _ e n => n)
        (fun c o hc e => ⟨o, hk c o (nin c hc).1 (nin c hc).2.1 (nin c hc).2.2.1 (nin c hc).2.2.2 e⟩) (fun c xs e => e) (fun c o u e => e)
        (fun c ps e => ⟨#[], by rw [e]; simp⟩) (fun m hm => ?_) (fun c uu e => ?_) I.bare
    · obtain ⟨o, es, ep, ho, r⟩ := hm
      exact ⟨o, es, ep, hk _ o (Ne.symm (hf z (by simp)).2.1) (Ne.symm (hf TO (by simp)).2.1) (Ne.symm (hf i1 (by simp)).2.1) (Ne.symm (hf i2 (by simp)).2.1) ho, r⟩
    · refine (I.hok c uu e).stay (fun d v hd q => ?_) (fun d q => q) fun d xs q => q
      rcases hd with rfl | hd
      · exact hk d v (nH d _ e).1 (nH d _ e).2.1 (nH d _ e).2.2.1 (nH d _ e).2.2.2 q
      · exact hk d v (nH d _ hd).1 (nH d _ hd).2.1 (nH d _ hd).2.2.1 (nH d _ hd).2.2.2 q
  self := fun _ _ _ _ _ st h => wpAny_pyIter_zip st.1 h
def iZip (K : PySem.W.Frag) (ta : TA) : TI := fun σ H R => ta σ H fun vs H1 => ∃ a b xs ys, vs = [.ref a, .ref b] ∧ SqL K H1 a xs ∧ SqL K H1 b ys ∧ R (Itz K a b xs ys) H1
theorem pi_zip {X : Cx} {elts : List Expr} {x1 : Nat} {tp p pos : Pos} {e1 e2 : Expr} {ta : TA} (hg : Gl X "zip") (hm : X.mg "zip" = none) (ha : PA X [e1, e2] ta) (hs : starEach [e1, e2] X.env = (false, eval e1 X.env) :: starEach [e2] X.env := by rfl) (hs2 : (backTo pos (starEach [e2] X.env)).any (·.1) = false := by rfl) :
    PI X (.Tuple elts x1 tp) (.Call (.Name "zip" p) [e1, e2] [] pos) (iZip X.K ta) := by
  intro pins s σ H R I h
  refine Call_ (ld_blt I hg hm boot_zip (PyProof.Rows.callWith_type1 (thn (ha pos pins s σ H _ I h) fun us s1 ⟨vs, H1, I1, r1, q1⟩ => ?_) hs hs2))
  obtain ⟨a, b, xs, ys, rfl, h1, h2, q⟩ := q1
  obtain ⟨u, v, rfl, r3, r4⟩ := vals2 r1
  cases r3
  cases r4
  obtain ⟨its, rv, p1, _⟩ := I1.list h1
  obtain ⟨jts, rw', p2, _⟩ := I1.list h2
  have a1 : a < s1.heap.objs.size := by obtain ⟨_, e, _⟩ := p1.isList; exact Heap.lt_size e
  have a2 : b < s1.heap.objs.size := by obtain ⟨_, e, _⟩ := p2.isList; exact Heap.lt_size e
  refine call_zip_2 p1.isList p2.isList fun h' hz hTI hTO hi1 hi2 hsz hk => ?_
  refine wpAny_pyIter_zip hz ?_
  refine ⟨_, _, _, _, H1, rfl, I1.kept (t' := s1.toks) hk, turn_zip (zipApart_new a1 a2) xs ys, ⟨hz, hTI, ⟨_, _, hTO⟩, hi1, hi2⟩, fun c hc => ?_, q⟩
  have up : s1.heap.objs.size ≤ c := by
    simp only [List.mem_cons, List.not_mem_nil, or_false] at hc
    rcases hc with rfl | rfl | rfl | rfl | rfl
    · exact Nat.le_add_right _ 4
    · exact Nat.le_add_right _ 2
    · exact Nat.le_add_right _ 3
    · exact Nat.le_refl _
    · exact Nat.le_add_right _ 1
  exact I1.fpOk up (I1.hok.fresh up)
theorem turns_zip {K : PySem.W.Frag} {a b : Addr} {xs ys : List V} {g : TG} {tt : TT} {te : TE} {d : Addr} {σ : St} {H : Hp} {Q : Hp → Prop} (hlen : xs.length = ys.length) (Pv : Nat → St → Hp → Prop) (h0 : Pv 0 σ H) (hl : ∀ i σ H, i ≤ xs.length → Pv i σ H → SqL K H a xs ∧ SqL K H b ys)
    (hs : ∀ i p q u σ H, xs[i]? = some p → ys[i]? = some q → H u = none → Pv i σ H → g (.ref u) σ (upd H u (.tup [p, q])) fun σ2 H2 => tt σ2 H2 fun b H3 => if b = true then te σ2 H3 fun y H4 => ∃ zs, H4 d = some (.lst zs) ∧ zs.length < sizeLine ∧ Pv (i + 1) σ2 (upd H4 d (.lst (zs ++ [y]))) else Pv (i + 1) σ2 H3)
    (hd : ∀ σ H, Pv xs.length σ H → Q H) : Turns (Itz K a b xs ys) g tt te d σ H Q := by
  refine ⟨fun i m σ H => m = xs.length - i ∧ i ≤ xs.length ∧ Pv i σ H, ⟨xs.length, by simp, Nat.zero_le _, h0⟩, ?_⟩
  rintro i m σ H ⟨rfl, hi, p⟩
  have q := hl i σ H hi p
  by_cases hlt : i < xs.length
  · refine .inr ⟨⟨q.1, q.2, hlt, by omega⟩, Pv (i + 1), fun σ' H' p' => ⟨xs.length - (i + 1), by omega, rfl, hlt, p'⟩, fun x H' y => ?_⟩
    obtain ⟨u, p', q', rfl, hu, h1, h2, rfl⟩ := y
    exact hs i p' q' u σ H h1 h2 hu p
  · have e : i = xs.length := by omega
    subst e
    exact .inl ⟨⟨q.1, q.2, .inl (Nat.le_refl _)⟩, hd σ H p⟩
end L2
namespace Bl
def top (i : Nat) : PySem.Stmt := PySem.Challenge.pw_berthline_k04_whole_no_two_meet.main.body.getD i (.Pass ⟨0, 0, 0, 0⟩)
abbrev sMetres : PySem.Stmt := top 21
abbrev sDone : PySem.Stmt := top 22
abbrev sAnswer : PySem.Stmt := top 23
abbrev sBerthsP : PySem.Stmt := top 24
abbrev sWhole : PySem.Stmt := top 26
abbrev sCell : PySem.Stmt := top 27
abbrev sDay : PySem.Stmt := top 28
abbrev sRowsTold : PySem.Stmt := top 29
abbrev sMixed : PySem.Stmt := top 30
abbrev sLaw : PySem.Stmt := top 31
end Bl
namespace L2
open PySem PySem.Spec PyProof.Rows
section
variable {X : Cx}
/-! ### startswith, isdigit, join, all -/
def rStarts : V → List V → Hp → VK → Prop := fun x vs H Q => ∃ z y, x = .str z ∧ vs = [.str y] ∧ Q (.bl (Txt.startswith z y)) H
theorem mt_starts : MtR X "str.startswith" rStarts := by
  intro pins s σ H x vs v us Q I rx rv h
  obtain ⟨z, y, rfl, rfl, q⟩ := h
  obtain ⟨t, rfl⟩ := rx
  obtain ⟨u, rfl, t', rfl⟩ := vals1 rv
  exact SC.startswith ⟨.bl _, H, I, rfl, q⟩
def rIsdig : V → List V → Hp → VK → Prop := fun x vs H Q => ∃ z, x = .str z ∧ vs = [] ∧ Q (.bl (Txt.isdigit z)) H
theorem mt_isdig : MtR X "str.isdigit" rIsdig := by
  intro pins s σ H x vs v us Q I rx rv h
  obtain ⟨z, rfl, rfl, q⟩ := h
  obtain ⟨t, rfl⟩ := rx
  cases rv
  exact SC.isdigit ⟨.bl _, H, I, rfl, q⟩
theorem strs_are : ∀ {ss : List Str} {vs : List Value}, Vals (ss.map V.str) vs → ∃ l : List (Str × Tok), vs = strValues l ∧ l.map (·.1) = ss
  | [], _, .nil => ⟨[], rfl, rfl⟩
  | x :: ss, _, .cons e r => by
    obtain ⟨t, rfl⟩ := e
    obtain ⟨l, rfl, h⟩ := strs_are r
    exact ⟨(x, t) :: l, rfl, by rw [List.map_cons, h]⟩
def rJoinL (K : PySem.W.Frag) : V → List V → Hp → VK → Prop := fun x vs H Q => ∃ z p ss, x = .str z ∧ vs = [.ref p] ∧ SqL K H p (List.map V.str ss) ∧ JoinOk z ss = true ∧ Q (.str (Txt.join z ss)) H
theorem mt_joinL : MtR X "str.join" (rJoinL X.K) := by
  intro pins s σ H x vs v us Q I rx rv h
  obtain ⟨z, p, ss, rfl, rfl, hS, hok, q⟩ := h
  obtain ⟨t, rfl⟩ := rx
  obtain ⟨u, rfl, ru⟩ := vals1 rv
  cases ru
  obtain ⟨its, r, pl, hz⟩ := I.list hS
  obtain ⟨l, rfl, hl⟩ := strs_are r
  exact SC.join pl.isList hl hok fun t' k => ⟨.str _, H, I.tok _, ⟨_, rfl⟩, q⟩
theorem range_allD (bs : List Bool) : ((List.range bs.length).all fun i => (bs[i]?).getD false) = bs.all id := by
  rw [Bool.eq_iff_iff, List.all_eq_true, List.all_eq_true]
  constructor
  · intro h b hb
    obtain ⟨i, hi, rfl⟩ := List.mem_iff_getElem.mp hb
    have := h i (List.mem_range.mpr hi)
    rw [List.getElem?_eq_getElem hi] at this
    exact this
  · intro h i hi
    have hi' := List.mem_range.mp hi
    rw [List.getElem?_eq_getElem hi']
    exact h _ (List.getElem_mem hi')
theorem call_all (hc : X.calm = true) : CallR X (.builtin "all") (fun xs H Q => ∃ p bs, xs = [.ref p] ∧ SqL X.K H p (List.map V.bl bs) ∧ Q (.bl (bs.all id)) H) := by
  intro pins s σ H xs us Q I r h
  obtain ⟨p, bs, rfl, hS, q⟩ := h
  obtain ⟨u, rfl, ru⟩ := vals1 r
  cases ru
  obtain ⟨its, rv, pl, hz⟩ := I.list hS
  have hb := bools_are rv
  have hl := pl.isList
  have hlt : p < s.heap.objs.size := by obtain ⟨_, e, _⟩ := hl; exact Heap.lt_size e
  refine call_all_walk (wpAny_pyIter_list hl ?_)
  refine ⟨s.heap.objs.size, [s.heap.objs.size, p], [s.heap.objs.size], its.toArray.size, _, _, fun i => (bs[i]?).getD false, rfl, Walks.list (A := X.A.in1) (I.ok.hd hc) _ p (Nat.ne_of_lt hlt) its.toArray,
    ⟨⟨_, Heap.get?_push_size _ rfl, rfl, rfl⟩, hl.push _⟩, fun i v s' Q' E' hP hQ => ?_, fun h' tk hk => ?_⟩
  · obtain ⟨b, e, rfl⟩ := hb.get i v (by simpa using hP)
    simp only [e, Option.getD_some] at hQ
    exact wpAny_truthy_bool hQ
  · have e : ((List.range its.toArray.size).all fun i => (bs[i]?).getD false) = bs.all id := by
      rw [List.size_toArray, hb.length]; exact range_allD bs
    rw [e]
    exact ⟨.bl (bs.all id), H, I.kept (LSm.kept_iter hk), rfl, q⟩
end
/-! ### sep.join(reversed(xs)) -/
theorem lri_nolen : typeLookup (.type "list_reverseiterator") "__len__" = pure none := by rw [typeLookup_type, builtinLookup_eq_fast]; kernel_rfl
theorem lri_hint : typeLookup (.type "list_reverseiterator") "__length_hint__" = pure (some (.builtin "list_reverseiterator.__length_hint__")) := by rw [typeLookup_type, builtinLookup_eq_fast]; kernel_rfl
section
variable {prog : Program} {w : World} {A : Around} {E : Value → Shared → Prop} {s : Shared} {I : Addr} {fp wr : List Addr} {G : Array GenState → Array GenState → Prop} {n : Nat} {P : Nat → Value → Prop} {St : Nat → Shared → Prop}
theorem collect_rev {Q : List Value → Shared → Prop} (W : WalksS prog w A.in1 I fp wr G n P St) (hT : ∀ i s, St i s → s.TypeIs (.ref I) "list_reverseiterator") (hst : St 0 s) (hfp : ∀ b ∈ fp, b < s.heap.objs.size) (hI : I ∈ fp)
    (hQ : ∀ s' acc, Moved wr G s s' → ItemsOf P acc n → Q acc.toList s') (hn : n ≤ sizeLine) : wpAny (model prog w) A (collect (.ref I)) Q E s := by
  have nf : s.heap.objs.size ∉ fp := fun hm => Nat.lt_irrefl _ (hfp _ hm)
  have ni : s.heap.objs.size ≠ I := fun e => nf (e ▸ hI)
  unfold collect
  refine wpAny_bind (wpAny_runValue (codeAny_builtin PySem.F.entry_proto_collect ?_))
  rw [Around.under_plainId PySem.F.plain_proto_collect _]
  show wpAny _ A.in1 (newList [] >>= fun x => again (.builtin "list.__iadd__" ⟨[x, .ref I], []⟩)) _ _ s
  refine wpAny_bind (wpAny_newObj_type (wpAny_pure ⟨plainId_quiet PySem.F.plain_list_iadd _, codeAny_builtin PySem.F.entry_list_iadd ?_⟩))
  rw [Around.under_plainId PySem.F.plain_list_iadd _]
  have st1 := W.frame 0 s (s.heap.push { cls := .type "list", data := .seq ([] : List Value).toArray }) s.toks hst (Nat.le_refl _) (fun b _ o e => Heap.get?_push_of_some _ e)
  have hl1 : (s.heap.push { cls := .type "list", data := .seq ([] : List Value).toArray }).get? s.heap.objs.size = some { cls := .type "list", data := .seq ([] : List Value).toArray } := by exact Heap.get?_push_size _ rfl
  have hs1 : Builtin.List.listSameRef (.ref s.heap.objs.size) (.ref I) = false := by simp only [Builtin.List.listSameRef]; exact decide_eq_false ni
  show wpAny _ A.in1 (Builtin.List.listExtendWith (.ref s.heap.objs.size) (.ref I) _) _ _ _
  unfold Builtin.List.listExtendWith
  refine wpAny_bind (wpAny_typeOf (hT 0 _ st1) ?_)
  rw [if_neg (show ¬ _ by rw [hs1]; decide)]
  refine wpAny_bind (W.self 0 _ _ _ st1 (wpAny_bind (wpAny_holding ?_)))
  unfold Builtin.List.listLengthHint
  refine wpAny_bind (wpAny_specialOf (hT 0 _ st1) lri_nolen ?_)
  show wpAny _ A.in1 (specialOf (.ref I) (Str.ofString "__length_hint__") >>= _) _ _ _
  refine wpAny_bind (wpAny_specialOf (hT 0 _ st1) lri_hint ?_)
  generalize hid : ("list_reverseiterator.__length_hint__" : String) = id0
  wp_delta
  rw [show splitId id0 = some ("list_reverseiterator", "__length_hint__") from by subst hid; decide +kernel]
  subst hid
  refine wpAny_bind (wpAny_isInstance (b := true) (hT 0 _ st1) (by rw [isSubtype_type]; kernel_rfl) (wpAny_pure ?_))
  rw [if_neg (by decide)]
  refine wpAny_pure ⟨plainId_quiet PySem.F.plain_extend_loop _, codeAny_extend_loopS W hn _ nf _ n 0 _ _ _ rfl (Nat.zero_le _) st1 hl1 (ItemsOf.nil P) fun s2 acc c hm h2 ha => ?_⟩
  show wpAny _ A (load s.heap.objs.size >>= _) _ _ s2
  exact wpAny_bind (wpAny_load h2 (wpAny_pure (hQ s2 acc (Moved.drop_new (o := { cls := .type "list", data := .seq ([] : List Value).toArray }) (tk := s.toks) hm (Nat.le_refl _)) ha)))
end
section
variable {X : Cx}
def tJoinR (K : PySem.W.Frag) (to te : TE) : TE := fun σ H Q => to σ H fun x H1 => ∃ z, x = .str z ∧ te σ H1 fun v H2 => ∃ p y, [v] = [V.ref p] ∧ SqL K H2 p [.str y] ∧ Q (.str y) H2
theorem join_rev1 {pins : List (Addr × Obj)} {σ : St} {H : Hp} {s : Shared} {z y : Str} {t ty : Tok} {p it : Addr} {Q : VK} (hc : X.calm = true) (I : Inv X pins σ H s) (hf : FpOk X pins H it) (hr : s.heap.IsRevIter it p 0) (hl : s.heap.IsList p [Value.str y ty].toArray) (q : Q (.str y) H) :
    wpAny (model X.prog X.w) X.A (call (.builtin "str.join") [.str z t, .ref it]) (EP X pins σ Q) X.xe s := by
  have hne : p ≠ it := by
    rintro rfl
    obtain ⟨o, ho, c, _⟩ := hl
    obtain ⟨o2, ho2, c2, _⟩ := hr
    rw [ho] at ho2
    cases ho2
    rw [c] at c2
    exact absurd c2 (by decide)
  have hlt : p < s.heap.objs.size := by obtain ⟨_, e, _⟩ := hl; exact Heap.lt_size e
  have hlt2 : it < s.heap.objs.size := by obtain ⟨_, e, _⟩ := hr; exact Heap.lt_size e
  have W := Walks.listRev (prog := X.prog) (w := X.w) (A := X.A.in1.in1) (I.ok.hd hc) it p hne [Value.str y ty].toArray
  refine wpAny_call (codeAny_call_builtin PySem.F.slot_str_join.plain PySem.F.entry_str_join (PySem.F.slot_str_join.check _ _ _ _ _ _ _ _ (typeIs_str _ _ _) (PySem.F.args_str_join_2 _ _) ?_))
  rw [join_tree_other]
  refine wpAny_bind (wpAny_typeOf hr.typeIs ?_)
  show wpAny _ X.A.in1 ((pyIter (.ref it)).tryCatch _ >>= fun i => collect i >>= fun l => joinTail z l) _ _ s
  refine wpAny_bind (wpAny_tryCatch (wpAny_pyIter_revIter hr ?_))
  refine wpAny_bind (collect_rev W.toS (fun i s st => st.2.1.typeIs) ⟨Nat.zero_le _, hr, hl⟩ (fun b hb => ?_) (by simp) (fun s2 acc hm ha => ?_) (by show 1 ≤ sizeLine; decide))
  · rcases List.mem_cons.mp hb with rfl | hb
    · exact hlt2
    · rw [List.mem_singleton.mp hb]
      exact hlt
  · obtain ⟨h1, h2⟩ := ha
    have h1 : acc.size = 1 := h1
    have e0 : acc.toList = strValues [(y, ty)] := by
      have g0 : acc[0]? = some acc[0] := Array.getElem?_eq_getElem (by omega)
      have g1 := h2 0 _ g0
      have g2 : (some (Value.str y ty) : Option Value) = some acc[0] := g1
      apply List.ext_getElem?
      intro i
      match i with
      | 0 => rw [Array.getElem?_toList, g0, ← g2]; rfl
      | i + 1 => rw [Array.getElem?_toList, Array.getElem?_eq_none (by omega)]; rfl
    rw [e0]
    obtain ⟨f0, f1, f2, f3, f4, f5⟩ := hf
    have g : Gives (joinTail z (strValues [(y, ty)])) (.val (.str y ty)) := .rule (.of_eq rfl)
    have es : s2 = { s with heap := s2.heap, toks := s2.toks } := by
      obtain ⟨k1, k2, k3, k4, k5⟩ := hm
      have k2 : s2.gens = s.gens := k2
      cases s2
      cases s
      simp only at k2 k3 k4
      subst k2 k3 k4
      rfl
    have I2 : Inv X pins σ H s2 := by
      rw [es]
      exact I.turned (fun b o hb e => hm.heap b o (by simpa using hb) e) f0 f1 f3 f4 f5
    exact g X.prog X.w X.A (wants (EP X pins σ Q) X.xe) s2 ⟨.str y, H, I2, ⟨ty, rfl⟩, q⟩
theorem pe_joinRev {o e : Expr} {to te : TE} {apos cpos p pos : Pos} (hc : X.calm = true) (ho : PE X o to) (he : PE X e te) (hg : Gl X "reversed") (hm : X.mg "reversed" = none)
    (hbase : attributeBase o "join" X.env (eval o X.env) = eval o X.env := by rfl)
    (hfew : ((backTo cpos (starEach [.Call (.Name "reversed" p) [e] [] pos] X.env)).all (fun x => !x.1) && (backToKw cpos (keywordEach [] X.env)).all (fun x => x.1.isSome)
      && decide (([.Call (.Name "reversed" p) [e] [] pos] : List Expr).length + ([] : List Keyword).length + (if ([] : List Keyword).isEmpty then 0 else 1) < 30)) = true := by rfl)
    (hline : (apos.endLine == cpos.line) = true := by rfl) (hs : starEach [.Call (.Name "reversed" p) [e] [] pos] X.env = [(false, eval (.Call (.Name "reversed" p) [e] [] pos) X.env)] := by rfl)
    (hse : starEach [e] X.env = [(false, eval e X.env)] := by rfl) :
    PE X (.Call (.Attribute o "join" apos) [.Call (.Name "reversed" p) [e] [] pos] [] cpos) (tJoinR X.K to te) := by
  intro pins s σ H Q I h
  refine wpAny_Call_method_late hbase hfew hline rfl (thn (ho pins s σ H _ I h) fun v s1 ⟨x, H1, I1, r1, z, ez, q1⟩ => ?_)
  subst ez
  obtain ⟨h1, h2⟩ := tyV_is (T := "str") I1 r1 (show tyV X.K "str" (.str z) H1 from rfl)
  refine ⟨"str", "str.join", PySem.F.plainAttrs_str, PySem.F.slot_str_join, PySem.F.type_str_join, h1, h2, ?_⟩
  obtain ⟨t, rfl⟩ := r1
  rw [hs]
  refine Calls.callWith_builtin rfl (Calls.evalArgs_plain ?_)
  refine Calls.spliced_cons ?_
  refine wpAny_Call_Name_kw (ld_blt I1 hg hm boot_reversed ?_ (by decide) (by decide))
  refine PyProof.Rows.callWith_type1 (thn (pa_cons he pa_nil hse pos pins s1 σ H1 (fun vs H2 => ∃ p y, vs = [V.ref p] ∧ SqL X.K H2 p [.str y] ∧ Q (.str y) H2) I1 q1) fun us s2 ⟨vs, H2, I2, r2, pp, y, e1, hS, q⟩ => ?_) hse rfl
  · subst e1
    obtain ⟨u, rfl, ru⟩ := vals1 r2
    cases ru
    obtain ⟨its, rv, pl, hz⟩ := I2.list hS
    obtain ⟨uy, rfl, ty, rfl⟩ := vals1 rv
    refine call_reversed_list pl.isList ?_
    refine Calls.spliced_nil ?_
    refine join_rev1 hc (p := pp) (I2.kept (t' := s2.toks) fun b o e => Heap.get?_push_of_some _ e) (I2.fpOk (Nat.le_refl _) I2.fresh) ⟨_, Heap.get?_push_size _ rfl, rfl, rfl⟩ (pl.isList.push _) q
end
/-! ### a range that goes up by c -/
def Its (lo c : Int) (n : Nat) : It := ⟨fun i _ => i < n, fun i H x H' => H' = H ∧ x = .int (lo + i * c), fun i _ => n ≤ i⟩
theorem turn_step {P : Program} {w : World} {K : PySem.W.Frag} {tg : Expr} (it : Addr) (lo c : Int) (n : Nat) : Turn P w K tg (Its lo c n) [it] it (fun i h => IsRangeIter h it (lo + (i : Nat) * c) ((n : Int) - (i : Nat)) c) where
  mem := List.mem_singleton.mpr rfl
  obj := fun i h st b hb => by
    obtain rfl : b = it := List.mem_singleton.mp hb
    exact ⟨_, st, fun v z => by
      have z' : Data.fields _ = Data.cell v := z
      cases z'⟩
  keep := fun i h h' st k => k it (List.mem_singleton.mpr rfl) _ st
  item := by
    intro X hP hw hK hc i pins s σ H E I hf st hg
    subst hP hw hK
    obtain ⟨f0, f1, f2, f3, f4, f5⟩ := hf it (List.mem_singleton.mpr rfl)
    refine (Walks.range (prog := X.prog) (w := X.w) (I.ok.hd hc) it lo c n).item i s _ _ hg st fun v h' tk hv st' kk => ?_
    obtain ⟨t, rfl⟩ := hv
    have I1 : Inv X pins σ H { s with heap := h', toks := tk } := I.turned (fun b o hb e => kk b o (by simpa using hb) e) f0 f1 f3 f4 f5
    exact ⟨_, rfl, go_of (s := { s with heap := h', toks := tk }) (n := "range_iterator") st' rfl rfl (by decide) ⟨.int (lo + i * c), H, I1, ⟨t, rfl⟩, ⟨rfl, rfl⟩, st', fun b hb => (hf b hb).1⟩⟩
  done := by
    intro X hP hw hK hc i pins s σ H E I hf st hg
    subst hP hw hK
    obtain ⟨f0, f1, f2, f3, f4, f5⟩ := hf it (List.mem_singleton.mpr rfl)
    exact wpAny_pyNext_range_end (I.ok.hd hc) st (by have : n ≤ i := hg; omega) fun h' eb => ⟨rfl, I.turned (t' := s.toks) (fun b o hb e => eb b o hb e) f0 f1 f3 f4 f5⟩
  self := fun _ _ _ _ _ st h => wpAny_pyIter_rangeiter st h
section
variable {X : Cx} {tg : Expr}
def iStep (ta : TA) : TI := fun σ H R => ta σ H fun vs H1 => ∃ (i j c : Int) (n : Nat), vs = [.int i, .int j, .int c] ∧ c ≠ 0 ∧ c.natAbs < 1073741824 ∧ Builtin.Range.small i j c = true ∧ Builtin.Range.rangeSize i j c = (n : Int) ∧ R (Its i c n) H1
theorem pi_step {a b c : Expr} {ta : TA} {p pos : Pos} (hg : Gl X "range") (hm : X.mg "range" = none) (ha : PA X [a, b, c] ta) (hs : starEach [a, b, c] X.env = (false, eval a X.env) :: starEach [b, c] X.env := by rfl) (hpl : (backTo pos (starEach [b, c] X.env)).any (·.1) = false := by rfl) :
    PI X tg (.Call (.Name "range" p) [a, b, c] [] pos) (iStep ta) := by
  intro pins s σ H R I h
  refine Call_ (ld_blt I hg hm boot_range (PyProof.Rows.callWith_type1 (thn (ha pos pins s σ H _ I h) fun us s1 ⟨vs, H1, I1, r1, q1⟩ => ?_) hs hpl))
  obtain ⟨i, j, k, n, e, c0, c1, sm, en, q⟩ := q1
  subst e
  cases r1 with
  | cons r rr =>
  cases rr with
  | cons r' rr =>
  cases rr with
  | cons r'' rr =>
    cases rr
    obtain ⟨t, rfl⟩ := r
    obtain ⟨t', rfl⟩ := r'
    obtain ⟨t'', rfl⟩ := r''
    refine call_range_3 c0 (wpAny_pyIter_range (IsRange.new ..) sm ?_) (Or.inl (PyProof.noPylong_small c1))
    refine ⟨_, [_], _, _, H1, rfl, (I1.kept (t' := _) fun b o e => Heap.get?_push_of_some _ (Heap.get?_push_of_some _ e)), turn_step _ i k n, ?_, fun b hb => ?_, q⟩
    · show IsRangeIter _ _ (i + ((0 : Nat) : Int) * k) ((n : Int) - ((0 : Nat) : Int)) k
      rw [show i + ((0 : Nat) : Int) * k = i by simp, show (n : Int) - ((0 : Nat) : Int) = Builtin.Range.rangeSize i j k by rw [en]; simp]
      exact Heap.get?_push_size _ rfl
    · rw [List.mem_singleton.mp hb]
      exact I1.fpOk (by simp [Heap.push]) (I1.hok.fresh (by simp [Heap.push]))
end
theorem turns_step {lo c : Int} {n : Nat} {g : TG} {tt : TT} {te : TE} {d : Addr} {σ : St} {H : Hp} {Q : Hp → Prop} (Pv : Nat → St → Hp → Prop) (h0 : Pv 0 σ H)
    (hs : ∀ i σ H, i < n → Pv i σ H → g (.int (lo + i * c)) σ H fun σ2 H2 => tt σ2 H2 fun b H3 => if b = true then te σ2 H3 fun y H4 => ∃ ys, H4 d = some (.lst ys) ∧ ys.length < sizeLine ∧ Pv (i + 1) σ2 (upd H4 d (.lst (ys ++ [y]))) else Pv (i + 1) σ2 H3)
    (hd : ∀ σ H, Pv n σ H → Q H) : Turns (Its lo c n) g tt te d σ H Q := by
  refine ⟨fun i m σ H => m = n - i ∧ i ≤ n ∧ Pv i σ H, ⟨n, by simp, Nat.zero_le _, h0⟩, ?_⟩
  rintro i m σ H ⟨rfl, hi, p⟩
  by_cases hlt : i < n
  · refine .inr ⟨hlt, Pv (i + 1), fun σ' H' p' => ⟨n - (i + 1), by omega, rfl, hlt, p'⟩, fun x H' y => ?_⟩
    obtain ⟨e, y⟩ := y
    subst e y
    exact hs i σ _ hlt p
  · have e : i = n := by omega
    subst e
    exact .inl ⟨Nat.le_refl _, hd σ H p⟩
end L2
namespace Bl
abbrev sBound : PySem.Stmt := top 2
abbrev sText : PySem.Stmt := top 3
abbrev sSign : PySem.Stmt := top 4
abbrev sPieces : PySem.Stmt := top 5
abbrev sPieceN : PySem.Stmt := top 6
abbrev sNumber : PySem.Stmt := top 7
abbrev sFirst : PySem.Stmt := top 14
abbrev sMoved : PySem.Stmt := top 15
abbrev sThere : PySem.Stmt := top 17
abbrev sPlaces : PySem.Stmt := top 18
abbrev sQInit : PySem.Stmt := L2.inClass (top 19) 0
abbrev sQCome : PySem.Stmt := L2.inClass (top 19) 1
abbrev sQLeave : PySem.Stmt := L2.inClass (top 19) 2
abbrev sQUp : PySem.Stmt := L2.inClass (top 19) 3
end Bl
namespace Bl
open PySem PySem.Spec PyProof.Rows L2
theorem bt_int : bootBuiltins "int" = some (.type "int") := by decide +kernel
theorem bt_bool : bootBuiltins "bool" = some (.type "bool") := by decide +kernel
theorem bt_str : bootBuiltins "str" = some (.type "str") := by decide +kernel
theorem bt_list : bootBuiltins "list" = some (.type "list") := by decide +kernel
theorem bt_tuple : bootBuiltins "tuple" = some (.type "tuple") := by decide +kernel
theorem bt_isi : bootBuiltins "isinstance" = some (.builtin "isinstance") := by decide +kernel
theorem bt_len : bootBuiltins "len" = some (.builtin "len") := by decide +kernel
theorem bt_max : bootBuiltins "max" = some (.builtin "max") := by decide +kernel
theorem iteFd {c A B : Prop} [Decidable c] (hc : ¬ c) (h : B) : if decide c = true then A else B := by
  rw [decide_eq_false hc]
  exact iteF h
theorem iteTd {c A B : Prop} [Decidable c] (hc : c) (h : A) : if decide c = true then A else B := by
  rw [decide_eq_true hc]
  exact iteT h
theorem ite2d {c A B : Prop} [Decidable c] (h1 : c → A) (h2 : ¬ c → B) : if decide c = true then A else B := by
  by_cases h : c
  · exact iteTd h (h1 h)
  · exact iteFd h (h2 h)
theorem sz_le {n : Nat} (h : n ≤ 100000) : n ≤ sizeLine := Nat.le_trans h (by rw [sizeLine_eq]; decide)
theorem sz_lt {n : Nat} (h : n ≤ 100000) : n < sizeLine := Nat.lt_of_le_of_lt h (by rw [sizeLine_eq]; decide)
structure Txt (mg : Str → Option Value) : Prop where
  len : mg "len" = none
  isi : mg "isinstance" = none
  lst : mg "list" = none
  tup : mg "tuple" = none
  bl : mg "bool" = none
  str : mg "str" = none
  int : mg "int" = none
  rng : mg "range" = none
  mx : mg "max" = none
def spWhole : Sp := fun vs H Q _ => ∃ i : Int, vs = [.int i] ∧ Q (.bl true) H
def spCell (K : PySem.W.Frag) : Sp := fun vs H Q _ => ∃ (a : Addr) (ns : List Int) (k : Nat), vs = [.ref a, .int k] ∧ SqL K H a (ns.map V.int) ∧ Q (.int (ns.getD k 0)) H
def spRowsBy (K : PySem.W.Frag) : Sp := fun vs H Q _ => ∃ (a : Addr) (ns : List Int) (g : Int), vs = [.ref a, .int g] ∧ SqL K H a (ns.map V.int) ∧ ns.length ≤ 1000 ∧
  ∀ (p : Addr) (as : List Addr) (H' : Hp), H p = none → Same H H' → RowsAt H' p as (rb g 0 ns) → Q (.ref p) H'
def spWas : Sp := fun vs H Q _ => ∃ (p q : Addr) (as : List Addr) (rs : List Rw), vs = [.ref p, .ref q] ∧ RowsAt H p as rs ∧ RowsAt H q as rs ∧ rs.length ≤ 1000 ∧ ∀ H', Same H H' → Q (.bl true) H'
section
variable {P : Program} {w : World} {K : PySem.W.Frag} {mg : Str → Option Value} {base : Heap}
theorem scWhole : FnScope ["_law_found"] ["_law_found"] (defScope sWhole) := ⟨rfl, rfl, rfl, by decide +kernel, rfl, by decide +kernel, by decide +kernel⟩
theorem ok_whole {f : Addr} {fd : FuncData} (F : Fun K "_law_whole" "_law_whole" sWhole f fd) (T : Txt mg) : FnOk P w K mg base CX0 1 f fd ["_law_found"] spWhole := by
  refine F.ok scWhole (fun vs H Q E h => ?_) (fun cdv A outer s H vs Q E hr h => ?_)
  · obtain ⟨i, rfl, _⟩ := h
    rfl
  · obtain ⟨i, rfl, q⟩ := h
    refine ⟨_, pss_one (ps_ret (pe_and (pe_callB call_isi (by rfl) T.isi bt_isi (pa_cons (pv 0) (pa_cons (pe_bltn (v := .ty "int") (by rfl) T.int bt_int rfl) pa_nil)))
      (pe_one (pe_not (pe_callB call_isi (by rfl) T.isi bt_isi (pa_cons (pv 0) (pa_cons (pe_bltn (v := .ty "bool") (by rfl) T.bl bt_bool rfl) pa_nil))))))), ?_⟩
    refine ⟨_, rfl, _, _, _, _, rfl, .int i, kit_ii K, _, rfl, ?_⟩
    refine iteT ?_
    exact ⟨_, rfl, _, _, _, _, rfl, .int i, kit_ib K, _, rfl, q⟩
theorem scCell : FnScope ["_law_script", "_law_k"] ["_law_script", "_law_k"] (defScope sCell) := ⟨rfl, rfl, rfl, by decide +kernel, rfl, by decide +kernel, by decide +kernel⟩
theorem ok_cell {f : Addr} {fd : FuncData} (F : Fun K "_law_cell_at" "_law_cell_at" sCell f fd) (T : Txt mg) : FnOk P w K mg base CX0 1 f fd ["_law_script", "_law_k"] (spCell K) := by
  refine F.ok scCell (fun vs H Q E h => ?_) (fun cdv A outer s H vs Q E hr h => ?_)
  · obtain ⟨a, ns, k, rfl, _⟩ := h
    rfl
  · obtain ⟨a, ns, k, rfl, hS, q⟩ := h
    refine ⟨_, pss_cons (ps_if (pt_cmpR op_lt (pv 1) (pe_callB call_len_seq (by rfl) T.len bt_len (pa_cons (pv 0) pa_nil)) (nomark _))
      (pss_one (ps_ret (pe_ix ix_list (pv 0) (pv 1) (fun _ _ => rfl)))) pss_nil) (pss_one (ps_ret pe_int)), ?_⟩
    refine ⟨_, rfl, _, rfl, a, _, rfl, .inl hS, _, _, rfl, rfl, _, rfl, ?_⟩
    refine ite2d (fun hc => ?_) (fun hc => ?_)
    · have hlt : k < ns.length := by rw [List.length_map] at hc; omega
      refine ⟨_, rfl, _, rfl, a, _, _, V.int (ns.getD k 0), rfl, rfl, hS, atI_nat ?_, q⟩
      rw [List.getElem?_map, List.getElem?_eq_getElem hlt, List.getD_eq_getElem?_getD, List.getElem?_eq_getElem hlt]
      rfl
    · have hge : ns.length ≤ k := by rw [List.length_map] at hc; omega
      have e : ns.getD k 0 = 0 := by rw [List.getD_eq_getElem?_getD, List.getElem?_eq_none hge]; rfl
      rw [e] at q
      exact q
theorem int_at {ns : List Int} {i : Nat} {y : V} (h : (ns.map V.int)[i]? = some y) : ∃ z, ns[i]? = some z ∧ y = .int z := by
  rw [List.getElem?_map] at h
  obtain ⟨z, h1, h2⟩ := Option.map_eq_some_iff.mp h
  exact ⟨z, h1, h2.symm⟩
theorem ref_at {as : List Addr} {i : Nat} {y : V} (h : (as.map V.ref)[i]? = some y) : ∃ z, as[i]? = some z ∧ y = .ref z := by
  rw [List.getElem?_map] at h
  obtain ⟨z, h1, h2⟩ := Option.map_eq_some_iff.mp h
  exact ⟨z, h1, h2.symm⟩
end
end Bl
namespace Bl
open PySem PySem.Spec PyProof.Rows L2
/-! ### the script mixed, the day by it -/
def mixed (ns : List Int) : List Int := (List.range ns.length).map fun k => (ns.getD k 0 + 7919 * (k : Int)) * 48271 % 1000003
def spMixed (K : PySem.W.Frag) : Sp := fun vs H Q _ => ∃ (a : Addr) (ns : List Int), vs = [.ref a] ∧ SqL K H a (ns.map V.int) ∧ ns.length ≤ 63 ∧ ∀ (p : Addr), H p = none → Q (.ref p) (upd H p (.lst ((mixed ns).map V.int)))
def farS : Str := Txt.mul "a" 30
def otherS (spot : Int) : Str := Txt.slice farS none (some spot) ++ "b" ++ Txt.slice farS (some (spot + 1)) none
def namesS (spot : Int) : List Str := ["a", "ab", farS, otherS spot, "Z"]
def lensI : List Int := [-1, 0, 1, 2, 3, 4, 5, 9]
def nmI (c : Int) : Nat := (c / 5 % 5).toNat
def lnI (c : Int) : Int := lensI.getD (c / 25 % 8).toNat 0
def nameS (spot c : Int) : Str := (namesS spot).getD (nmI c) Str.empty
def rowS (spot c : Int) : Str := if c % 5 < 3 then "come " ++ nameS spot c ++ " " ++ Str.ofString (toString (lnI c)) else if c % 5 = 3 then "leave " ++ nameS spot c else "up"
def spotOf (cs : List Int) : Int := (cs.take 1).sum % 30
def dayOf (cs : List Int) : List Str := cs.map (rowS (spotOf cs))
def spDay (K : PySem.W.Frag) : Sp := fun vs H Q _ => ∃ (a : Addr) (cs : List Int), vs = [.ref a] ∧ SqL K H a (cs.map V.int) ∧ cs.length ≤ 63 ∧
  ∀ (p : Addr) (H' : Hp), H p = none → Same H H' → H' p = some (.lst ((dayOf cs).map V.str)) → Q (.ref p) H'
theorem bt_sum : bootBuiltins "sum" = some (.builtin "sum") := by decide +kernel
theorem farS_len : farS.length = 30 := by decide +kernel
theorem otherS_len (k : Int) : (otherS k).length ≤ 61 := by
  unfold otherS
  rw [Str.length_append, Str.length_append]
  have h1 := Txt.slice_le farS none (some k)
  have h2 := Txt.slice_le farS (some (k + 1)) none
  have h3 : (Str.ofString "b").length = 1 := by decide +kernel
  rw [farS_len] at h1 h2
  omega
theorem nameS_len (spot c : Int) : (nameS spot c).length ≤ 61 := by
  have h : ∀ z ∈ namesS spot, z.length ≤ 61 := by
    intro z hz
    have h1 : (Str.ofString "a").length ≤ 61 := by decide +kernel
    have h2 : (Str.ofString "ab").length ≤ 61 := by decide +kernel
    have h3 : (Str.ofString "Z").length ≤ 61 := by decide +kernel
    have h4 : farS.length ≤ 61 := by rw [farS_len]; decide
    simp only [namesS, List.mem_cons, List.not_mem_nil, or_false] at hz
    rcases hz with rfl | rfl | rfl | rfl | rfl
    · exact h1
    · exact h2
    · exact h4
    · exact otherS_len spot
    · exact h3
  unfold nameS
  rw [List.getD_eq_getElem?_getD]
  cases e : (namesS spot)[nmI c]? with
  | none => exact Nat.zero_le _
  | some z => exact h z (List.mem_of_getElem? e)
theorem nm_at (spot c : Int) : atI ((namesS spot).map V.str) (c / 5 % 5) = some (.str (nameS spot c)) := by
  have h0 : 0 ≤ c / 5 % 5 := Int.emod_nonneg _ (by decide)
  have h1 : c / 5 % 5 < 5 := Int.emod_lt_of_pos _ (by decide)
  have e : c / 5 % 5 = ((nmI c : Nat) : Int) := by unfold nmI; omega
  have hl : nmI c < (namesS spot).length := by show nmI c < 5; unfold nmI; omega
  rw [e]
  refine atI_nat ?_
  rw [List.getElem?_map, List.getElem?_eq_getElem hl]
  unfold nameS
  rw [List.getD_eq_getElem?_getD, List.getElem?_eq_getElem hl]
  rfl
theorem ln_at (c : Int) : atI (lensI.map V.int) (c / 25 % 8) = some (.int (lnI c)) := by
  have h0 : 0 ≤ c / 25 % 8 := Int.emod_nonneg _ (by decide)
  have h1 : c / 25 % 8 < 8 := Int.emod_lt_of_pos _ (by decide)
  have e : c / 25 % 8 = (((c / 25 % 8).toNat : Nat) : Int) := by omega
  have hl : (c / 25 % 8).toNat < lensI.length := by show (c / 25 % 8).toNat < 8; omega
  rw [e]
  refine atI_nat ?_
  rw [List.getElem?_map, List.getElem?_eq_getElem hl]
  unfold lnI
  rw [List.getD_eq_getElem?_getD, List.getElem?_eq_getElem hl]
  rfl
theorem ln_small (c : Int) : (lnI c).natAbs.log2 < 1920 ∧ (Str.ofString (toString (lnI c))).length ≤ 2 := by
  have h : ∀ z ∈ lensI, z.natAbs.log2 < 1920 ∧ (Str.ofString (toString z)).length ≤ 2 := by decide +kernel
  unfold lnI
  rw [List.getD_eq_getElem?_getD]
  cases e : lensI[(c / 25 % 8).toNat]? with
  | none => show (0 : Int).natAbs.log2 < 1920 ∧ (Str.ofString (toString (0 : Int))).length ≤ 2; decide +kernel
  | some z => exact h z (List.mem_of_getElem? e)
section
variable {P : Program} {w : World} {K : PySem.W.Frag} {mg : Str → Option Value} {base : Heap}
theorem scMixed : FnScope ["_law_script"] ["_law_script"] (defScope sMixed) := ⟨rfl, rfl, rfl, by decide +kernel, rfl, by decide +kernel, by decide +kernel⟩
theorem ok_mixed {f : Addr} {fd : FuncData} (F : Fun K "_law_mixed" "_law_mixed" sMixed f fd) (T : Txt mg) : FnOk P w K mg base CX0 1 f fd ["_law_script"] (spMixed K) := by
  refine F.ok scMixed (fun vs H Q E h => ?_) (fun cdv A outer s H vs Q E hr h => ?_)
  · obtain ⟨a, ns, rfl, _⟩ := h
    rfl
  · obtain ⟨a, ns, rfl, hS, hlen, k⟩ := h
    have nd2 : (["_law_k", "_law_script"] : List Str).Nodup := by decide +kernel
    refine ⟨_, pss_one (ps_ret (pe_lc (N := ["_law_k", "_law_script"]) (fs := [none, some 0]) (pi_range1 (by rfl) T.rng (pa_cons (pe_callB call_len_seq (by rfl) T.len bt_len (pa_cons (pv 0) pa_nil)) pa_nil)) rfl rfl (by decide +kernel) ⟨Or.inl rfl, trivial⟩
      ⟨⟨rfl, Or.inr (Or.inl rfl), Or.inl rfl, Or.inl rfl⟩, trivial⟩ (fun _ _ _ _ => pg_name (i := 0) nd2 rfl (Or.inl rfl)) (fun _ _ _ _ => pts_nil)
      (fun _ _ _ _ => pe_op op_mod (pe_op op_mul (pe_op op_add (pe_ix (r := rIxL K) (by exact ix_list) (pv 1) (pv 0) (fun _ _ => rfl)) (pe_op op_mul pe_int (pv 0))) pe_int) pe_int))), ?_⟩
    refine ⟨_, rfl, a, _, rfl, .inl hS, _, rfl, by omega, by rw [List.length_map]; omega, fun d hd => ?_⟩
    rw [List.length_map, Int.toNat_natCast]
    have hS' : ∀ o, SqL K (upd H d o) a (ns.map V.int) := fun o => (upd_same_of hd).seq hS
    refine turns_range (lo := 0) (n := ns.length) (fun i σ H2 => ∃ c : Option V, σ = [c, some (.ref a)] ∧ H2 = upd H d (.lst (((List.range i).map fun k => (ns.getD k 0 + 7919 * (k : Int)) * 48271 % 1000003).map V.int))) ⟨none, rfl, rfl⟩ ?_ ?_
    · rintro i σ H2 hi ⟨c, rfl, rfl⟩
      dsimp only [gName]
      refine noT ?_
      have hx : atI (ns.map V.int) (0 + (i : Int)) = some (.int (ns.getD i 0)) := by
        rw [Int.zero_add]
        refine atI_nat ?_
        rw [List.getElem?_map, List.getElem?_eq_getElem hi, List.getD_eq_getElem?_getD, List.getElem?_eq_getElem hi]
        rfl
      refine ⟨_, rfl, _, rfl, a, _, _, _, rfl, rfl, hS' _, hx, _, rfl, _, _, rfl, rfl, .inl ⟨by decide, by decide⟩, _, _, rfl, rfl, _, _, rfl, rfl, .inr ⟨by decide, by decide⟩, _, _, rfl, rfl, (by show (0 : Int) < 1000003; decide), ?_⟩
      refine ⟨_, upd_same, sz_lt (by simp; omega), some (.int (0 + (i : Int))), rfl, ?_⟩
      rw [upd_upd, List.range_succ, List.map_append, List.map_append, Int.zero_add]
      rfl
    · rintro σ H2 ⟨c, rfl, rfl⟩
      exact k d hd
theorem scDay : FnScope ["_law_cells", "_law_far", "_law_spot", "_law_other", "_law_asked", "_law_cell", "_law_named"] ["_law_cells"] (defScope sDay) := ⟨rfl, rfl, rfl, by decide +kernel, rfl, by decide +kernel, by decide +kernel⟩
theorem ok_day {f : Addr} {fd : FuncData} (F : Fun K "_law_day" "_law_day" sDay f fd) (T : Txt mg) (hsum : mg "sum" = none) : FnOk P w K mg base CX0 1 f fd ["_law_cells"] (spDay K) := by
  refine F.ok scDay (fun vs H Q E h => ?_) (fun cdv A outer s H vs Q E hr h => ?_)
  · obtain ⟨a, cs, rfl, _⟩ := h
    rfl
  · obtain ⟨a, cs, rfl, hS, hlen, k⟩ := h
    have nd := scDay.nd
    refine ⟨_, pss_cons (ps_set (i := 1) nd rfl (Or.inl rfl) (pe_op op_mul_str pe_str pe_int))
      (pss_cons (ps_set (i := 2) nd rfl (Or.inl rfl) (pe_op op_mod (pe_callB (call_sum1 rfl) (by rfl) hsum bt_sum (pa_cons (pe_slice sl_list (pv 0) po_none (po_some pe_int)) pa_nil)) pe_int))
      (pss_cons (ps_set (i := 3) nd rfl (Or.inl rfl) (pe_op op_add_str (pe_op op_add_str (pe_slice sl_str (pv 1) po_none (po_some (pv 2))) pe_str) (pe_slice sl_str (pv 1) (po_some (pe_op op_add (pv 2) pe_int)) po_none)))
      (pss_cons (ps_set (i := 4) nd rfl (Or.inl rfl) (pe_lst pa_nil))
      (pss_cons (ps_for PassesOwn.never rfl (pi_list (pv 0)) (pg_name (i := 5) nd rfl (Or.inl rfl))
        (pss_cons (ps_set (i := 6) nd rfl (Or.inl rfl) (pe_ix ix_list (pe_lst (pa_cons pe_str (pa_cons pe_str (pa_cons (pv 1) (pa_cons (pv 3) (pa_cons pe_str pa_nil)))))) (pe_op op_mod (pe_op op_fdiv (pv 5) pe_int) pe_int) (fun _ _ => rfl)))
        (pss_one (ps_if (pt_cmpR op_lt (pe_op op_mod (pv 5) pe_int) pe_int (nomark _))
          (pss_one (ps_expr (pe_bm PySem.F.plainAttrs_list PySem.F.slot_list_append PySem.F.type_list_append mt_append (pv 4) (pa_cons (pe_op op_add_str (pe_op op_add_str (pe_op op_add_str pe_str (pv 6)) pe_str)
            (pe_callTy call_str_int (by rfl) T.str bt_str (pa_cons (pe_ix ix_list (pe_lst (pa_cons (pe_un un_neg pe_int) (pa_cons pe_int (pa_cons pe_int (pa_cons pe_int (pa_cons pe_int (pa_cons pe_int (pa_cons pe_int (pa_cons pe_int pa_nil))))))))) (pe_op op_mod (pe_op op_fdiv (pv 5) pe_int) pe_int) (fun _ _ => rfl)) pa_nil))) pa_nil))))
          (pss_one (ps_if (pt_cmpR op_eq (pe_op op_mod (pv 5) pe_int) pe_int (nomark _))
            (pss_one (ps_expr (pe_bm PySem.F.plainAttrs_list PySem.F.slot_list_append PySem.F.type_list_append mt_append (pv 4) (pa_cons (pe_op op_add_str pe_str (pv 6)) pa_nil))))
            (pss_one (ps_expr (pe_bm PySem.F.plainAttrs_list PySem.F.slot_list_append PySem.F.type_list_append mt_append (pv 4) (pa_cons pe_str pa_nil))))))))))
      (pss_one (ps_ret (pv 4))))))), ?_⟩
    -- far, spot, other
    refine ⟨_, _, rfl, rfl, ⟨by decide, fun _ _ => by decide +kernel, fun _ _ => by decide +kernel⟩, ?_⟩
    refine ⟨_, rfl, _, rfl, a, _, rfl, hS, fun p1 hp1 => ?_⟩
    have ecut : cutV (cs.map V.int) none (some (1 : Int)) = (cs.take 1).map V.int := by
      unfold cutV
      have e1 : HT.sIx (cs.map V.int).length (cs.map V.int).length (some (1 : Int)) = min 1 (cs.map V.int).length := HT.sIx_nat _ _ 1
      rw [e1, HT.sIx_none, List.drop_zero, Nat.sub_zero, List.map_take]
      by_cases h : 1 ≤ (cs.map V.int).length
      · rw [Nat.min_eq_left h]
      · rw [Nat.min_eq_right (by omega), List.take_of_length_le (by omega), List.take_of_length_le (by omega)]
    rw [ecut]
    have s1 : Same H (upd H p1 (.lst ((cs.take 1).map V.int))) := upd_same_of hp1
    refine ⟨p1, cs.take 1, rfl, SqL.of upd_same, by rw [List.length_take]; omega, _, _, rfl, rfl, (by show (0 : Int) < 30; decide), ?_⟩
    revert s1
    generalize upd H p1 (.lst ((cs.take 1).map V.int)) = H1
    intro s1
    have hfar : (Txt.mul (Str.ofString "a") 30).length ≤ sizeLine := sz_le (by have := farS_len; unfold farS at this; rw [this]; decide)
    have hfl := farS_len
    have hsl1 := Txt.slice_le farS none (some (spotOf cs))
    have hsl2 := Txt.slice_le farS (some (spotOf cs + 1)) none
    have hb1 : (Str.ofString "b").length = 1 := by decide +kernel
    refine ⟨_, rfl, _, rfl, _, rfl, _, rfl, hfar, _, _, rfl, rfl, ?_, _, rfl, _, rfl, _, _, rfl, rfl, _, rfl, _, rfl, hfar, _, _, rfl, rfl, ?_, ?_⟩
    · show (Txt.slice farS none (some (spotOf cs))).length + (Str.ofString "b").length ≤ sizeLine
      exact sz_le (by rw [hb1]; omega)
    · show (Txt.slice farS none (some (spotOf cs)) ++ Str.ofString "b").length + (Txt.slice farS (some (spotOf cs + 1)) none).length ≤ sizeLine
      exact sz_le (by rw [Str.length_append, hb1]; omega)
    refine ⟨Nat.zero_le _, fun p hp => ?_⟩
    have hp0 : H p = none := s1.free hp
    have s2 : Same H (upd H1 p (.lst [])) := s1.trans (upd_same_of hp)
    refine ⟨_, rfl, a, rfl, ⟨_, s2.seq hS⟩, for_list (K := K) (a := a) (xs := cs.map V.int) (fun i σ H2 => ∃ c d : Option V,
      σ = [some (.ref a), some (.str farS), some (.int (spotOf cs)), some (.str (otherS (spotOf cs))), some (.ref p), c, d] ∧ Same H H2 ∧ H2 p = some (.lst (((cs.take i).map (rowS (spotOf cs))).map V.str)))
      ⟨none, none, rfl, s2, upd_same⟩ (fun i σ H2 _ ⟨_, _, _, s3, _⟩ => s3.seq hS) ?_ ?_⟩
    · rintro i y σ H2 hi ⟨c, d, rfl, s3, hp3⟩
      obtain ⟨z, hz, rfl⟩ := int_at hi
      have hil : i < cs.length := (List.getElem?_eq_some_iff.mp hz).1
      refine ⟨_, rfl, _, rfl, sz_le (by show 5 ≤ 100000; decide), fun t ht => ?_⟩
      have s4 : Same H (upd H2 t (.lst ((namesS (spotOf cs)).map V.str))) := s3.trans (upd_same_of ht)
      have npt : p ≠ t := ne_of_none hp3 ht
      have hp4 : upd H2 t (.lst ((namesS (spotOf cs)).map V.str)) p = some (.lst (((cs.take i).map (rowS (spotOf cs))).map V.str)) := by rw [upd_ne npt]; exact hp3
      refine ⟨_, rfl, _, _, rfl, rfl, ⟨by decide, by decide⟩, _, _, rfl, rfl, (by show (0 : Int) < 5; decide), t, (namesS (spotOf cs)).map V.str, _, _, rfl, rfl, SqL.of upd_same, nm_at (spotOf cs) z, ?_⟩
      have hnl := nameS_len (spotOf cs) z
      have fin : ∀ (c d : Option V) (H5 : Hp) (r : Str), Same H H5 → H5 p = some (.lst (((cs.take i).map (rowS (spotOf cs))).map V.str)) → r = rowS (spotOf cs) z →
          ∃ c' d' : Option V, [some (V.ref a), some (.str farS), some (.int (spotOf cs)), some (.str (otherS (spotOf cs))), some (.ref p), c, d] = [some (.ref a), some (.str farS), some (.int (spotOf cs)), some (.str (otherS (spotOf cs))), some (.ref p), c', d'] ∧
            Same H (upd H5 p (.lst (((cs.take i).map (rowS (spotOf cs))).map V.str ++ [.str r]))) ∧ upd H5 p (.lst (((cs.take i).map (rowS (spotOf cs))).map V.str ++ [.str r])) p = some (.lst (((cs.take (i + 1)).map (rowS (spotOf cs))).map V.str)) := fun c d H5 r s5 hp5 er => by
        refine ⟨c, d, rfl, fun b o e => ?_, ?_⟩
        · rw [upd_ne (ne_of_none e hp0)]; exact s5 b o e
        · rw [upd_same, take_snoc hz, List.map_append, List.map_append, er]; rfl
      refine ⟨_, rfl, _, _, rfl, rfl, (by show (0 : Int) < 5; decide), _, _, rfl, rfl, _, rfl, ?_⟩
      refine ite2d (fun h1 => ?_) (fun h1 => ?_)
      · have ll := ln_small z
        have hc5 : (Str.ofString "come ").length = 5 := by decide +kernel
        have hc1 : (Str.ofString " ").length = 1 := by decide +kernel
        refine ⟨_, rfl, .inl ⟨rfl, _, SqL.of hp4⟩, _, rfl, _, _, rfl, rfl, sz_le (by rw [hc5]; omega), _, _, rfl, rfl, sz_le (by rw [Str.length_append, hc5, hc1]; omega), ?_⟩
        refine ⟨_, rfl, sz_le (by show 8 ≤ 100000; decide), fun t2 ht2 => ?_⟩
        have npt2 : p ≠ t2 := ne_of_none hp4 ht2
        refine ⟨_, rfl, _, _, rfl, rfl, ⟨by decide, by decide⟩, _, _, rfl, rfl, (by show (0 : Int) < 8; decide), t2, lensI.map V.int, _, _, rfl, rfl, SqL.of upd_same, ln_at z, _, rfl, ll.1, _, _, rfl, rfl, sz_le (by rw [Str.length_append, Str.length_append, hc5, hc1]; have := ll.2; omega), ?_⟩
        refine ⟨p, _, _, rfl, rfl, (by rw [upd_ne npt2]; exact hp4), sz_lt (by simp; omega), ?_⟩
        refine fin _ _ _ _ (s4.trans (upd_same_of ht2)) (by rw [upd_ne npt2]; exact hp4) ?_
        unfold rowS; rw [if_pos h1]
      · refine ⟨_, rfl, _, _, rfl, rfl, (by show (0 : Int) < 5; decide), rfl, _, rfl, ?_⟩
        refine ite2d (fun h2 => ?_) (fun h2 => ?_)
        · have hc6 : (Str.ofString "leave ").length = 6 := by decide +kernel
          have h2' : z % 5 = 3 := V.int.inj h2
          refine ⟨_, rfl, .inl ⟨rfl, _, SqL.of hp4⟩, _, rfl, _, _, rfl, rfl, sz_le (by rw [hc6]; omega), p, _, _, rfl, rfl, hp4, sz_lt (by simp; omega), ?_⟩
          refine fin _ _ _ _ s4 hp4 ?_
          unfold rowS; rw [if_neg h1, if_pos h2']
        · have h2' : ¬ z % 5 = 3 := fun e => h2 (congrArg V.int e)
          refine ⟨_, rfl, .inl ⟨rfl, _, SqL.of hp4⟩, p, _, _, rfl, rfl, hp4, sz_lt (by simp; omega), ?_⟩
          refine fin _ _ _ _ s4 hp4 ?_
          unfold rowS; rw [if_neg h1, if_neg h2']
    · rintro σ H2 ⟨c, d, rfl, s3, hp3⟩
      rw [List.length_map, List.take_length] at hp3
      exact ⟨_, rfl, k p H2 hp0 s3 hp3⟩
end
end Bl
namespace Bl
open PySem
/-! ### a quay, without the heap: ships (name, first metre, length) in the order of the first metres -/
abbrev Ship := Str × Int × Int
def rowsOf (S : List Ship) : List Rw := S.map (·.2)
inductive Deed where
  | come (n : Str) (l : Int) | leave (n : Str) | up
def there (S : List Ship) (n : Str) : Bool := S.any fun s => s.1 == n
def placeS (g q : Int) (S : List Ship) (n : Str) (l : Int) : Option Int := if l < 1 then none else if there S n = true then none else fp l g q 0 (rowsOf S)
def ins (s : Ship) : List Ship → List Ship
  | [] => [s]
  | t :: r => if s.2.1 < t.2.1 then s :: t :: r else t :: ins s r
def upS (g : Int) : Int → List Ship → List Ship
  | _, [] => []
  | e, s :: r => (s.1, e, s.2.2) :: upS g (e + s.2.2 + g) r
def metresS (g : Int) : Int → List Ship → Int
  | _, [] => 0
  | e, s :: r => (s.2.1 - e) + metresS g (e + s.2.2 + g) r
def numS (i : Int) : Str := Str.ofString (toString i)
def stepS (g q : Int) (S : List Ship) : Deed → List Ship × Str
  | .come n l => match placeS g q S n l with
    | some p => (ins (n, p, l) S, numS p)
    | none => (S, "no")
  | .leave n => if there S n = true then (S.filter fun s => !(s.1 == n), "gone") else (S, "no")
  | .up => (upS g 0 S, numS (metresS g 0 S))
structure QInv (g q : Int) (S : List Ship) : Prop where
  sp : Spaced g 0 (rowsOf S)
  wi : Within q (rowsOf S)
  nd : (S.map (·.1)).Nodup
theorem ins_mem {s t : Ship} : ∀ {S : List Ship}, t ∈ ins s S ↔ t = s ∨ t ∈ S
  | [] => by simp [ins]
  | u :: r => by
    unfold ins
    split
    · simp
    · simp only [List.mem_cons, ins_mem (S := r)]
      constructor
      · rintro (h | h | h)
        · exact .inr (.inl h)
        · exact .inl h
        · exact .inr (.inr h)
      · rintro (h | h | h)
        · exact .inr (.inl h)
        · exact .inl h
        · exact .inr (.inr h)
theorem ins_perm (s : Ship) : ∀ S : List Ship, (ins s S).Perm (s :: S)
  | [] => List.Perm.refl _
  | t :: r => by
    unfold ins
    split
    · exact List.Perm.refl _
    · exact ((ins_perm s r).cons t).trans (List.Perm.swap s t r)
theorem clear_all {l g p : Int} {rs : List Rw} (h : clear l g rs p = true) : ∀ r ∈ rs, r.1 + r.2 + g ≤ p ∨ p + l + g ≤ r.1 := fun r hr => by
  simp only [clear, Bool.not_eq_true', List.any_eq_false] at h
  have := h r hr
  simp only [meets] at this
  simp at this
  omega
theorem ins_spaced {g l p : Int} {n : Str} (hl : 1 ≤ l) (hg : 0 ≤ g) : ∀ {S : List Ship} {e : Int}, Spaced g e (rowsOf S) → e ≤ p → (∀ r ∈ rowsOf S, r.1 + r.2 + g ≤ p ∨ p + l + g ≤ r.1) → Spaced g e (rowsOf (ins (n, p, l) S))
  | [], e, _, he, _ => ⟨he, hl, trivial⟩
  | t :: r, e, h, he, hc => by
    obtain ⟨h1, h2, h3⟩ := h
    have h1 : e ≤ t.2.1 := h1
    have h2 : 1 ≤ t.2.2 := h2
    have hct := hc t.2 List.mem_cons_self
    unfold ins
    by_cases hp : p < t.2.1
    · rw [if_pos (show (n, p, l).2.1 < t.2.1 from hp)]
      refine ⟨he, hl, ?_, h2, h3⟩
      show p + l + g ≤ t.2.1
      omega
    · rw [if_neg (show ¬ (n, p, l).2.1 < t.2.1 from hp)]
      exact ⟨h1, h2, ins_spaced hl hg h3 (by show t.2.1 + t.2.2 + g ≤ p; omega) fun r hr => hc r (List.mem_cons_of_mem _ hr)⟩
theorem filter_spaced {g : Int} (hg : 0 ≤ g) (f : Ship → Bool) : ∀ {S : List Ship} {e : Int}, Spaced g e (rowsOf S) → Spaced g e (rowsOf (S.filter f))
  | [], _, _ => trivial
  | s :: S, e, h => by
    obtain ⟨h1, h2, h3⟩ := h
    rw [List.filter_cons]
    split
    · exact ⟨h1, h2, filter_spaced hg f h3⟩
    · exact (filter_spaced hg f h3).low (by omega)
theorem up_spaced {g : Int} : ∀ {S : List Ship} {e e' : Int}, Spaced g e' (rowsOf S) → Spaced g e (rowsOf (upS g e S))
  | [], _, _, _ => trivial
  | s :: S, e, e', h => by
    obtain ⟨h1, h2, h3⟩ := h
    exact ⟨Int.le_refl _, h2, up_spaced h3⟩
theorem up_within {g q : Int} (hg : 0 ≤ g) : ∀ {S : List Ship} {e e' : Int}, Spaced g e' (rowsOf S) → Within q (rowsOf S) → e ≤ e' → Within q (rowsOf (upS g e S))
  | [], _, _, _, _, _ => fun r hr => by simp [rowsOf, upS] at hr
  | s :: S, e, e', h, hw, he => by
    obtain ⟨h1, h2, h3⟩ := h
    have h1 : e' ≤ s.2.1 := h1
    have h2 : 1 ≤ s.2.2 := h2
    have hs : s.2.1 + s.2.2 ≤ q := hw s.2 List.mem_cons_self
    intro r hr
    rcases List.mem_cons.mp (show r ∈ (e, s.2.2) :: rowsOf (upS g (e + s.2.2 + g) S) from hr) with rfl | hr
    · show e + s.2.2 ≤ q
      omega
    · exact up_within hg h3 (fun x hx => hw x (List.mem_cons_of_mem _ hx)) (show e + s.2.2 + g ≤ s.2.1 + s.2.2 + g by omega) r hr
theorem up_names {g : Int} : ∀ {S : List Ship} {e : Int}, (upS g e S).map (·.1) = S.map (·.1)
  | [], _ => rfl
  | s :: S, e => by simp only [upS, List.map_cons, up_names]
theorem up_lens {g : Int} : ∀ {S : List Ship} {e : Int}, (upS g e S).map (fun s => (s.1, s.2.2)) = S.map (fun s => (s.1, s.2.2))
  | [], _ => rfl
  | s :: S, e => by simp only [upS, List.map_cons, up_lens]
theorem there_iff {S : List Ship} {n : Str} : there S n = true ↔ n ∈ S.map (·.1) := by
  simp only [there, List.any_eq_true, List.mem_map, beq_iff_eq]
theorem place_ok {g q l p : Int} {S : List Ship} {n : Str} (I : QInv g q S) (hg : 0 ≤ g) (hq : 0 ≤ q) (h : placeS g q S n l = some p) : 1 ≤ l ∧ there S n = false ∧ 0 ≤ p ∧ p + l ≤ q ∧ clear l g (rowsOf S) p = true ∧ ∀ x, 0 ≤ x → x < p → clear l g (rowsOf S) x = false := by
  unfold placeS at h
  split at h
  · cases h
  · split at h
    · cases h
    · rename_i h1 h2
      have hl : 1 ≤ l := by omega
      have sp := fp_spec hl hg hq (rowsOf S) (rowsOf S) 0 I.sp I.wi (Int.le_refl 0) (fun _ _ => rfl) (fun x a b => by omega)
      rw [h] at sp
      exact ⟨hl, by simpa using h2, sp⟩
theorem place_none {g q l : Int} {S : List Ship} {n : Str} (I : QInv g q S) (hg : 0 ≤ g) (hq : 0 ≤ q) (hl : 1 ≤ l) (hn : there S n = false) (h : placeS g q S n l = none) : ∀ x, 0 ≤ x → x + l ≤ q → clear l g (rowsOf S) x = false := by
  unfold placeS at h
  rw [if_neg (by omega), if_neg (by rw [hn]; exact Bool.false_ne_true)] at h
  have sp := fp_spec hl hg hq (rowsOf S) (rowsOf S) 0 I.sp I.wi (Int.le_refl 0) (fun _ _ => rfl) (fun x a b => by omega)
  rw [h] at sp
  exact sp
theorem QInv.step {g q : Int} {S : List Ship} (I : QInv g q S) (hg : 0 ≤ g) (hq : 0 ≤ q) (d : Deed) : QInv g q (stepS g q S d).1 := by
  cases d with
  | come n l =>
    cases e : placeS g q S n l with
    | none => simp only [stepS, e]; exact I
    | some p =>
      simp only [stepS, e]
      obtain ⟨hl, hn, h0, hp, hc, _⟩ := place_ok I hg hq e
      refine ⟨ins_spaced hl hg I.sp h0 (clear_all hc), fun r hr => ?_, ?_⟩
      · obtain ⟨t, ht, rfl⟩ := List.mem_map.mp hr
        rcases ins_mem.mp ht with rfl | ht
        · exact hp
        · exact I.wi _ (List.mem_map_of_mem ht)
      · have := ((ins_perm (n, p, l) S).map (·.1)).nodup_iff.mpr (List.nodup_cons.mpr ⟨fun z => absurd (there_iff.mpr z) (by rw [hn]; exact Bool.false_ne_true), I.nd⟩)
        exact this
  | leave n =>
    by_cases h : there S n = true
    · simp only [stepS, if_pos h]
      refine ⟨filter_spaced hg _ I.sp, fun r hr => ?_, ?_⟩
      · obtain ⟨t, ht, rfl⟩ := List.mem_map.mp hr
        exact I.wi _ (List.mem_map_of_mem (List.mem_filter.mp ht).1)
      · exact I.nd.sublist ((List.filter_sublist (l := S)).map (·.1))
    · simp only [stepS, if_neg h]; exact I
  | up => exact ⟨up_spaced I.sp, up_within hg I.sp I.wi (Int.le_refl 0), by show ((upS g 0 S).map (·.1)).Nodup; rw [up_names]; exact I.nd⟩
def runS (g q : Int) : List Ship → List Deed → List Ship × List Str
  | S, [] => (S, [])
  | S, d :: ds => ((runS g q (stepS g q S d).1 ds).1, (stepS g q S d).2 :: (runS g q (stepS g q S d).1 ds).2)
theorem QInv.run {g q : Int} (hg : 0 ≤ g) (hq : 0 ≤ q) : ∀ (ds : List Deed) {S : List Ship}, QInv g q S → QInv g q (runS g q S ds).1
  | [], _, I => I
  | d :: ds, _, I => QInv.run hg hq ds (I.step hg hq d)
theorem QInv.nil {g q : Int} : QInv g q [] := ⟨trivial, fun r hr => by simp [rowsOf] at hr, List.nodup_nil⟩
theorem runS_snoc (g q : Int) (d : Deed) : ∀ (ds : List Deed) (S : List Ship), runS g q S (ds ++ [d]) = ((stepS g q (runS g q S ds).1 d).1, (runS g q S ds).2 ++ [(stepS g q (runS g q S ds).1 d).2])
  | [], S => rfl
  | e :: ds, S => by simp only [List.cons_append, runS, runS_snoc g q d ds]
end Bl
namespace Bl
open PySem L2 Builtin Builtin.Str StrLaws
def pos32 : List Nat → List Nat
  | [] => []
  | c :: cs => if c = 32 then 0 :: (pos32 cs).map (· + 1) else (pos32 cs).map (· + 1)
theorem sp_cps : (Str.ofString " ").cps = #[32] := by decide +kernel
theorem sp_len : (Str.ofString " ").length = 1 := by decide +kernel
theorem subAt_sp {x : Str} {i : Nat} (h : i < x.cps.size) : subAt x " " i = decide (x.cps.toList[i]? = some 32) := by
  unfold subAt
  rw [sp_len, sp_cps]
  have e : x.cps.extract i (i + 1) = #[x.cps[i]] := by
    apply Array.ext
    · simp; omega
    · intro j h1 h2
      have : j = 0 := by simp at h2; omega
      subst this
      simp
  rw [e]
  have e2 : x.cps.toList[i]? = some x.cps[i] := by simp [h]
  rw [e2]
  by_cases q : x.cps[i] = 32
  · simp [q]
  · simp [q]
theorem occ_go (x : Str) : ∀ (k a : Nat) (st : Array Nat × Nat), a + k = x.length + 1 → st.1.size ≤ a → st.2 ≤ a →
    (forIn (List.range' a k) st (occBody x " " x.length (x.length + 1))).run.1.toList = st.1.toList ++ (pos32 (x.cps.toList.drop a)).map (· + a)
  | 0, a, st, h, h1, h2 => by
    have hl : x.length = x.cps.toList.length := by simp [Str.length]
    have e : x.cps.toList.drop a = [] := List.drop_of_length_le (by omega)
    rw [e]
    simp [pos32]
  | k + 1, a, st, h, h1, h2 => by
    have hl : x.length = x.cps.toList.length := by simp [Str.length]
    rw [List.range'_succ, List.forIn_cons]
    by_cases ha : a < x.length
    · have hsz : a < x.cps.size := by simpa [Str.length] using ha
      have ed : x.cps.toList.drop a = x.cps.toList[a]'(by omega) :: x.cps.toList.drop (a + 1) := List.drop_eq_getElem_cons (by omega)
      have eg : x.cps.toList[a]? = some (x.cps.toList[a]'(by omega)) := List.getElem?_eq_getElem _
      rw [ed]
      by_cases hc : x.cps.toList[a]'(by omega) = 32
      · have hb : occBody x " " x.length (x.length + 1) a st = pure (ForInStep.yield (st.1.push a, a + 1)) := by
          unfold occBody
          rw [if_pos]
          · rw [sp_len]
          · refine ⟨⟨⟨by omega, h2⟩, by rw [sp_len]; omega⟩, ?_⟩
            rw [subAt_sp hsz, eg, hc]; rfl
        rw [hb, pure_bind]
        rw [occ_go x k (a + 1) (st.1.push a, a + 1) (by omega) (by simp; omega) (Nat.le_refl _)]
        simp only [pos32, if_pos hc, Array.toList_push, List.map_cons, List.map_map, List.append_assoc, List.singleton_append, Nat.zero_add]
        congr 2
        apply List.map_congr_left
        intro b _
        show b + (a + 1) = b + 1 + a
        omega
      · have hb : occBody x " " x.length (x.length + 1) a st = pure (ForInStep.yield st) := by
          unfold occBody
          rw [if_neg]
          rintro ⟨_, q⟩
          rw [subAt_sp hsz, eg] at q
          exact hc (Option.some.inj (of_decide_eq_true q))
        rw [hb, pure_bind]
        rw [occ_go x k (a + 1) st (by omega) (by omega) (by omega)]
        simp only [pos32, if_neg hc, List.map_map]
        congr 1
        apply List.map_congr_left
        intro b _
        show b + (a + 1) = b + 1 + a
        omega
    · have hb : occBody x " " x.length (x.length + 1) a st = pure (ForInStep.yield st) := by
        unfold occBody
        rw [if_neg]
        rintro ⟨⟨_, q⟩, _⟩
        rw [sp_len] at q
        omega
      rw [hb, pure_bind]
      rw [occ_go x k (a + 1) st (by omega) (by omega) (by omega)]
      have e1 : x.cps.toList.drop a = [] := List.drop_of_length_le (by omega)
      have e2 : x.cps.toList.drop (a + 1) = [] := List.drop_of_length_le (by omega)
      rw [e1, e2]
      rfl
theorem occ_sp (x : Str) : occurrences x " " 0 x.length (x.length + 1) = pos32 x.cps.toList := by
  rw [occ_eq]
  have := occ_go x (x.length + 1) 0 (#[], 0) (by omega) (Nat.le_refl _) (Nat.le_refl _)
  simpa using this
theorem pos_no {a : List Nat} (h : 32 ∉ a) : pos32 a = [] := by
  induction a with
  | nil => rfl
  | cons c cs ih =>
    have h1 : ¬ c = 32 := fun e => h (by simp [e])
    have h2 : 32 ∉ cs := fun e => h (by simp [e])
    simp only [pos32, if_neg h1, ih h2, List.map_nil]
theorem pos_sep {a : List Nat} (b : List Nat) (h : 32 ∉ a) : pos32 (a ++ 32 :: b) = a.length :: (pos32 b).map (· + (a.length + 1)) := by
  induction a with
  | nil => simp [pos32]
  | cons c cs ih =>
    have h1 : ¬ c = 32 := fun e => h (by simp [e])
    have h2 : 32 ∉ cs := fun e => h (by simp [e])
    simp only [List.cons_append, pos32, if_neg h1, ih h2, List.map_cons, List.map_map, List.length_cons]
    congr 1
theorem str_ext {x y : Str} (h : x.cps.toList = y.cps.toList) : x = y := by
  cases x; cases y
  simp only [Str.mk.injEq]
  exact Array.ext' h
theorem app_cps (x y : Str) : (x ++ y).cps.toList = x.cps.toList ++ y.cps.toList := by
  show (x.cps ++ y.cps).toList = _
  simp
theorem sub_is {x a : Str} {u v : List Nat} (h : x.cps.toList = u ++ (a.cps.toList ++ v)) : strSub x u.length (u.length + a.cps.toList.length) = a := by
  apply str_ext
  show (x.cps.extract u.length (u.length + a.cps.toList.length)).toList = _
  rw [Array.toList_extract, h, List.extract]
  simp
theorem len_cps (x : Str) : x.length = x.cps.toList.length := by simp [Str.length]
theorem split3 {a b c : Str} (ha : 32 ∉ a.cps.toList) (hb : 32 ∉ b.cps.toList) (hc : 32 ∉ c.cps.toList) : splitS (a ++ " " ++ b ++ " " ++ c) " " = [a, b, c] := by
  have hx : (a ++ " " ++ b ++ " " ++ c).cps.toList = a.cps.toList ++ 32 :: (b.cps.toList ++ 32 :: c.cps.toList) := by
    rw [app_cps, app_cps, app_cps, app_cps, sp_cps]
    simp
  have hp : occurrences (a ++ " " ++ b ++ " " ++ c) " " 0 (a ++ " " ++ b ++ " " ++ c).length ((a ++ " " ++ b ++ " " ++ c).length + 1) = [a.cps.toList.length, b.cps.toList.length + (a.cps.toList.length + 1)] := by
    rw [occ_sp, hx, pos_sep _ ha, pos_sep _ hb, pos_no hc]
    rfl
  unfold splitS
  rw [hp, sp_len]
  show partsBetween _ _ _ = _
  unfold partsBetween
  simp only [List.map_cons, List.map_nil, List.cons_append, List.nil_append, List.zip_cons_cons, List.zip_nil_right]
  have e1 := sub_is (x := a ++ " " ++ b ++ " " ++ c) (a := a) (u := []) (v := 32 :: (b.cps.toList ++ 32 :: c.cps.toList)) (by rw [hx]; rfl)
  have e2 := sub_is (x := a ++ " " ++ b ++ " " ++ c) (a := b) (u := a.cps.toList ++ [32]) (v := 32 :: c.cps.toList) (by rw [hx]; simp)
  have e3 := sub_is (x := a ++ " " ++ b ++ " " ++ c) (a := c) (u := a.cps.toList ++ 32 :: (b.cps.toList ++ [32])) (v := []) (by rw [hx]; simp)
  have l1 : (0 : Nat) = ([] : List Nat).length := rfl
  have hl : (a ++ " " ++ b ++ " " ++ c).length = (a.cps.toList ++ 32 :: (b.cps.toList ++ [32])).length + c.cps.toList.length := by
    rw [len_cps, hx]
    simp
    omega
  simp only [List.length_append, List.length_cons, List.length_nil, Nat.zero_add] at e1 e2 e3 hl
  rw [hl]
  rw [e1]
  rw [show b.cps.toList.length + (a.cps.toList.length + 1) = a.cps.toList.length + 1 + b.cps.toList.length by omega, e2]
  rw [show a.cps.toList.length + 1 + b.cps.toList.length + 1 = a.cps.toList.length + (b.cps.toList.length + 1 + 1) by omega, e3]
theorem split2 {a b : Str} (ha : 32 ∉ a.cps.toList) (hb : 32 ∉ b.cps.toList) : splitS (a ++ " " ++ b) " " = [a, b] := by
  have hx : (a ++ " " ++ b).cps.toList = a.cps.toList ++ 32 :: b.cps.toList := by
    rw [app_cps, app_cps, sp_cps]
    simp
  have hp : occurrences (a ++ " " ++ b) " " 0 (a ++ " " ++ b).length ((a ++ " " ++ b).length + 1) = [a.cps.toList.length] := by
    rw [occ_sp, hx, pos_sep _ ha, pos_no hb]
    rfl
  unfold splitS
  rw [hp, sp_len]
  show partsBetween _ _ _ = _
  unfold partsBetween
  simp only [List.map_cons, List.map_nil, List.cons_append, List.nil_append, List.zip_cons_cons, List.zip_nil_right]
  have e1 := sub_is (x := a ++ " " ++ b) (a := a) (u := []) (v := 32 :: b.cps.toList) (by rw [hx]; rfl)
  have e2 := sub_is (x := a ++ " " ++ b) (a := b) (u := a.cps.toList ++ [32]) (v := []) (by rw [hx]; simp)
  have hl : (a ++ " " ++ b).length = a.cps.toList.length + 1 + b.cps.toList.length := by
    rw [len_cps, hx]
    simp
    omega
  simp only [List.length_append, List.length_cons, List.length_nil, Nat.zero_add] at e1 e2
  rw [hl, e1, e2]
theorem split1 {a : Str} (ha : 32 ∉ a.cps.toList) : splitS a " " = [a] := by
  unfold splitS
  rw [occ_sp, pos_no ha]
  rfl
end Bl
namespace Bl
open PySem PySem.Spec PyProof.Rows L2
/-! ### ships on the heap -/
def shV (s : Ship) : List V := [.str s.1, .int s.2.1, .int s.2.2]
def Tups (f : Ship → List V) (H : Hp) (as : List Addr) (S : List Ship) : Prop := Paired (fun a (s : Ship) => H a = some (.tup (f s))) as S
theorem Tups.mono {f : Ship → List V} {H H' : Hp} : ∀ {as : List Addr} {S : List Ship}, Tups f H as S → (∀ a xs, H a = some (.tup xs) → H' a = some (.tup xs)) → Tups f H' as S
  | _, _, .nil, _ => .nil
  | _, _, .cons r t, k => .cons (k _ _ r) (Tups.mono t k)
theorem Tups.same {f : Ship → List V} {H H' : Hp} {as : List Addr} {S : List Ship} (h : Tups f H as S) (k : Same H H') : Tups f H' as S := h.mono fun a xs e => k a _ e
theorem Tups.snoc {f : Ship → List V} {H : Hp} {a : Addr} {s : Ship} (e : H a = some (.tup (f s))) : ∀ {as : List Addr} {S : List Ship}, Tups f H as S → Tups f H (as ++ [a]) (S ++ [s])
  | _, _, .nil => .cons e .nil
  | _, _, .cons q t => .cons q (Tups.snoc e t)
theorem Tups.len {f : Ship → List V} {H : Hp} : ∀ {as : List Addr} {S : List Ship}, Tups f H as S → as.length = S.length
  | _, _, .nil => rfl
  | _, _, .cons _ t => by simp [Tups.len t]
theorem Tups.get {f : Ship → List V} {H : Hp} : ∀ {as : List Addr} {S : List Ship} {i : Nat} {a : Addr}, Tups f H as S → as[i]? = some a → ∃ s, S[i]? = some s ∧ H a = some (.tup (f s))
  | _, _, _, _, .nil, e => by simp at e
  | _, _, 0, _, .cons r _, e => by simp at e; subst e; exact ⟨_, rfl, r⟩
  | _, _, i + 1, a, .cons _ t, e => by
    obtain ⟨r, h1, h2⟩ := Tups.get (i := i) (a := a) t (by simpa using e)
    exact ⟨r, by simpa using h1, h2⟩
theorem Tups.at {f : Ship → List V} {H : Hp} {as : List Addr} {S : List Ship} {i : Nat} {s : Ship} (h : Tups f H as S) (e : S[i]? = some s) : ∃ a, as[i]? = some a ∧ H a = some (.tup (f s)) := by
  have hl := h.len
  have hi : i < S.length := (List.getElem?_eq_some_iff.mp e).1
  have ea : as[i]? = some (as[i]'(by omega)) := List.getElem?_eq_getElem (by omega)
  obtain ⟨r', h1, h2⟩ := h.get ea
  rw [e] at h1; cases h1
  exact ⟨_, ea, h2⟩
structure ShipsAt (f : Ship → List V) (H : Hp) (p : Addr) (as : List Addr) (S : List Ship) : Prop where
  ls : H p = some (.lst (as.map V.ref))
  ts : Tups f H as S
theorem ShipsAt.same {f : Ship → List V} {H H' : Hp} {p : Addr} {as : List Addr} {S : List Ship} (h : ShipsAt f H p as S) (k : Same H H') : ShipsAt f H' p as S := ⟨k _ _ h.ls, h.ts.same k⟩
theorem clear_perm {l g p : Int} {L S : List Ship} (h : L.Perm S) : clear l g (rowsOf L) p = clear l g (rowsOf S) p := by
  unfold clear
  have hp : (rowsOf L).Perm (rowsOf S) := h.map _
  have e : (rowsOf L).any (meets l g p) = (rowsOf S).any (meets l g p) := by
    rw [Bool.eq_iff_iff, List.any_eq_true, List.any_eq_true]
    exact ⟨fun ⟨x, hx, q⟩ => ⟨x, hp.mem_iff.mp hx, q⟩, fun ⟨x, hx, q⟩ => ⟨x, hp.mem_iff.mpr hx, q⟩⟩
  rw [e]
theorem there_perm {L S : List Ship} {n : Str} (h : L.Perm S) : there L n = there S n := by
  rw [Bool.eq_iff_iff, there_iff, there_iff]
  exact (h.map _).mem_iff
/-- the least place that is clear is the quay's -/
theorem place_least {g q l p : Int} {S L : List Ship} {n : Str} (I : QInv g q S) (hg : 0 ≤ g) (hq : 0 ≤ q) (hp : L.Perm S) (hl : 1 ≤ l) (hn : there L n = false) (h0 : 0 ≤ p) (h1 : p + l ≤ q) (hc : clear l g (rowsOf L) p = true)
    (hb : ∀ x, 0 ≤ x → x < p → clear l g (rowsOf L) x = false) : placeS g q S n l = some p := by
  rw [there_perm hp] at hn
  rw [clear_perm hp] at hc
  cases e : placeS g q S n l with
  | none =>
    have := place_none I hg hq hl hn e p h0 h1
    rw [this] at hc; cases hc
  | some p' =>
    obtain ⟨_, _, h0', h1', hc', hb'⟩ := place_ok I hg hq e
    rcases Int.lt_trichotomy p p' with h | h | h
    · rw [hb' p h0 h] at hc; cases hc
    · rw [h]
    · have := hb p' h0' h
      rw [clear_perm hp, hc'] at this; cases this
theorem place_nowhere {g q l : Int} {S L : List Ship} {n : Str} (I : QInv g q S) (hg : 0 ≤ g) (hq : 0 ≤ q) (hp : L.Perm S) (hb : ∀ x, 0 ≤ x → x + l ≤ q → clear l g (rowsOf L) x = false) : placeS g q S n l = none := by
  cases e : placeS g q S n l with
  | none => rfl
  | some p =>
    obtain ⟨_, _, h0, h1, hc, _⟩ := place_ok I hg hq e
    have := hb p h0 h1
    rw [clear_perm hp, hc] at this; cases this
end Bl
namespace Bl
open PySem PySem.Spec PyProof.Rows L2
def spLaw (K : PySem.W.Frag) : Sp := fun vs H Q _ => ∃ (a : Addr) (ns : List Int), vs = [.ref a] ∧ SqL K H a (ns.map V.int) ∧ ns.length ≤ 63 ∧ ∀ H', Q (.bl true) H'
theorem cut_all {ns : List Int} (h : ns.length ≤ 63) : cutV (ns.map V.int) none (some 500) = ns.map V.int := by
  have e : HT.sIx (ns.map V.int).length (ns.map V.int).length (some 500) = ns.length := by
    show HT.sIx (ns.map V.int).length (ns.map V.int).length (some ((500 : Nat) : Int)) = ns.length
    rw [HT.sIx_nat, List.length_map]; omega
  unfold cutV
  rw [e, HT.sIx_none, List.drop_zero, Nat.sub_zero, ← List.map_take, List.take_length]
theorem cut_from {ns : List Int} (k : Nat) : cutV (ns.map V.int) (some (k : Int)) none = (ns.drop k).map V.int := by
  unfold cutV
  rw [HT.sIx_nat, HT.sIx_none, List.length_map, List.map_drop]
  by_cases h : k ≤ ns.length
  · rw [Nat.min_eq_left h]
    apply List.take_of_length_le
    simp
  · have h1 : ns.length ≤ k := by omega
    rw [Nat.min_eq_right h1, Nat.sub_self, List.take_zero]
    rw [List.drop_of_length_le (by simpa using h1)]
/-- the law's promise where a code object's table is tracked -/
def spLawT (K : PySem.W.Frag) (PT : Addr) (lab : Array Value) : Sp := fun vs H Q E => H PT = some (.tbl lab) ∧ spLaw K vs H Q E
def spT (PT : Addr) (lab : Array Value) (sp : Sp) : Sp := fun vs H Q E => (∃ more, H PT = some (.tbl (lab ++ more))) ∧ sp vs H Q E
structure Fns (K : PySem.W.Frag) (mg : Str → Option Value) (x : Str) (ps : List Str) (f : Addr) (fd : FuncData) : Prop where
  gm : mg x = some (.ref f)
  kp : PySem.W.keepIn K (.ref f) = true
  bd : Binds K fd ps []
/-- what holds behind the first statement, whichever way it went -/
theorem seq_cut {t r : TS} {D : Ends} {σ : L2.St} {H : Hp} (S : L2.St → Hp → Prop) (h2 : ∀ σ' H', S σ' H' → r D σ' H') (h1 : ∀ N : L2.St → Hp → Prop, (∀ σ' H', S σ' H' → N σ' H') → t { D with nx := N } σ H) : tSeq t r D σ H := h1 (r D) h2
/-- a call whose promise asks the table: it stands since the entry -/
theorem pe_callT {X : Cx} {CX : CXT} {k : Nat} {f PT : Addr} {lab : Array Value} {fd : FuncData} {ps : List Str} {sp : Sp} {dvs : List V} {ds : List Value} {E : XK} {x : Str} {p pos : Pos} {e : Expr} {es : List Expr} {t : TA}
    (hP : X.H₀ PT = some (.tbl lab)) (F : FnOk X.prog X.w X.K X.mg X.base CX k f fd ps (spT PT lab sp)) (hr : Room k X.A) (hg : Gl X x) (hm : X.mg x = some (.ref f)) (hk : PySem.W.keepIn X.K (.ref f) = true) (hb : Binds X.K fd ps ds) (hd : Vals dvs ds) (hx : Passes CX X E)
    (ha : PA X (e :: es) t) (hdb : (x == ("__debug__" : Str)) = false := by decide) (he : starEach (e :: es) X.env = (false, eval e X.env) :: starEach es X.env := by rfl) (hpl : (backTo pos (starEach es X.env)).any (·.1) = false := by rfl) :
    PE X (.Call (.Name x p) (e :: es) [] pos) (tCall sp dvs E t) := by
  intro pins s σ H Q I h
  refine wpAny_Call_Name_kw (ld_glob I hg hm ?_ hdb)
  refine PySem.W.callWith_K (h₀ := X.base) I.ok.mod.kin hk (thn (ha pos pins s σ H _ I h) fun us s1 ⟨vs, H1, I1, r, q⟩ => ⟨I1.kIn, ?_⟩) he hpl
  exact run_fn F hr hb hd hx I1 r ⟨I1.base.tbls PT lab hP, q⟩
end Bl
namespace Bl
open PySem PySem.Spec PyProof.Rows L2
def optVQ : Option Int → V
  | some i => .int i
  | none => .non
def spFirstQ : Sp := fun vs H Q _ => ∃ (p : Addr) (as : List Addr) (rs : List Rw) (len g q : Int), vs = [.ref p, .int len, .int g, .int q] ∧ RowsAt H p as rs ∧ Q (optVQ (fp len g q 0 rs)) H
theorem drop_ofQ {α : Type} {l : List α} {i : Nat} {x : α} (h : l[i]? = some x) : l.drop i = x :: l.drop (i + 1) := by
  obtain ⟨hi, e⟩ := List.getElem?_eq_some_iff.mp h
  rw [List.drop_eq_getElem_cons hi, e]
section
variable {P : Program} {w : World} {K : PySem.W.Frag} {mg : Str → Option Value} {base : Heap}
theorem scFirstQ : FnScope ["rows", "length", "gap", "quay", "place", "first", "size"] ["rows", "length", "gap", "quay"] (defScope sFirst) := ⟨rfl, rfl, rfl, by decide +kernel, rfl, by decide +kernel, by decide +kernel⟩
theorem ok_firstQ {f : Addr} {fd : FuncData} (F : Fun K "first_place" "first_place" sFirst f fd) : FnOk P w K mg base CX0 1 f fd ["rows", "length", "gap", "quay"] spFirstQ := by
  refine F.ok scFirstQ (fun vs H Q E h => ?_) (fun cdv A outer s H vs Q E hr h => ?_)
  · obtain ⟨p, as, rs, len, g, q, rfl, _⟩ := h
    rfl
  · obtain ⟨p, as, rs, len, g, q, rfl, hR, k⟩ := h
    have nd := scFirstQ.nd
    refine ⟨_, pss_cons (ps_set (i := 4) nd rfl (Or.inl rfl) pe_int)
      (pss_cons (ps_for PassesOwn.never rfl (pi_list (pv 0)) (pg_tup rfl (pgs_cons (pg_name (i := 5) nd rfl (Or.inl rfl)) (pgs_cons (pg_name (i := 6) nd rfl (Or.inl rfl)) pgs_nil)))
        (pss_cons (ps_if (pt_cmpR op_le (pe_op op_add (pe_op op_add (pv 4) (pv 1)) (pv 2)) (pv 5) (nomark _)) (pss_one (ps_ret (pv 4))) pss_nil)
        (pss_one (ps_set (i := 4) nd rfl (Or.inl rfl) (pe_op op_add (pe_op op_add (pv 5) (pv 6)) (pv 2))))))
      (pss_cons (ps_if (pt_cmpR op_le (pe_op op_add (pv 4) (pv 1)) (pv 3) (nomark _)) (pss_one (ps_ret (pv 4))) pss_nil)
      (pss_one (ps_ret pe_non)))), ?_⟩
    refine ⟨_, rfl, p, rfl, ⟨_, SqL.of hR.ls⟩, for_list (K := K) (a := p) (xs := as.map V.ref) (fun i σ H2 => H2 = H ∧ ∃ (pl : Int) (c d : Option V),
      fp len g q 0 rs = fp len g q pl (rs.drop i) ∧ σ = [some (.ref p), some (.int len), some (.int g), some (.int q), some (.int pl), c, d])
      ⟨rfl, 0, none, none, rfl, rfl⟩ (fun i σ H2 _ ⟨e, _⟩ => by rw [e]; exact SqL.of hR.ls) ?_ ?_⟩
    · rintro i y σ H2 hi ⟨rfl, pl, c, d, ef, rfl⟩
      obtain ⟨z, hz, rfl⟩ := ref_at hi
      obtain ⟨r, hr', hzH⟩ := hR.ps.get hz
      rw [drop_ofQ hr', fp] at ef
      refine ⟨z, _, rfl, SqT.of hzH, rfl, _, _, rfl, _, _, rfl, rfl, ?_⟩
      refine ⟨_, rfl, _, rfl, _, _, rfl, rfl, _, rfl, _, _, rfl, rfl, _, rfl, _, _, rfl, rfl, _, rfl, ?_⟩
      refine ite2d (fun h1 => ?_) (fun h1 => ?_)
      · rw [ef, if_pos h1] at k
        exact ⟨_, rfl, k⟩
      · rw [if_neg h1] at ef
        refine ⟨_, rfl, _, rfl, _, _, rfl, rfl, _, rfl, _, _, rfl, rfl, ?_⟩
        exact ⟨rfl, _, _, _, ef, rfl⟩
    · rintro σ H2 ⟨rfl, pl, c, d, ef, rfl⟩
      rw [List.length_map, hR.ps.len, List.drop_length, fp] at ef
      refine ⟨_, rfl, _, rfl, _, _, rfl, rfl, _, rfl, _, _, rfl, rfl, _, rfl, ?_⟩
      refine ite2d (fun h1 => ?_) (fun h1 => ?_)
      · rw [ef, if_pos h1] at k
        exact ⟨_, rfl, k⟩
      · rw [ef, if_neg h1] at k
        exact k
end
def spMovedQ : Sp := fun vs H Q _ => ∃ (p : Addr) (as : List Addr) (rs : List Rw) (g : Int), vs = [.ref p, .int g] ∧ RowsAt H p as rs ∧ rs.length ≤ 1000 ∧
  ∀ (q : Addr) (bs : List Addr) (H' : Hp), H q = none → Same H H' → RowsAt H' q bs (mv g 0 rs) → Q (.ref q) H'
section
variable {P : Program} {w : World} {K : PySem.W.Frag} {mg : Str → Option Value} {base : Heap}
theorem scMovedQ : FnScope ["rows", "gap", "moved", "place", "row", "size"] ["rows", "gap"] (defScope sMoved) := ⟨rfl, rfl, rfl, by decide +kernel, rfl, by decide +kernel, by decide +kernel⟩
theorem ok_movedQ {f : Addr} {fd : FuncData} (F : Fun K "moved_up" "moved_up" sMoved f fd) : FnOk P w K mg base CX0 1 f fd ["rows", "gap"] spMovedQ := by
  refine F.ok scMovedQ (fun vs H Q E h => ?_) (fun cdv A outer s H vs Q E hr h => ?_)
  · obtain ⟨p, as, rs, g, rfl, _⟩ := h
    rfl
  · obtain ⟨p, as, rs, g, rfl, hR, hlen, k⟩ := h
    have nd := scMovedQ.nd
    refine ⟨_, pss_cons (ps_set (i := 2) nd rfl (Or.inl rfl) (pe_lst pa_nil))
      (pss_cons (ps_set (i := 3) nd rfl (Or.inl rfl) pe_int)
      (pss_cons (ps_for PassesOwn.never rfl (pi_list (pv 0)) (pg_name (i := 4) nd rfl (Or.inl rfl))
        (pss_cons (ps_set (i := 5) nd rfl (Or.inl rfl) (pe_ix ix_tup (pv 4) pe_int (fun _ _ => rfl)))
        (pss_cons (ps_expr (pe_bm PySem.F.plainAttrs_list PySem.F.slot_list_append PySem.F.type_list_append mt_append (pv 2) (pa_cons (pe_tup (pa_cons (pv 3) (pa_cons (pv 5) pa_nil))) pa_nil)))
        (pss_one (ps_set (i := 3) nd rfl (Or.inl rfl) (pe_op op_add (pe_op op_add (pv 3) (pv 5)) (pv 1)))))))
      (pss_one (ps_ret (pv 2))))), ?_⟩
    refine ⟨Nat.zero_le _, fun q hq => ?_⟩
    have s0 : Same H (upd H q (.lst [])) := upd_same_of hq
    refine ⟨_, rfl, p, rfl, ⟨_, SqL.of (s0 _ _ hR.ls)⟩, for_list (K := K) (a := p) (xs := as.map V.ref) (fun i σ H2 => ∃ (bs : List Addr) (c f : Option V),
      σ = [some (.ref p), some (.int g), some (.ref q), some (.int (mvEnd g 0 (rs.take i))), c, f] ∧ H2 q = some (.lst (bs.map V.ref)) ∧ Pairs H2 bs (mv g 0 (rs.take i)) ∧ Same H H2)
      ⟨[], none, none, rfl, upd_same, .nil, s0⟩ (fun i σ H2 _ ⟨_, _, _, _, _, _, s2⟩ => SqL.of (s2 _ _ hR.ls)) ?_ ?_⟩
    · rintro i y σ H2 hi ⟨bs, c, f, rfl, hq2, hps, s2⟩
      obtain ⟨z, hz, rfl⟩ := ref_at hi
      obtain ⟨r, hr', hzH⟩ := hR.ps.get hz
      have hil : i < rs.length := (List.getElem?_eq_some_iff.mp hr').1
      have hbl : bs.length = i := by
        have := hps.len
        rw [mv_length, List.length_take] at this
        omega
      refine ⟨_, rfl, z, _, _, V.int r.2, rfl, rfl, SqT.of (s2 _ _ hzH), atI_nat (j := 1) rfl, ?_⟩
      refine ⟨_, rfl, .inl ⟨rfl, _, SqL.of hq2⟩, ?_⟩
      refine ⟨_, rfl, _, rfl, sz_le (by show 2 ≤ 100000; decide), fun t ht => ?_⟩
      have nqt : q ≠ t := ne_of_none hq2 ht
      refine ⟨q, _, _, rfl, rfl, (by rw [upd_ne nqt]; exact hq2), sz_lt (by rw [List.length_map]; omega), ?_⟩
      refine ⟨_, rfl, _, rfl, _, _, rfl, rfl, _, rfl, _, _, rfl, rfl, ?_⟩
      refine ⟨bs ++ [t], some (.ref z), some (.int r.2), ?_, ?_, ?_, ?_⟩
      · rw [take_snoc hr', mvEnd_snoc]
        rfl
      · rw [upd_same, List.map_append]
        rfl
      · rw [take_snoc hr', mv_snoc]
        refine Pairs.snoc ?_ (hps.mono fun b xs e => ?_)
        · rw [upd_ne (Ne.symm nqt), upd_same]
        · rw [upd_ne (ne_of e hq2 (by intro z; cases z)), upd_ne (ne_of_none e ht)]
          exact e
      · intro b o e
        have e2 := s2 b o e
        rw [upd_ne (ne_of_none e hq), upd_ne (ne_of_none e2 ht)]
        exact e2
    · rintro σ H2 ⟨bs, c, f, rfl, hq2, hps, s2⟩
      rw [List.length_map, hR.ps.len, List.take_length] at hps
      exact ⟨_, rfl, k q bs H2 hq s2 ⟨hq2, hps⟩⟩
end
end Bl
namespace L2
open PySem PySem.Spec PyProof.Rows PySem.W
/-! ### a lambda x: x[1], made in a def's body; the table of the def's code object is tracked -/
def labOf (pos : Pos) (q : Str) : Array Value := #[rawInt pos.line, rawInt pos.col, .str q 0]
/-- a def of the text that may raise, its code's value known -/
theorem Fun.okRC {P : Program} {w : World} {K : PySem.W.Frag} {mg : Str → Option Value} {base : Heap} {x qual : Str} {st : Stmt} {f : Addr} {fd : FuncData} {N ps : List Str} {k : Nat} {sp : Sp} {cdv : Value} (F : Fun K x qual st f fd) (hc : fd.code = cdv) (S : FnScope N ps (defScope st)) (len : ∀ vs H Q E, sp vs H Q E → vs.length = ps.length)
    (hbody : ∀ (A : Around) (outer : List Env) (s : Shared) (H : Hp) (vs : List V) (Q : VK) (E : XK), Room k (A.deeper (envOfC qual (defScope st) s.heap.objs.size f cdv)) → sp vs H Q E →
      ∃ t, PSs (cxR P w K mg base N qual (defScope st) f cdv A outer s H E) (defBody st) t ∧ t { nx := fun _ H' => Q .non H', rt := Q } (start N vs) H) : FnOk P w K mg base (CX1 P w) (k + 1) f fd ps sp := by
  obtain ⟨oc, od, kV, doc, pm, an, cdv', ct, osl, rfl, lk, hcd⟩ := F.ex
  have e : cdv' = cdv := hc
  subst e
  exact fn_of lk hcd S len fun A outer s H vs Q E hr hsp => hbody A outer s H vs Q E hr hsp
structure LamAt (X : Cx) (P c : Addr) : Prop where
  code : X.env.code = .ref c
  hd : codeHdIn X.K c P = true
  bm : X.base.BuiltinsAt X.mg P
  gP : mainGlobals ≠ P
abbrev lamArgs (ap : Pos) : Arguments := { posonlyargs := [], args := [{ arg := "ship", annotation := none, pos := ap }], vararg := none, kwonlyargs := [], kw_defaults := [], kwarg := none, defaults := [] }
abbrev lamScope : Scope := { kind := .function, names := [(Str.ofString "ship", .local)], isGenerator := false, isCoroutine := false, more := [] }
abbrev lamBody (p1 p2 p3 : Pos) : Expr := .Subscript (.Name "ship" p1) (.Constant (.int 1) 0 p2) p3
section
variable {X : Cx} {pins : List (Addr × Obj)} {σ : St} {H : Hp} {s : Shared} {P c : Addr} {lp : Pos} {params : Arguments} {body : Expr} {more : Array Value}
theorem lam_made (I : Inv X pins σ H s) (L : LamAt X P c) (hP : H P = some (.tbl (labOf lp (X.env.qual ++ "<lambda>") ++ more))) (hdef : defaultsOf params X.env = ([], [])) {Q : Value → Shared → Prop} {E : Value → Shared → Prop}
    (hQ : ∀ f c' pm ctv H' s', Inv X pins σ H' s' → Same H H' → s'.heap.get? f = some (kla_obj "<lambda>" (X.env.qual ++ "<lambda>") params body lamScope [] pm c' ctv) → f ≠ X.env.locals → X.base.get? f = none →
      s'.heap.CodeRec (.ref c') (X.env.qual ++ "<lambda>") → H' c' = some (.own P) → Q (.ref f) s') : wpAny (model X.prog X.w) X.A (eval (.Lambda params body lamScope lp) X.env) Q E s := by
  obtain ⟨qs, hq, r⟩ := (show ObjOk X.prog X.w H s.heap P (.tbl _) from I.hok P _ hP)
  obtain ⟨bm, ob, b1, b2, b3, b4, b5, b6⟩ := L.bm
  have hb : s.heap.BuiltinsAt X.mg P := ⟨bm, ob, b1, b2, b3, b4, I.bk _ _ b5, b6⟩
  have C := codeHd_of_K I.kIn L.hd
  have hg := I.mod.glob.keeps I.bk
  refine kla_eval hdef ?_
  have baseN : ∀ {f : Addr}, s.heap.objs.size ≤ f → f ≠ X.env.locals ∧ X.base.get? f = none := fun {f} hf => ⟨Nat.ne_of_gt (Nat.lt_of_lt_of_le I.lt hf), by
    cases z : X.base.get? f with
    | none => rfl
    | some o => exact absurd (Heap.lt_size (I.bk f o z)) (Nat.not_lt.mpr hf)⟩
  rcases r with rfl | ⟨c', oc, vs, l, kk, q, t, t', mo, h1, rfl, h3, h4, h5, h6⟩
  · refine kla_makeFunction (mg := X.mg) (clos := []) rfl I.ok.glob hg L.code C hq trivial rfl L.gP hb fun c' ctv h' tk hx hge hlt hrec htb => ?_
    obtain ⟨c2, oc, vs, t, e2, hoc, hd, hv⟩ := hrec
    cases e2
    have hc0 : H c' = none := I.hok.fresh hge
    have hf0 : s.heap.objs.size ≤ h'.objs.size := Nat.le_trans hge (Nat.le_of_lt hlt)
    have dn : ∀ b, H b = none → b ≠ P := fun b n z => by subst z; rw [n] at hP; cases hP
    have keepB : ∀ (fo : Obj) b o, b ≠ P → s.heap.get? b = some o → (h'.push fo).get? b = some o := fun fo b o hb e => Heap.get?_push_of_some _ (hx b o hb e)
    have I1 : ∀ fo : Obj, Inv X pins σ (upd H c' (.own P)) { s with heap := h'.push fo, toks := tk } := fun fo => by
      refine I.step (g' := s.gens) (d' := s.drawn) (ch := []) (fun _ z => nomatch z) (fun b o _ _ _ e n => keepB fo b o (dn b n) e) (fun b o _ _ _ e n => ⟨o.slots, keepB fo b o (dn b n) e⟩) (fun b o _ e n => ?_) (fun b o _ e => ?_)
        (fun b xs e => by rw [upd_ne (ne_of_none e hc0)]; exact e) (fun b o u e => by rw [upd_ne (ne_of_none e hc0)]; exact e) (fun b ps e => ⟨#[], by rw [upd_ne (ne_of_none e hc0), e]; simp⟩) (fun m' hm' => (hm'.extBut hx (dn _ I.free)).push _) (fun b u e => ?_) I.bare
      · rw [upd_ne (fun z => by rw [z] at e; exact absurd (Heap.lt_size e) (Nat.not_lt.mpr hge))]
        exact n
      · by_cases hb : b = P
        · subst hb; exact ⟨_, Heap.get?_push_of_some _ htb⟩
        · exact ⟨o, keepB fo b o hb e⟩
      · by_cases hbc : b = c'
        · subst hbc
          rw [upd_same] at e
          cases e
          exact ⟨_, Heap.get?_push_of_some _ hoc⟩
        · rw [upd_ne hbc] at e
          by_cases hbP : b = P
          · subst hbP
            rw [hP] at e
            cases e
            exact ⟨_, Heap.get?_push_of_some _ htb, .inr ⟨c', oc, vs, rawInt lp.line, rawInt lp.col, X.env.qual ++ "<lambda>", 0, t, more.toList, by simp [labOf], by simp, upd_same, Heap.get?_push_of_some _ hoc, hd, hv⟩⟩
          · refine (I.hok b u e).stay (fun c v hc q => keepB fo c v ?_ q) (fun c q => by rw [upd_ne (ne_of_none q hc0)]; exact q) fun c xs q => by rw [upd_ne (ne_of_none q hc0)]; exact q
            rcases hc with rfl | hc
            · exact hbP
            · intro z; subst z; rw [hP] at hc; cases hc
    exact hQ _ c' _ ctv _ _ (I1 _) (fun b o e => by rw [upd_ne (ne_of_none e hc0)]; exact e) (Heap.get?_push_size _ rfl) (baseN hf0).1 (baseN hf0).2 ⟨c', oc, vs, t, rfl, Heap.get?_push_of_some _ hoc, hd, hv⟩ upd_same
  · have e1 : rawInt lp.line :: rawInt lp.col :: Value.str (X.env.qual ++ "<lambda>") 0 :: more.toList = l :: kk :: .str q t :: mo := by rw [← h1]; simp [labOf]
    obtain ⟨e2, e3⟩ := List.cons.inj e1
    obtain ⟨e4, e5⟩ := List.cons.inj e3
    obtain ⟨e6, e7⟩ := List.cons.inj e5
    clear e1 e3 e5 e7 h1
    subst e2 e4
    cases e6
    refine kla_makeFunctionHit (mg := X.mg) (clos := []) (cv := .ref c') rfl I.ok.glob hg L.code C hq (show True from trivial) (by simp [codeAmong, rawInt]) hb fun ctv h' tk hk hsz => ?_
    have I1 : ∀ fo : Obj, Inv X pins σ H { s with heap := h'.push fo, toks := tk } := fun fo => I.kept fun b o e => Heap.get?_push_of_some _ (hk b o e)
    exact hQ _ c' _ ctv _ _ (I1 _) (Same.refl H) (Heap.get?_push_size _ rfl) (baseN hsz).1 (baseN hsz).2 ⟨c', oc, vs, t', rfl, Heap.get?_push_of_some _ (hk _ _ h4), h5, h6⟩ h3
end
/-- a call of the lambda -/
theorem lam_call {prog : Program} {w : World} {A : Around} {s : Shared} {f c' a : Addr} {qual : Str} {ap p1 p2 p3 : Pos} {pm ctv : Value} {its : List Value} {k : Int} {tk : Tok} {Q : Value → Shared → Prop} {E : Value → Shared → Prop}
    (hroom : A.depth < recursionLimit) (hlim : s.heap.NoLimit) (ho : s.heap.get? f = some (kla_obj "<lambda>" qual (lamArgs ap) (lamBody p1 p2 p3) lamScope [] pm c' ctv)) (hcd : s.heap.CodeRec (.ref c') qual)
    (ht : IsTup s.heap a its.toArray) (h1 : its[1]? = some (.int k tk)) (hQ : ∀ h' tk', (∀ b o, s.heap.get? b = some o → h'.get? b = some o) → Q (.int k tk) { s with heap := h', toks := tk' }) :
    wpAny (model prog w) A (call (.ref f) [.ref a]) Q E s := by
  refine wpAny_call (kla_callFunE hroom ho rfl rfl rfl rfl hcd ?_)
  have hb : bindArgs (kla_fn "<lambda>" qual (lamArgs ap) (lamBody p1 p2 p3) lamScope [] pm (.ref c') ctv) ⟨[.ref a], []⟩ = pure [(Str.ofString "ship", .ref a)] := rfl
  rw [hb]
  refine wpAny_pure (wpAny_newFunctionEnv (fun y hy => by rw [List.mem_singleton.mp (show y ∈ [(Str.ofString "ship", NameKind.local)] from hy)]; exact fun z => nomatch z) (fun y hy => by rw [List.mem_singleton.mp hy]; rfl) (fun h₁ hns hsb => ⟨hlim.fresh _ hsb, ?_⟩) rfl)
  have hk₁ : ∀ b o, s.heap.get? b = some o → h₁.get? b = some o := fun b o e => hsb.extBut b o (Nat.ne_of_lt (Heap.lt_size e)) (Heap.get?_push_of_some _ e)
  have hs1 : 1 < its.length := by
    have := List.getElem?_eq_some_iff.mp h1
    exact this.1
  have ht' : IsTup h₁ a its.toArray := by
    obtain ⟨o, e, r⟩ := ht
    exact ⟨o, hk₁ _ _ e, r⟩
  refine kla_codeExpr (Subscript_ (wpAny_Name (wpAny_loadName_local rfl rfl hns (show List.lookup (Str.ofString "ship") [(Str.ofString "ship", Value.ref a)].reverse = some (.ref a) from rfl) ?_) (by decide)))
  refine wpAny_Constant_int ?_
  refine subscriptTail_builtinR (x := .int k tk) ht'.typeIs slot_tuple_getitem.lookup (getItem_tuple (j := 1) (s := { s with heap := h₁, toks := _ }) ht' (by decide) (by decide) ?_ (by simpa using h1) ⟨rfl, hQ _ _ hk₁⟩) rfl
  rw [List.size_toArray]
  simp [seqIndex?]
  omega
/-! ### the heap behind a call that leaves one new list and keeps all else -/
theorem Inv.newsL {X : Cx} {pins : List (Addr × Obj)} {σ : St} {H : Hp} {s : Shared} {h' : Heap} {m : Str → Option Value} {D : Addr} {out : Array Value} {cn tk : Nat} {ys : List V} (I : Inv X pins σ H s) (F : Fr X.base X.env.locals s.heap m) (F2 : Fr X.base X.env.locals h' m)
    (N2 : News X.base X.env.locals h' ((D, seqObj "list" out cn) :: allNews X.base s.heap X.env.locals)) (hD : ∀ q ∈ allNews X.base s.heap X.env.locals, q.1 < D) (hv : Vals ys out.toList) (hz : ys.length ≤ sizeLine) :
    H D = none ∧ Inv X pins σ (upd H D (.lst ys)) { s with heap := h', toks := tk } := by
  have inNews : ∀ {b : Addr} {o : Obj}, b ≠ X.env.locals → X.base.get? b = none → s.heap.get? b = some o → (b, o) ∈ allNews X.base s.heap X.env.locals := fun h1 h2 h3 => mem_allNews h1 h2 h3
  have hrest : ∀ q ∈ allNews X.base s.heap X.env.locals, q.1 ≠ D := fun q hq => Nat.ne_of_lt (hD q hq)
  have kept : ∀ b o, b ≠ X.env.locals → s.heap.get? b = some o → h'.get? b = some o := fun b o hb e => by
    cases z : X.base.get? b with
    | some u =>
      have := I.bk b u z
      rw [e] at this; cases this
      exact F2.keep b _ z
    | none => exact (N2 (b, o) (List.mem_cons_of_mem _ (inNews hb z e))).1
  have nD : s.heap.get? D = none := by
    cases z : s.heap.get? D with
    | none => rfl
    | some o =>
      exfalso
      exact hrest (D, o) (inNews (N2 _ List.mem_cons_self).2.1 (N2 _ List.mem_cons_self).2.2 z) rfl
  have hD0 : H D = none := I.nogo nD
  have ndH : ∀ {b : Addr} {o : HO}, H b = some o → b ≠ D := fun e z => by rw [z, hD0] at e; cases e
  refine ⟨hD0, I.step (t' := tk) (g' := s.gens) (d' := s.drawn) (ch := []) (fun _ z => nomatch z) (fun b o hL _ _ e _ => kept b o hL e) (fun b o hL _ _ e _ => ⟨o.slots, kept b o hL e⟩) (fun b o _ e n => ?_) (fun b o _ e => ?_) (fun b xs e => ?_) (fun b o u e => ?_) (fun b ps e => ?_) (fun m' hm' => ?_) (fun b u e => ?_) I.bare⟩
  · rw [upd_ne (fun z => by rw [z, nD] at e; cases e)]; exact n
  · by_cases hL : b = X.env.locals
    · obtain ⟨ob, _, _, hob, _⟩ := F2.ns
      exact ⟨ob, by rw [hL]; exact hob⟩
    · exact ⟨o, kept b o hL e⟩
  · rw [upd_ne (ndH e)]; exact e
  · rw [upd_ne (ndH e)]; exact e
  · exact ⟨#[], by rw [upd_ne (ndH e), e]; simp⟩
  · obtain ⟨ob, es, ep, h1, h2, h3, h4⟩ := F2.ns
    exact ⟨ob, es, ep, h1, h2, h3, fun nm => (h4 nm).trans (ns_uniq F.ns hm' nm)⟩
  · by_cases hb : b = D
    · subst hb
      rw [upd_same] at e
      cases e
      refine ⟨hz, out.toList, cn, hv, ?_⟩
      have := (N2 _ List.mem_cons_self).1
      rw [Array.toArray_toList]
      exact this
    · rw [upd_ne hb] at e
      refine (I.hok b u e).stay (fun c v hc q => ?_) (fun c q => by rw [upd_ne (ndH q)]; exact q) fun c xs q => by rw [upd_ne (ndH q)]; exact q
      rcases hc with z | z
      · subst z; exact kept _ v (fun z => by rw [z, I.free] at e; cases e) q
      · exact kept c v (fun z' => by rw [z', I.free] at z; cases z) q
end L2
namespace Bl
open PySem PySem.Spec PyProof.Rows L2 PySem.W
theorem perm_map_inv {α β : Type} {g : α → β} : ∀ {ps : List β} {T : List α}, ps.Perm (T.map g) → ∃ T' : List α, T'.Perm T ∧ ps = T'.map g
  | [], T, h => by
    have : T = [] := by simpa using h.length_eq.symm
    subst this
    exact ⟨[], List.Perm.refl _, rfl⟩
  | p :: r, T, h => by
    have hp : p ∈ T.map g := h.mem_iff.mp List.mem_cons_self
    obtain ⟨x, hx, rfl⟩ := List.mem_map.mp hp
    obtain ⟨l1, l2, rfl⟩ := List.append_of_mem hx
    have h2 : (g x :: r).Perm (g x :: (l1 ++ l2).map g) := h.trans ((List.perm_middle (a := x) (l₁ := l1) (l₂ := l2)).map g)
    obtain ⟨T', h3, h4⟩ := perm_map_inv (List.Perm.cons_inv h2)
    exact ⟨x :: T', (h3.cons x).trans (List.perm_middle (a := x) (l₁ := l1) (l₂ := l2)).symm, by rw [h4]; rfl⟩
theorem tups_all {f : Ship → List V} {H : Hp} : ∀ {as : List Addr} {S : List Ship}, Tups f H as S → ∀ x ∈ as.zip S, H x.1 = some (.tup (f x.2))
  | _, _, .nil, x, h => nomatch h
  | _, _, .cons r t, x, h => by
    rcases List.mem_cons.mp h with rfl | h
    · exact r
    · exact tups_all t x h
theorem tups_of_all {f : Ship → List V} {H : Hp} : ∀ {T : List (Addr × Ship)}, (∀ x ∈ T, H x.1 = some (.tup (f x.2))) → Tups f H (T.map (·.1)) (T.map (·.2))
  | [], _ => .nil
  | x :: T, h => .cons (h x List.mem_cons_self) (tups_of_all fun y hy => h y (List.mem_cons_of_mem _ hy))
def tSortK (P : Addr) (lab : Array Value) (te : TE) : TE := fun σ H Q => te σ H fun v H1 => ∃ p as S more, [v] = [V.ref p] ∧ ShipsAt shV H1 p as S ∧ S.length < 64 ∧ H1 P = some (.tbl (lab ++ more)) ∧
  ∀ as' S' d H', Same H1 H' → H1 d = none → H' d = some (.lst (as'.map V.ref)) → Tups shV H' as' S' → S'.Perm S → S'.Pairwise (fun a b => a.2.1 ≤ b.2.1) → Q (.ref d) H'
theorem pe_sortedK {X : Cx} {P c : Addr} {te : TE} {e : Expr} {np lp kp pos ap p1 p2 p3 : Pos} (L : LamAt X P c) (hr : Room 0 X.A) (hg : Gl X "sorted") (hm : X.mg "sorted" = none) (he : PE X e te)
    (hst : starEach [e] X.env = [(false, eval e X.env)] := by rfl) :
    PE X (.Call (.Name "sorted" np) [e] [⟨some "key", .Lambda (lamArgs ap) (lamBody p1 p2 p3) lamScope lp, kp⟩] pos) (tSortK P (labOf lp (X.env.qual ++ "<lambda>")) te) := by
  intro pins s σ H Q I h
  refine wpAny_Call_Name_kw (ld_blt I hg hm boot_sorted ?_)
  have ha : PA X [e] (tCons te tNil) := pa_cons he pa_nil (by rw [hst]; rfl)
  refine callWith_kw (thn (ha pos pins s σ H (fun vs H1 => ∃ p as S more, vs = [.ref p] ∧ ShipsAt shV H1 p as S ∧ S.length < 64 ∧ H1 P = some (.tbl (labOf lp (X.env.qual ++ "<lambda>") ++ more)) ∧
    ∀ as' S' d H', Same H1 H' → H1 d = none → H' d = some (.lst (as'.map V.ref)) → Tups shV H' as' S' → S'.Perm S → S'.Pairwise (fun a b => a.2.1 ≤ b.2.1) → Q (.ref d) H') I ?_) fun us s1 ⟨vs, H1, I1, r1, p, as, S, more, evs, hS, hl, hP, q⟩ => ?_) (by rw [hst]; rfl) (by rw [hst]; rfl)
  · exact h
  · subst evs
    obtain ⟨u, rfl, ru⟩ := vals1 r1
    cases ru
    show wpAny _ _ (evalAll ((do let v ← eval (.Lambda (lamArgs ap) (lamBody p1 p2 p3) lamScope lp) X.env; standAt pos; pure v) :: [])) _ _ s1
    refine wpAny_evalAll_cons (wpAny_bind (lam_made I1 L hP rfl fun f c' pm ctv H2 s2 I2 hs2 hfo hfL hfB hcr hc' => wpAny_bind (wpAny_standAt (wpAny_pure (wpAny_evalAll_nil ?_)))))
    show wpAny _ _ (call (.builtin "sorted") [.ref p] [(Str.ofString "key", .ref f)]) _ _ s2
    have hS2 := hS.same hs2
    obtain ⟨its, rv, pl, hz⟩ := I2.list (SqL.of hS2.ls)
    have eits := vals_ref rv
    subst eits
    have hlen := hS2.ts.len
    obtain ⟨m, F⟩ := I2.fr
    have N : News X.base X.env.locals s2.heap (allNews X.base s2.heap X.env.locals) := news_all
    have trk : ∀ {b : Addr} {u : HO} {o : Obj}, H2 b = some u → s2.heap.get? b = some o → (b, o) ∈ allNews X.base s2.heap X.env.locals := fun {b u o} hu e => by
      refine mem_allNews (fun z => by rw [z, I2.free] at hu; cases hu) ?_ e
      cases z : X.base.get? b with
      | none => rfl
      | some ob => have := (I2.bs b ob z).2; rw [this] at hu; cases hu
    refine ksk_sorted (b := false) (f := .ref f) (kz := S.map (·.2.1)) F N pl.isList (by rw [List.length_map, List.length_map]; omega) (by rw [List.length_map]; omega) (ksk_s1 _ _) (fun x => ksk_l1 _ _) (fun x => ksk_t1 _ _) (fun i v k hv hk h tk own F' N' => ?_) fun D h' tk out cn F' N' hD ko => ?_
    · rw [List.getElem?_map] at hv hk
      obtain ⟨a, ha', rfl⟩ := Option.map_eq_some_iff.mp hv
      obtain ⟨t, ht, rfl⟩ := Option.map_eq_some_iff.mp hk
      obtain ⟨t', ht', hat⟩ := hS2.ts.get ha'
      rw [ht] at ht'; cases ht'
      obtain ⟨_, its, rv', o, g1, g2⟩ := (show ObjOk X.prog X.w H2 s2.heap a (.tup (shV t)) from I2.hok a _ hat)
      have inH : ∀ {b : Addr} {o : Obj}, (b, o) ∈ allNews X.base s2.heap X.env.locals → h.get? b = some o := fun hb => (N' _ (List.mem_append_left _ hb)).1
      obtain ⟨cc, oc, vs, tc, ec, hoc, hd, hvv⟩ := hcr
      cases ec
      match its, rv' with
      | v0 :: v1 :: tl, .cons _ (.cons ⟨tk1, e1⟩ _) =>
        subst e1
        exact lam_call (s := { s2 with heap := h, toks := tk }) (by have := hr.dp; show X.A.depth < _; omega) (I2.ok.mod.nolimit.keeps fun b o e => F'.keep b o e) (inH (mem_allNews hfL hfB hfo)) ⟨c', oc, vs, tc, rfl, inH (trk hc' hoc), hd, hvv⟩
          (⟨o, inH (trk hat g1), g2⟩ : IsTup h a (v0 :: Value.int t.2.1 tk1 :: tl).toArray) rfl fun h2 tk2 hk2 => KskEnd.intro (F'.kept hk2) (N'.grown hk2) fun _ hp => hp
    · obtain ⟨ps, hp, ho, hw⟩ := ko
      have ez : (S.map (·.2.1)).zip (as.map Value.ref) = (as.zip S).map fun x : Addr × Ship => (x.2.2.1, Value.ref x.1) := by
        clear hS hS2 rv hp hw hl q hlen hz pl
        induction as generalizing S with
        | nil => simp
        | cons a as ih =>
          cases S with
          | nil => simp
          | cons t S => simp [ih]
      rw [ez] at hp
      obtain ⟨T, hT, rfl⟩ := perm_map_inv hp
      have eo : out.toList = (T.map (·.1)).map Value.ref := by rw [ho, List.map_map, List.map_map]; rfl
      have hTl : T.length = S.length := by rw [hT.length_eq, List.length_zip]; omega
      obtain ⟨hD0, I3⟩ := I2.newsL (tk := tk) (ys := (T.map (·.1)).map V.ref) F F' N' hD (by rw [eo]; exact vals_of_ref _) (sz_le (by rw [List.length_map, List.length_map]; omega))
      refine ⟨.ref D, _, I3, rfl, q (T.map (·.1)) (T.map (·.2)) D _ (hs2.trans (upd_same_of hD0)) ?_ upd_same ?_ ?_ ?_⟩
      · cases z : H1 D with
        | none => rfl
        | some o => rw [hs2 _ _ z] at hD0; cases hD0
      · exact (tups_of_all fun x hx => tups_all hS2.ts x (hT.mem_iff.mp hx)).same (upd_same_of hD0)
      · have := hT.map (·.2)
        rw [List.map_snd_zip (by omega)] at this
        exact this
      · have h3 := hw
        rw [List.pairwise_map] at h3
        rw [List.pairwise_map]
        exact h3.imp fun h => by simpa using h
end Bl
namespace Bl
open PySem PySem.Spec PyProof.Rows L2
/-! ### a Quay on the heap -/
theorem putF_putF (f : Str) (y z : V) : ∀ fs, putF f y (putF f z fs) = putF f y fs
  | [] => by show (if f = f then _ else _) = _; rw [if_pos rfl]; rfl
  | (g, x) :: r => by
    by_cases h : g = f
    · simp [putF, h]
    · simp [putF, h, putF_putF f y z r]
theorem putF_len (f : Str) (y : V) : ∀ fs : List (Str × V), (putF f y fs).length ≤ fs.length + 1
  | [] => Nat.le_refl _
  | (g, x) :: r => by
    have := putF_len f y r
    by_cases h : g = f
    · simp [putF, h]
    · simp [putF, h]; exact this
def qf (q g : Int) (a : Addr) : List (Str × V) := putF "ships" (.ref a) (putF "gap" (.int g) (putF "length" (.int q) []))
theorem qf_few (q g : Int) (a : Addr) : (qf q g a).length < 1000 := by
  have h1 := putF_len "ships" (.ref a) (putF "gap" (.int g) (putF "length" (.int q) []))
  have h2 := putF_len "gap" (.int g) (putF "length" (.int q) [])
  have h3 := putF_len "length" (.int q) []
  unfold qf
  simp only [List.length_nil] at h3
  omega
theorem neGS : ¬ ("gap" : Str) = "ships" := by decide +kernel
theorem neLS : ¬ ("length" : Str) = "ships" := by decide +kernel
theorem neLG : ¬ ("length" : Str) = "gap" := by decide +kernel
theorem qf_ships (q g : Int) (a : Addr) : (qf q g a).lookup ("ships" : Str) = some (.ref a) := by
  unfold qf; rw [lookup_putF, if_pos rfl]
theorem qf_gap (q g : Int) (a : Addr) : (qf q g a).lookup ("gap" : Str) = some (.int g) := by
  unfold qf; rw [lookup_putF, if_neg neGS, lookup_putF, if_pos rfl]
theorem qf_length (q g : Int) (a : Addr) : (qf q g a).lookup ("length" : Str) = some (.int q) := by
  unfold qf; rw [lookup_putF, if_neg neLS, lookup_putF, if_neg neLG, lookup_putF, if_pos rfl]
theorem qf_no (q g : Int) (a : Addr) {m : Str} (h1 : ¬ m = "ships") (h2 : ¬ m = "gap") (h3 : ¬ m = "length") : (qf q g a).lookup m = none := by
  unfold qf; rw [lookup_putF, if_neg h1, lookup_putF, if_neg h2, lookup_putF, if_neg h3]; rfl
theorem qf_put (q g : Int) (a b : Addr) : putF "ships" (.ref b) (qf q g a) = qf q g b := by
  unfold qf; rw [putF_putF]
structure QuayAt (C : Addr) (H : Hp) (p : Addr) (q g : Int) (a : Addr) (as : List Addr) (S : List Ship) : Prop where
  ob : ∃ dx, H p = some (.ins C dx (qf q g a))
  sh : ShipsAt shV H a as S
theorem QuayAt.same {C : Addr} {H H' : Hp} {p : Addr} {q g : Int} {a : Addr} {as : List Addr} {S : List Ship} (h : QuayAt C H p q g a as S) (k : Same H H') : QuayAt C H' p q g a as S :=
  ⟨h.ob.elim fun dx e => ⟨dx, k _ _ e⟩, h.sh.same k⟩
/-- all but the quay at p stays -/
def Keep (p : Addr) (H H' : Hp) : Prop := ∀ b o, H b = some o → b ≠ p → H' b = some o
theorem Same.keep {p : Addr} {H H' : Hp} (h : Same H H') : Keep p H H' := fun b o e _ => h b o e
structure QTx (K : PySem.W.Frag) (mg : Str → Option Value) (C : Addr) : Prop where
  cl : Cls K C
  nL : NoAttr K C "length"
  nG : NoAttr K C "gap"
  nS : NoAttr K C "ships"
  any : mg "any" = none
  zip : mg "zip" = none
  sum : mg "sum" = none
  srt : mg "sorted" = none
def spInitQ (C : Addr) : Sp := fun vs H Q _ => ∃ (p dx : Addr) (q g : Int), vs = [.ref p, .int q, .int g] ∧ H p = some (.ins C dx []) ∧ ∀ (a : Addr) (H' : Hp), H a = none → Keep p H H' → QuayAt C H' p q g a [] [] → Q .non H'
def spThereQ : Sp := fun vs H Q _ => ∃ (p : Addr) (as : List Addr) (S : List Ship) (n : Str), vs = [.ref p, .str n] ∧ ShipsAt shV H p as S ∧ S.length ≤ 1000 ∧ ∀ H', Same H H' → Q (.bl (there S n)) H'
def spPlacesQ : Sp := fun vs H Q _ => ∃ (p : Addr) (as : List Addr) (S : List Ship), vs = [.ref p] ∧ ShipsAt shV H p as S ∧ S.length ≤ 1000 ∧
  ∀ (d : Addr) (bs : List Addr) (H' : Hp), H d = none → Same H H' → RowsAt H' d bs (rowsOf S) → Q (.ref d) H'
section
variable {P : Program} {w : World} {K : PySem.W.Frag} {mg : Str → Option Value} {base : Heap}
theorem scInitQ : FnScope ["self", "length", "gap"] ["self", "length", "gap"] (defScope sQInit) := ⟨rfl, rfl, rfl, by decide +kernel, rfl, by decide +kernel, by decide +kernel⟩
theorem ok_initQ {f C : Addr} {fd : FuncData} (F : Fun K "__init__" "Quay.__init__" sQInit f fd) (T : QTx K mg C) : FnOk P w K mg base CX0 1 f fd ["self", "length", "gap"] (spInitQ C) := by
  refine F.ok scInitQ (fun vs H Q E h => ?_) (fun cdv A outer s H vs Q E hr h => ?_)
  · obtain ⟨p, dx, q, g, rfl, _⟩ := h
    rfl
  · obtain ⟨p, dx, q, g, rfl, hp, k⟩ := h
    refine ⟨_, pss_cons (ps_fld (pv 0) (pv 1) rfl) (pss_cons (ps_fld (pv 0) (pv 2) rfl) (pss_one (ps_fld (pv 0) (pe_lst pa_nil) rfl))), ?_⟩
    refine ⟨_, rfl, _, rfl, p, C, dx, [], rfl, hp, T.cl, T.nL, (by show 0 < 1000; decide), _, rfl, _, rfl, p, C, dx, _, rfl, upd_same, T.cl, T.nG, (by have := putF_len "length" (.int q) []; simp only [List.length_nil] at this; omega), ?_⟩
    refine ⟨Nat.zero_le _, fun a ha => ?_⟩
    rw [upd_upd] at ha ⊢
    have npa : p ≠ a := fun z => by rw [← z, upd_same] at ha; cases ha
    have ha0 : H a = none := by rw [upd_ne npa.symm] at ha; exact ha
    refine ⟨_, rfl, p, C, dx, _, rfl, (by rw [upd_ne npa, upd_same]), T.cl, T.nS, (by
      have h2 := putF_len "gap" (.int g) (putF "length" (.int q) [])
      have h3 := putF_len "length" (.int q) []
      simp only [List.length_nil] at h3
      omega), ?_⟩
    refine k a _ ha0 (fun b o e hb => ?_) ⟨⟨dx, upd_same⟩, ⟨by rw [upd_ne npa.symm, upd_same]; rfl, .nil⟩⟩
    rw [upd_ne hb, upd_ne (fun z => by rw [z, ha0] at e; cases e), upd_ne hb]
    exact e
theorem scThereQ : FnScope ["ships", "name"] ["ships", "name"] (defScope sThere) := ⟨rfl, rfl, rfl, by decide +kernel, rfl, by decide +kernel, by decide +kernel⟩
theorem ok_thereQ {f C : Addr} {fd : FuncData} (F : Fun K "is_there" "is_there" sThere f fd) (T : QTx K mg C) : FnOk P w K mg base CX0 1 f fd ["ships", "name"] spThereQ := by
  refine F.ok scThereQ (fun vs H Q E h => ?_) (fun cdv A outer s H vs Q E hr h => ?_)
  · obtain ⟨p, as, S, n, rfl, _⟩ := h
    rfl
  · obtain ⟨p, as, S, n, rfl, hS, hl, k⟩ := h
    have nd2 : (["ship", "name"] : List Str).Nodup := by decide +kernel
    refine ⟨_, pss_one (ps_ret (pe_callB (call_any rfl) (by rfl) T.any boot_any (pa_cons (pe_lc (N := ["ship", "name"]) (fs := [none, some 1]) (pi_list (pv 0)) rfl rfl (by decide +kernel) ⟨Or.inl rfl, trivial⟩
      ⟨⟨rfl, Or.inr (Or.inl rfl), Or.inl rfl, Or.inl rfl⟩, trivial⟩ (fun _ _ _ _ => pg_name (i := 0) nd2 rfl (Or.inl rfl)) (fun _ _ _ _ => pts_nil)
      (fun _ _ _ _ => pe_cmpR op_eq (pe_ix (r := rIxT K) (by exact ix_tup) (pv 0) pe_int (fun _ _ => rfl)) (pv 1) (nomark _))) pa_nil))), ?_⟩
    refine ⟨_, rfl, p, rfl, ⟨_, SqL.of hS.ls⟩, fun d hd => ?_⟩
    refine turns_list (K := K) (a := p) (xs := as.map V.ref) (fun i σ H2 => ∃ c : Option V, σ = [c, some (.str n)] ∧ Same H H2 ∧ H2 d = some (.lst (((S.take i).map fun s => decide (V.str s.1 = V.str n)).map V.bl))) ⟨none, rfl, upd_same_of hd, upd_same⟩
      (fun i σ H2 _ ⟨_, _, s2, _⟩ => SqL.of (s2 _ _ hS.ls)) ?_ ?_
    · rintro i x σ H2 hi ⟨c, rfl, s2, hd2⟩
      obtain ⟨z, hz, rfl⟩ := ref_at hi
      obtain ⟨t, ht, hzH⟩ := hS.ts.get hz
      have hzT : SqT K H2 z (shV t) := SqT.of (s2 _ _ hzH)
      have hil : i < S.length := (List.getElem?_eq_some_iff.mp ht).1
      dsimp only [gName]
      refine noT ?_
      refine ⟨_, rfl, z, _, _, .str t.1, rfl, rfl, hzT, atI_nat (j := 0) rfl, _, rfl, rfl, _, hd2, sz_lt (by rw [List.length_map, List.length_map, List.length_take]; omega), some (.ref z), rfl, fun b o e => ?_, ?_⟩
      · have e2 := s2 b o e
        rw [upd_ne (ne_of_none e hd)]
        exact e2
      · rw [upd_same, take_snoc ht, List.map_append, List.map_append]; rfl
    · rintro σ H2 ⟨c, rfl, s2, hd2⟩
      rw [List.length_map, hS.ts.len, List.take_length] at hd2
      refine ⟨d, _, rfl, SqL.of hd2, ?_⟩
      have e : (S.map fun s => decide (V.str s.1 = V.str n)).any id = there S n := by
        unfold there
        rw [List.any_map]
        congr 1
        funext s
        show decide (V.str s.1 = V.str n) = (s.1 == n)
        by_cases h : s.1 = n
        · simp [h]
        · simp [h]
      rw [e]
      exact k H2 s2
theorem scPlacesQ : FnScope ["ships"] ["ships"] (defScope sPlaces) := ⟨rfl, rfl, rfl, by decide +kernel, rfl, by decide +kernel, by decide +kernel⟩
theorem ok_placesQ {f : Addr} {fd : FuncData} (F : Fun K "places_of" "places_of" sPlaces f fd) : FnOk P w K mg base CX0 1 f fd ["ships"] spPlacesQ := by
  refine F.ok scPlacesQ (fun vs H Q E h => ?_) (fun cdv A outer s H vs Q E hr h => ?_)
  · obtain ⟨p, as, S, rfl, _⟩ := h
    rfl
  · obtain ⟨p, as, S, rfl, hS, hl, k⟩ := h
    have nd1 : (["ship"] : List Str).Nodup := by decide +kernel
    refine ⟨_, pss_one (ps_ret (pe_lc (N := ["ship"]) (fs := [none]) (pi_list (pv 0)) rfl rfl (by decide +kernel) trivial trivial (fun _ _ _ _ => pg_name (i := 0) nd1 rfl (Or.inl rfl)) (fun _ _ _ _ => pts_nil)
      (fun _ _ _ _ => pe_tup (pa_cons (pe_ix (r := rIxT K) (by exact ix_tup) (pv 0) pe_int (fun _ _ => rfl)) (pa_cons (pe_ix (r := rIxT K) (by exact ix_tup) (pv 0) pe_int (fun _ _ => rfl)) pa_nil))))), ?_⟩
    refine ⟨_, rfl, p, rfl, ⟨_, SqL.of hS.ls⟩, fun d hd => ?_⟩
    refine turns_list (K := K) (a := p) (xs := as.map V.ref) (fun i σ H2 => ∃ (c : Option V) (bs : List Addr), σ = [c] ∧ Same H H2 ∧ H2 d = some (.lst (bs.map V.ref)) ∧ Pairs H2 bs (rowsOf (S.take i))) ⟨none, [], rfl, upd_same_of hd, upd_same, .nil⟩
      (fun i σ H2 _ ⟨_, _, _, s2, _⟩ => SqL.of (s2 _ _ hS.ls)) ?_ ?_
    · rintro i x σ H2 hi ⟨c, bs, rfl, s2, hd2, ht2⟩
      obtain ⟨z, hz, rfl⟩ := ref_at hi
      obtain ⟨t, ht, hzH⟩ := hS.ts.get hz
      have hzT : SqT K H2 z (shV t) := SqT.of (s2 _ _ hzH)
      have hil : i < S.length := (List.getElem?_eq_some_iff.mp ht).1
      have hbl : bs.length = i := by have := ht2.len; unfold rowsOf at this; rw [List.length_map, List.length_take] at this; omega
      dsimp only [gName]
      refine noT ?_
      refine ⟨_, rfl, z, _, _, .int t.2.1, rfl, rfl, hzT, atI_nat (j := 1) rfl, _, rfl, z, _, _, .int t.2.2, rfl, rfl, hzT, atI_nat (j := 2) rfl, sz_le (by show 2 ≤ 100000; decide), fun u hu => ?_⟩
      have ndu : d ≠ u := ne_of_none hd2 hu
      refine ⟨_, (by rw [upd_ne ndu]; exact hd2), sz_lt (by rw [List.length_map]; omega), some (.ref z), bs ++ [u], rfl, fun b o e => ?_, ?_, ?_⟩
      · have e2 := s2 b o e
        rw [upd_ne (ne_of_none e hd), upd_ne (ne_of_none e2 hu)]
        exact e2
      · rw [upd_same, List.map_append]; rfl
      · rw [take_snoc ht]
        unfold rowsOf
        rw [List.map_append]
        refine Pairs.snoc ?_ (Pairs.mono ht2 fun b xs e => ?_)
        · rw [upd_ne (Ne.symm ndu), upd_same]
        · rw [upd_ne (ne_of e hd2 (by intro z; cases z)), upd_ne (ne_of_none e hu)]; exact e
    · rintro σ H2 ⟨c, bs, rfl, s2, hd2, ht2⟩
      rw [List.length_map, hS.ts.len, List.take_length] at ht2
      exact k d bs H2 hd s2 ⟨hd2, ht2⟩
end
end Bl
namespace Bl
open PySem PySem.Spec PyProof.Rows L2
/-! ### Quay.come, Quay.leave, Quay.move_up -/
def lamPosOf (st : Stmt) : Pos := match (defBody st).getD 4 (.Pass ⟨0, 0, 0, 0⟩) with
  | .Assign _ (.Call _ _ [⟨_, .Lambda _ _ _ p, _⟩] _) _ => p
  | _ => ⟨0, 0, 0, 0⟩
def labQ : Array Value := labOf (lamPosOf sQCome) ("Quay.come" ++ ".<locals>." ++ "<lambda>")
abbrev bmV : List Value := [.type "ValueError", .type "Exception", .type "BaseException", .type "object"]
structure Exs (mg : Str → Option Value) (base : Heap) (cS cT cR : Addr) : Prop where
  oS : OwnCls "NoShip" cS bmV "ValueError.__new__" mg base
  oT : OwnCls "Twice" cT bmV "ValueError.__new__" mg base
  oR : OwnCls "NoRoom" cR bmV "ValueError.__new__" mg base
structure LamT (K : PySem.W.Frag) (mg : Str → Option Value) (base : Heap) (PT c : Addr) : Prop where
  hd : PySem.W.codeHdIn K c PT = true
  bm : base.BuiltinsAt mg PT
  gP : mainGlobals ≠ PT
def spComeQ (C PT cS cT cR : Addr) : Sp := fun vs H Q E => ∃ (p : Addr) (q g : Int) (a : Addr) (as : List Addr) (S : List Ship) (n : Str) (l : Int) (more : Array Value), vs = [.ref p, .str n, .int l] ∧ QuayAt C H p q g a as S ∧ S.length ≤ 60 ∧ (reprText n).length ≤ 1000 ∧
  H PT = some (.tbl (labQ ++ more)) ∧ (l < 1 → E (.ref cS) none H) ∧ (∀ H', Same H H' → 1 ≤ l → there S n = true → E (.ref cT) none H') ∧
  (∀ H', Same H H' → 1 ≤ l → there S n = false → fp l g q 0 (rowsOf S) = none → E (.ref cR) none H') ∧
  (∀ (pl : Int) (H' : Hp) (a' : Addr) (as' : List Addr) (S' : List Ship), Keep p H H' → H a' = none → 1 ≤ l → there S n = false → fp l g q 0 (rowsOf S) = some pl → QuayAt C H' p q g a' as' S' → S'.Perm (S ++ [(n, pl, l)]) →
    S'.Pairwise (fun a b => a.2.1 ≤ b.2.1) → Q (.int pl) H')
def spLeaveQ (C cS : Addr) : Sp := fun vs H Q E => ∃ (p : Addr) (q g : Int) (a : Addr) (as : List Addr) (S : List Ship) (n : Str), vs = [.ref p, .str n] ∧ QuayAt C H p q g a as S ∧ S.length ≤ 60 ∧ (reprText n).length ≤ 1000 ∧
  (∀ H', Same H H' → there S n = false → E (.ref cS) none H') ∧
  (∀ (H' : Hp) (a' : Addr) (as' : List Addr), Keep p H H' → H a' = none → there S n = true → QuayAt C H' p q g a' as' (S.filter fun s => !(s.1 == n)) → Q (.str n) H')
def spUpQ (C : Addr) : Sp := fun vs H Q _ => ∃ (p : Addr) (q g : Int) (a : Addr) (as : List Addr) (S : List Ship), vs = [.ref p] ∧ QuayAt C H p q g a as S ∧ S.length ≤ 60 ∧
  (∀ (H' : Hp) (a' : Addr) (as' : List Addr), Keep p H H' → H a' = none → QuayAt C H' p q g a' as' (upS g 0 S) → Q (.int (metresS g 0 S)) H')
theorem joinLen {a b : Str} {n : Nat} (h1 : a.length + b.length ≤ n) (h2 : n ≤ 100000) : (a ++ b).length ≤ sizeLine := by
  rw [Str.length_append]; exact sz_le (Nat.le_trans h1 h2)
theorem emptyLen : Str.empty.length = 0 := rfl
section
variable {P : Program} {w : World} {K : PySem.W.Frag} {mg : Str → Option Value} {base : Heap}
theorem scComeQ : FnScope ["self", "name", "length", "place"] ["self", "name", "length"] (defScope sQCome) := ⟨rfl, rfl, rfl, by decide +kernel, rfl, by decide +kernel, by decide +kernel⟩
theorem ok_comeQ {f C PT c cS cT cR f1 f2 f3 : Addr} {fd fd1 fd2 fd3 : FuncData} (F : Fun K "come" "Quay.come" sQCome f fd) (hc : fd.code = .ref c) (T : QTx K mg C) (X : Exs mg base cS cT cR) (L : LamT K mg base PT c)
    (F1 : Fun K "is_there" "is_there" sThere f1 fd1) (B1 : Fns K mg "is_there" ["ships", "name"] f1 fd1) (F2 : Fun K "places_of" "places_of" sPlaces f2 fd2) (B2 : Fns K mg "places_of" ["ships"] f2 fd2)
    (F3 : Fun K "first_place" "first_place" sFirst f3 fd3) (B3 : Fns K mg "first_place" ["rows", "length", "gap", "quay"] f3 fd3) :
    FnOk P w K mg base (CX1 P w) 2 f fd ["self", "name", "length"] (spComeQ C PT cS cT cR) := by
  have G1 : FnOk P w K mg base CX0 1 f1 fd1 ["ships", "name"] spThereQ := ok_thereQ F1 T
  have G2 : FnOk P w K mg base CX0 1 f2 fd2 ["ships"] spPlacesQ := ok_placesQ F2
  have G3 : FnOk P w K mg base CX0 1 f3 fd3 ["rows", "length", "gap", "quay"] spFirstQ := ok_firstQ F3
  refine F.okRC hc scComeQ (fun vs H Q E h => ?_) (fun A outer s H vs Q E hr h => ?_)
  · obtain ⟨p, q, g, a, as, S, n, l, more, rfl, _⟩ := h
    rfl
  · obtain ⟨p, q, g, a, as, S, n, l, more, rfl, hQ, hl, hn, hP, kS, kT, kR, k⟩ := h
    have nd := scComeQ.nd
    have hr0 := hr.mono (j := 0) (by omega)
    obtain ⟨dx, hob⟩ := hQ.ob
    refine ⟨_, pss_cons (ps_if (pt_cmpR op_lt (pv 2) pe_int (nomark _)) (pss_one (ps_raise X.oS PySem.F.excBase_ValueError rfl (by rfl) raises_fn (pa_cons pe_str pa_nil))) pss_nil)
      (pss_cons (ps_if (pt_val (pe_call G1 hr (by rfl) B1.gm B1.kp B1.bd .nil pass0 (pa_cons (pe_fld (pv 0) rfl) (pa_cons (pv 1) pa_nil)))) (pss_one (ps_raise X.oT PySem.F.excBase_ValueError rfl (by rfl) raises_fn (pa_cons (pe_fstr (.cons pe_str (.cons (pe_repr (pv 1)) (.cons pe_str .nil)))) pa_nil))) pss_nil)
      (pss_cons (ps_set (i := 3) nd rfl (Or.inl rfl) (pe_call G3 hr (by rfl) B3.gm B3.kp B3.bd .nil pass0 (pa_cons (pe_call G2 hr (by rfl) B2.gm B2.kp B2.bd .nil pass0 (pa_cons (pe_fld (pv 0) rfl) pa_nil)) (pa_cons (pv 2) (pa_cons (pe_fld (pv 0) rfl) (pa_cons (pe_fld (pv 0) rfl) pa_nil))))))
      (pss_cons (ps_if (pt_cmpR op_isN (pv 3) pe_non (nomark _)) (pss_one (ps_raise X.oR PySem.F.excBase_ValueError rfl (by rfl) raises_fn (pa_cons (pe_fstr (.cons pe_str (.cons (pe_repr (pv 1)) .nil))) pa_nil))) pss_nil)
      (pss_cons (ps_fld (pv 0) (pe_sortedK (P := PT) (c := c) ⟨rfl, L.hd, L.bm, L.gP⟩ hr0 (by rfl) T.srt (pe_op op_cat (pe_fld (pv 0) rfl) (pe_lst (pa_cons (pe_tup (pa_cons (pv 1) (pa_cons (pv 3) (pa_cons (pv 2) pa_nil)))) pa_nil)))) rfl)
      (pss_one (ps_ret (pv 3))))))), ?_⟩
    refine ⟨_, rfl, _, _, rfl, rfl, _, rfl, ?_⟩
    refine ite2d (fun h1 => ?_) (fun h1 => ?_)
    · exact ⟨sz_le (by show 1 ≤ 100000; decide), kS h1⟩
    have hl1 : 1 ≤ l := by omega
    refine ⟨_, rfl, p, C, dx, _, _, rfl, hob, T.cl, T.nS, qf_ships _ _ _, _, rfl, a, as, S, n, rfl, hQ.sh, by omega, fun H1 s1 => ⟨_, rfl, ?_⟩⟩
    cases ht : there S n with
    | true =>
      refine iteT ?_
      have e1 : (Str.ofString "a ship called ").length = 14 := by decide +kernel
      have e2 : (Str.ofString " is there already").length = 17 := by decide +kernel
      refine ⟨_, rfl, joinLen (n := 100) (by rw [emptyLen, e1]; decide) (by decide), _, rfl, n, rfl, sz_le (by omega), _, rfl, joinLen (n := 2000) (by rw [Str.length_append, emptyLen, e1]; omega) (by decide),
        _, rfl, joinLen (n := 3000) (by rw [Str.length_append, Str.length_append, emptyLen, e1, e2]; omega) (by decide), sz_le (by show 1 ≤ 100000; decide), kT H1 s1 hl1 ht⟩
    | false =>
      refine iteF ?_
      have hQ1 := hQ.same s1
      obtain ⟨dx1, hob1⟩ := hQ1.ob
      refine ⟨_, rfl, p, C, dx1, _, _, rfl, hob1, T.cl, T.nS, qf_ships _ _ _, a, as, S, rfl, hQ1.sh, by omega, fun d bs H2 hd s2 hR => ?_⟩
      have hQ2 := hQ1.same s2
      obtain ⟨dx2, hob2⟩ := hQ2.ob
      have s2' := s1.trans s2
      refine ⟨_, rfl, _, rfl, p, C, dx2, _, _, rfl, hob2, T.cl, T.nG, qf_gap _ _ _, _, rfl, p, C, dx2, _, _, rfl, hob2, T.cl, T.nL, qf_length _ _ _, d, bs, rowsOf S, l, g, q, rfl, hR, ?_⟩
      cases hf : fp l g q 0 (rowsOf S) with
      | none =>
        refine ⟨_, rfl, rfl, _, rfl, ?_⟩
        refine iteT ?_
        have e1 : (Str.ofString "there is no berth for ").length = 22 := by decide +kernel
        exact ⟨_, rfl, joinLen (n := 100) (by rw [emptyLen, e1]; decide) (by decide), _, rfl, n, rfl, sz_le (by omega), _, rfl, joinLen (n := 2000) (by rw [Str.length_append, emptyLen, e1]; omega) (by decide),
          sz_le (by show 1 ≤ 100000; decide), kR H2 s2' hl1 ht hf⟩
      | some pl =>
        rw [show optVQ (some pl) = V.int pl from rfl]
        refine ⟨_, rfl, rfl, _, rfl, ?_⟩
        refine iteF ?_
        refine ⟨_, rfl, p, C, dx2, _, _, rfl, hob2, T.cl, T.nS, qf_ships _ _ _, _, rfl, _, rfl, _, rfl, sz_le (by show 3 ≤ 100000; decide), fun u hu => ⟨sz_le (by show 1 ≤ 100000; decide), fun u2 hu2 => ?_⟩⟩
        have s3 : Same H2 (upd (upd H2 u (.tup [.str n, .int pl, .int l])) u2 (.lst [.ref u])) := (upd_same_of hu).trans (upd_same_of hu2)
        have eu : (upd (upd H2 u (.tup [.str n, .int pl, .int l])) u2 (.lst [.ref u])) u = some (.tup (shV (n, pl, l))) := upd_same_of hu2 _ _ upd_same
        have eu2 : (upd (upd H2 u (.tup [.str n, .int pl, .int l])) u2 (.lst [.ref u])) u2 = some (.lst [.ref u]) := upd_same
        revert s3 eu eu2
        generalize upd (upd H2 u (.tup [.str n, .int pl, .int l])) u2 (.lst [.ref u]) = H3
        intro s3 eu eu2
        have hQ3 := hQ2.same s3
        have hal := hQ3.sh.ts.len
        refine ⟨a, u2, _, _, rfl, rfl, hQ3.sh.ls, eu2, sz_le (by rw [List.length_map]; show _ + 1 ≤ _; omega), fun u3 hu3 => ?_⟩
        have s4 : Same H3 (upd H3 u3 (.lst (as.map V.ref ++ [V.ref u]))) := upd_same_of hu3
        have e4 : upd H3 u3 (.lst (as.map V.ref ++ [V.ref u])) u3 = some (.lst ((as ++ [u]).map V.ref)) := by rw [upd_same, List.map_append]; rfl
        revert s4 e4
        generalize upd H3 u3 (.lst (as.map V.ref ++ [V.ref u])) = H4
        intro s4 e4
        have s04 : Same H H4 := ((s2'.trans s3).trans s4)
        refine ⟨u3, as ++ [u], S ++ [(n, pl, l)], more, rfl, ⟨e4, Tups.snoc (s4 _ _ eu) ((hQ3.sh.ts).same s4)⟩, by rw [List.length_append]; show _ + 1 < _; omega, s04 _ _ hP, fun as' S' dd H5 s5 hd5 hd5' hT hp hw => ?_⟩
        have s05 := s04.trans s5
        obtain ⟨dx5, hob5⟩ := (hQ.same s05).ob
        refine ⟨_, rfl, p, C, dx5, _, rfl, hob5, T.cl, T.nS, qf_few _ _ _, ?_⟩
        have npd : p ≠ dd := ne_of hob5 hd5' (by intro z; cases z)
        rw [qf_put]
        refine ⟨_, rfl, k pl _ dd as' S' (fun b o e hb => by rw [upd_ne hb]; exact s05 _ _ e) ?_ hl1 ht hf ⟨⟨dx5, upd_same⟩, ⟨by rw [upd_ne npd.symm]; exact hd5', hT.mono fun b xs e => ?_⟩⟩ hp hw⟩
        · exact Same.free s04 hd5
        · rw [upd_ne (ne_of e hob5 (by intro z; cases z))]; exact e
end
end Bl
namespace Bl
open PySem PySem.Spec PyProof.Rows L2
section
variable {P : Program} {w : World} {K : PySem.W.Frag} {mg : Str → Option Value} {base : Heap}
theorem scLeaveQ : FnScope ["self", "name"] ["self", "name"] (defScope sQLeave) := ⟨rfl, rfl, rfl, by decide +kernel, rfl, by decide +kernel, by decide +kernel⟩
theorem ok_leaveQ {f C cS cT cR f1 : Addr} {fd fd1 : FuncData} (F : Fun K "leave" "Quay.leave" sQLeave f fd) (T : QTx K mg C) (X : Exs mg base cS cT cR)
    (F1 : Fun K "is_there" "is_there" sThere f1 fd1) (B1 : Fns K mg "is_there" ["ships", "name"] f1 fd1) : FnOk P w K mg base (CX1 P w) 2 f fd ["self", "name"] (spLeaveQ C cS) := by
  have G1 : FnOk P w K mg base CX0 1 f1 fd1 ["ships", "name"] spThereQ := ok_thereQ F1 T
  refine F.okR scLeaveQ (fun vs H Q E h => ?_) (fun cdv A outer s H vs Q E hr h => ?_)
  · obtain ⟨p, q, g, a, as, S, n, rfl, _⟩ := h
    rfl
  · obtain ⟨p, q, g, a, as, S, n, rfl, hQ, hl, hn, kS, k⟩ := h
    have nd := scLeaveQ.nd
    have nd2 : (["ship", "name"] : List Str).Nodup := by decide +kernel
    obtain ⟨dx, hob⟩ := hQ.ob
    refine ⟨_, pss_cons (ps_if (pt_not (pt_val (pe_call G1 hr (by rfl) B1.gm B1.kp B1.bd .nil pass0 (pa_cons (pe_fld (pv 0) rfl) (pa_cons (pv 1) pa_nil))))) (pss_one (ps_raise X.oS PySem.F.excBase_ValueError rfl (by rfl) raises_fn (pa_cons (pe_fstr (.cons pe_str (.cons (pe_repr (pv 1)) (.cons pe_str .nil)))) pa_nil))) pss_nil)
      (pss_cons (ps_fld (pv 0) (pe_lc (N := ["ship", "name"]) (fs := [none, some 1]) (pi_list (pe_fld (pv 0) rfl)) rfl rfl (by decide +kernel) ⟨Or.inl rfl, trivial⟩
        ⟨⟨rfl, Or.inr (Or.inl rfl), Or.inl rfl, Or.inl rfl⟩, trivial⟩ (fun _ _ _ _ => pg_name (i := 0) nd2 rfl (Or.inl rfl))
        (fun _ _ _ _ => pts_one (pt_cmpR op_ne (pe_ix (r := rIxT K) (by exact ix_tup) (pv 0) pe_int (fun _ _ => rfl)) (pv 1) (nomark _))) (fun _ _ _ _ => pv 0)) rfl)
      (pss_one (ps_ret (pv 1)))), ?_⟩
    refine ⟨_, rfl, p, C, dx, _, _, rfl, hob, T.cl, T.nS, qf_ships _ _ _, _, rfl, a, as, S, n, rfl, hQ.sh, by omega, fun H1 s1 => ⟨_, rfl, ?_⟩⟩
    cases ht : there S n with
    | false =>
      refine iteT ?_
      have e1 : (Str.ofString "no ship called ").length = 15 := by decide +kernel
      have e2 : (Str.ofString " is there").length = 9 := by decide +kernel
      exact ⟨_, rfl, joinLen (n := 100) (by rw [emptyLen, e1]; decide) (by decide), _, rfl, n, rfl, sz_le (by omega), _, rfl, joinLen (n := 2000) (by rw [Str.length_append, emptyLen, e1]; omega) (by decide),
        _, rfl, joinLen (n := 3000) (by rw [Str.length_append, Str.length_append, emptyLen, e1, e2]; omega) (by decide), sz_le (by show 1 ≤ 100000; decide), kS H1 s1 ht⟩
    | true =>
      refine iteF ?_
      have hQ1 := hQ.same s1
      obtain ⟨dx1, hob1⟩ := hQ1.ob
      have hS := hQ1.sh
      refine ⟨_, rfl, p, C, dx1, _, _, rfl, hob1, T.cl, T.nS, qf_ships _ _ _, a, rfl, ⟨_, SqL.of hS.ls⟩, fun d hd => ?_⟩
      refine turns_list (K := K) (a := a) (xs := as.map V.ref) (fun i σ H2 => ∃ (c : Option V) (bs : List Addr), σ = [c, some (.str n)] ∧ Same H1 H2 ∧ H2 d = some (.lst (bs.map V.ref)) ∧ Tups shV H2 bs ((S.take i).filter fun s => !(s.1 == n)))
        ⟨none, [], rfl, upd_same_of hd, upd_same, .nil⟩ (fun i σ H2 _ ⟨_, _, _, s2, _⟩ => SqL.of (s2 _ _ hS.ls)) ?_ ?_
      · rintro i x σ H2 hi ⟨c, bs, rfl, s2, hd2, ht2⟩
        obtain ⟨z, hz, rfl⟩ := ref_at hi
        obtain ⟨t, htS, hzH⟩ := hS.ts.get hz
        have hzT : SqT K H2 z (shV t) := SqT.of (s2 _ _ hzH)
        have hil : i < S.length := (List.getElem?_eq_some_iff.mp htS).1
        have hbl : bs.length ≤ i := by
          have h1 := ht2.len
          have h2 := List.length_filter_le (fun s : Ship => !(s.1 == n)) (S.take i)
          rw [List.length_take] at h2
          omega
        dsimp only [gName]
        refine ⟨_, rfl, z, _, _, .str t.1, rfl, rfl, hzT, atI_nat (j := 0) rfl, _, rfl, rfl, _, rfl, ?_⟩
        rw [take_snoc htS, List.filter_append]
        by_cases hnm : t.1 = n
        · have e : ([t].filter fun s : Ship => !(s.1 == n)) = [] := by simp [hnm]
          rw [e, List.append_nil]
          have e3 : decide (V.str t.1 = V.str n) = true := by simp [hnm]
          show if (!decide (V.str t.1 = V.str n)) = true then _ else _
          rw [e3]
          exact iteF ⟨some (.ref z), bs, rfl, s2, hd2, ht2⟩
        · have e : ([t].filter fun s : Ship => !(s.1 == n)) = [t] := by simp [hnm]
          rw [e]
          have e3 : decide (V.str t.1 = V.str n) = false := by simp [hnm]
          show if (!decide (V.str t.1 = V.str n)) = true then _ else _
          rw [e3]
          refine iteT ?_
          refine ⟨_, rfl, _, hd2, sz_lt (by rw [List.length_map]; omega), some (.ref z), bs ++ [z], rfl, fun b o e => ?_, by rw [upd_same, List.map_append]; rfl, Tups.snoc ?_ (ht2.mono fun b xs e => ?_)⟩
          · rw [upd_ne (ne_of_none e hd)]; exact s2 b o e
          · rw [upd_ne (ne_of (s2 _ _ hzH) hd2 (by intro z; cases z))]; exact s2 _ _ hzH
          · rw [upd_ne (ne_of e hd2 (by intro z; cases z))]; exact e
      · rintro σ H2 ⟨c, bs, rfl, s2, hd2, ht2⟩
        rw [List.length_map, hS.ts.len, List.take_length] at ht2
        have s02 := s1.trans s2
        obtain ⟨dx5, hob5⟩ := (hQ.same s02).ob
        refine ⟨_, rfl, p, C, dx5, _, rfl, hob5, T.cl, T.nS, qf_few _ _ _, ?_⟩
        have npd : p ≠ d := ne_of hob5 hd2 (by intro z; cases z)
        rw [qf_put]
        refine ⟨_, rfl, k _ d bs (fun b o e hb => by rw [upd_ne hb]; exact s02 _ _ e) (Same.free s1 hd) ht ⟨⟨dx5, upd_same⟩, ⟨by rw [upd_ne npd.symm]; exact hd2, ht2.mono fun b xs e => ?_⟩⟩⟩
        rw [upd_ne (ne_of e hob5 (by intro z; cases z))]; exact e
/-! ### moving up -/
theorem mv_len_rows (g : Int) : ∀ (S : List Ship) (e : Int), (mv g e (rowsOf S)).length = S.length
  | [], _ => rfl
  | s :: S, e => by
    show ((e, s.2.2) :: mv g (e + s.2.2 + g) (rowsOf S)).length = _
    rw [List.length_cons, mv_len_rows g S, List.length_cons]
def difL (S : List Ship) (M : List Rw) : List Int := List.zipWith (fun (s : Ship) (r : Rw) => s.2.1 - r.1) S M
def movL (S : List Ship) (M : List Rw) : List Ship := List.zipWith (fun (s : Ship) (r : Rw) => (s.1, r.1, r.2)) S M
theorem difL_sum (g : Int) : ∀ (S : List Ship) (e : Int), (difL S (mv g e (rowsOf S))).sum = metresS g e S
  | [], _ => rfl
  | s :: S, e => by
    show ((s.2.1 - e) :: difL S (mv g (e + s.2.2 + g) (rowsOf S))).sum = _
    rw [List.sum_cons, difL_sum g S]
    rfl
theorem movL_eq (g : Int) : ∀ (S : List Ship) (e : Int), movL S (mv g e (rowsOf S)) = upS g e S
  | [], _ => rfl
  | s :: S, e => by
    show (s.1, e, s.2.2) :: movL S (mv g (e + s.2.2 + g) (rowsOf S)) = _
    rw [movL_eq g S]
    rfl
theorem scUpQ : FnScope ["self", "moved", "metres"] ["self"] (defScope sQUp) := ⟨rfl, rfl, rfl, by decide +kernel, rfl, by decide +kernel, by decide +kernel⟩
theorem ok_upQ {f C f2 f3 : Addr} {fd fd2 fd3 : FuncData} (F : Fun K "move_up" "Quay.move_up" sQUp f fd) (T : QTx K mg C)
    (F2 : Fun K "places_of" "places_of" sPlaces f2 fd2) (B2 : Fns K mg "places_of" ["ships"] f2 fd2) (F3 : Fun K "moved_up" "moved_up" sMoved f3 fd3) (B3 : Fns K mg "moved_up" ["rows", "gap"] f3 fd3) :
    FnOk P w K mg base CX0 2 f fd ["self"] (spUpQ C) := by
  have G2 : FnOk P w K mg base CX0 1 f2 fd2 ["ships"] spPlacesQ := ok_placesQ F2
  have G3 : FnOk P w K mg base CX0 1 f3 fd3 ["rows", "gap"] spMovedQ := ok_movedQ F3
  refine F.ok scUpQ (fun vs H Q E h => ?_) (fun cdv A outer s H vs Q E hr h => ?_)
  · obtain ⟨p, q, g, a, as, S, rfl, _⟩ := h
    rfl
  · obtain ⟨p, q, g, a, as, S, rfl, hQ, hl, k⟩ := h
    have nd := scUpQ.nd
    have nd2 : (["ship", "row"] : List Str).Nodup := by decide +kernel
    obtain ⟨dx, hob⟩ := hQ.ob
    refine ⟨_, pss_cons (ps_set (i := 1) nd rfl (Or.inl rfl) (pe_call G3 hr (by rfl) B3.gm B3.kp B3.bd .nil pass0 (pa_cons (pe_call G2 hr (by rfl) B2.gm B2.kp B2.bd .nil pass0 (pa_cons (pe_fld (pv 0) rfl) pa_nil)) (pa_cons (pe_fld (pv 0) rfl) pa_nil))))
      (pss_cons (ps_set (i := 2) nd rfl (Or.inl rfl) (pe_callB (call_sumN rfl) (by rfl) T.sum boot_sum (pa_cons (pe_lc (g := gTup K 2 (gCons (gName 0) (gCons (gName 1) gNil))) (N := ["ship", "row"]) (fs := [none, none]) (pi_zip (by rfl) T.zip (pa_cons (pe_fld (pv 0) rfl) (pa_cons (pv 1) pa_nil))) rfl rfl (by decide +kernel) trivial trivial
        (fun _ _ _ _ => by exact pg_tup rfl (pgs_cons (pg_name (i := 0) nd2 rfl (Or.inl rfl)) (pgs_cons (pg_name (i := 1) nd2 rfl (Or.inl rfl)) pgs_nil))) (fun _ _ _ _ => pts_nil)
        (fun _ _ _ _ => pe_op op_sub (pe_ix (r := rIxT K) (by exact ix_tup) (pv 0) pe_int (fun _ _ => rfl)) (pe_ix (r := rIxT K) (by exact ix_tup) (pv 1) pe_int (fun _ _ => rfl)))) pa_nil)))
      (pss_cons (ps_fld (pv 0) (pe_lc (g := gTup K 2 (gCons (gName 0) (gCons (gName 1) gNil))) (N := ["ship", "row"]) (fs := [none, none]) (pi_zip (by rfl) T.zip (pa_cons (pe_fld (pv 0) rfl) (pa_cons (pv 1) pa_nil))) rfl rfl (by decide +kernel) trivial trivial
        (fun _ _ _ _ => by exact pg_tup rfl (pgs_cons (pg_name (i := 0) nd2 rfl (Or.inl rfl)) (pgs_cons (pg_name (i := 1) nd2 rfl (Or.inl rfl)) pgs_nil))) (fun _ _ _ _ => pts_nil)
        (fun _ _ _ _ => pe_tup (pa_cons (pe_ix (r := rIxT K) (by exact ix_tup) (pv 0) pe_int (fun _ _ => rfl)) (pa_cons (pe_ix (r := rIxT K) (by exact ix_tup) (pv 1) pe_int (fun _ _ => rfl)) (pa_cons (pe_ix (r := rIxT K) (by exact ix_tup) (pv 1) pe_int (fun _ _ => rfl)) pa_nil))))) rfl)
      (pss_one (ps_ret (pv 2))))), ?_⟩
    refine ⟨_, rfl, p, C, dx, _, _, rfl, hob, T.cl, T.nS, qf_ships _ _ _, a, as, S, rfl, hQ.sh, by omega, fun d bs H1 hd s1 hR => ?_⟩
    have hQ1 := hQ.same s1
    obtain ⟨dx1, hob1⟩ := hQ1.ob
    refine ⟨_, rfl, p, C, dx1, _, _, rfl, hob1, T.cl, T.nG, qf_gap _ _ _, d, bs, rowsOf S, g, rfl, hR, by unfold rowsOf; rw [List.length_map]; omega, fun m ms H2 hm s2 hM => ?_⟩
    have s02 := s1.trans s2
    have hQ2 := hQ.same s02
    have hml := mv_len_rows g S 0
    have eD := difL_sum g S 0
    have eU := movL_eq g S 0
    revert hM hml eD eU
    generalize mv g 0 (rowsOf S) = M
    intro hM hml eD eU
    obtain ⟨dx2, hob2⟩ := hQ2.ob
    have hasl := hQ2.sh.ts.len
    have hmsl := hM.ps.len
    have hdl : (difL S M).length = S.length := by unfold difL; rw [List.length_zipWith]; omega
    have hul : (movL S M).length = S.length := by unfold movL; rw [List.length_zipWith]; omega
    -- the metres
    refine ⟨_, rfl, p, C, dx2, _, _, rfl, hob2, T.cl, T.nS, qf_ships _ _ _, _, rfl, a, m, _, _, rfl, SqL.of hQ2.sh.ls, SqL.of hM.ls, fun e he => ?_⟩
    refine turns_zip (K := K) (a := a) (b := m) (xs := as.map V.ref) (ys := ms.map V.ref) (by rw [List.length_map, List.length_map]; omega) (fun i σ H3 => ∃ c c' : Option V, σ = [c, c'] ∧ Same H2 H3 ∧ H3 e = some (.lst (((difL S M).take i).map V.int)))
      ⟨none, none, rfl, upd_same_of he, upd_same⟩ (fun i σ H3 _ ⟨_, _, _, s3, _⟩ => ⟨SqL.of (s3 _ _ hQ2.sh.ls), SqL.of (s3 _ _ hM.ls)⟩) ?_ ?_
    · rintro i x y u σ H3 hx hy hu ⟨c, c', rfl, s3, he3⟩
      obtain ⟨z, hz, rfl⟩ := ref_at hx
      obtain ⟨z2, hz2, rfl⟩ := ref_at hy
      obtain ⟨t, ht, hzH⟩ := hQ2.sh.ts.get hz
      obtain ⟨r, hr', hzM⟩ := hM.ps.get hz2
      have hil : i < S.length := (List.getElem?_eq_some_iff.mp ht).1
      have sU : Same H3 (upd H3 u (.tup [.ref z, .ref z2])) := upd_same_of hu
      have eU3 : upd H3 u (.tup [.ref z, .ref z2]) u = some (.tup [.ref z, .ref z2]) := upd_same
      revert sU eU3
      generalize upd H3 u (.tup [.ref z, .ref z2]) = H4
      intro sU eU3
      refine ⟨u, _, rfl, SqT.of eU3, rfl, _, _, rfl, _, _, rfl, rfl, ?_⟩
      dsimp only [gName]
      refine noT ?_
      have hzT : SqT K H4 z (shV t) := SqT.of (sU _ _ (s3 _ _ hzH))
      have hrT : SqT K H4 z2 [.int r.1, .int r.2] := SqT.of (sU _ _ (s3 _ _ hzM))
      have hD : (difL S M)[i]? = some (t.2.1 - r.1) := by
        unfold difL
        rw [List.getElem?_zipWith, ht, hr']
      refine ⟨_, rfl, z, _, _, .int t.2.1, rfl, rfl, hzT, atI_nat (j := 1) rfl, _, rfl, z2, _, _, .int r.1, rfl, rfl, hrT, atI_nat (j := 0) rfl, _, _, rfl, rfl, _, sU _ _ he3, sz_lt (by rw [List.length_map, List.length_take]; omega), some (.ref z), some (.ref z2), rfl, fun b o q => ?_, ?_⟩
      · rw [upd_ne (ne_of_none q he)]; exact sU _ _ (s3 b o q)
      · rw [upd_same, take_snoc hD, List.map_append]; rfl
    · rintro σ H3 ⟨c, c', rfl, s3, he3⟩
      rw [List.length_map, hasl, ← hdl, List.take_length] at he3
      refine ⟨e, _, rfl, SqL.of he3, ?_⟩
      rw [eD]
      have hQ3 := hQ2.same s3
      have hM3 := hM.same s3
      obtain ⟨dx3, hob3⟩ := hQ3.ob
      -- the ships
      refine ⟨_, rfl, p, C, dx3, _, _, rfl, hob3, T.cl, T.nS, qf_ships _ _ _, _, rfl, a, m, _, _, rfl, SqL.of hQ3.sh.ls, SqL.of hM3.ls, fun d2 hd2 => ?_⟩
      refine turns_zip (K := K) (a := a) (b := m) (xs := as.map V.ref) (ys := ms.map V.ref) (by rw [List.length_map, List.length_map]; omega) (fun i σ H5 => ∃ (c c' : Option V) (cs : List Addr), σ = [c, c'] ∧ Same H3 H5 ∧ H5 d2 = some (.lst (cs.map V.ref)) ∧ Tups shV H5 cs ((movL S M).take i))
        ⟨none, none, [], rfl, upd_same_of hd2, upd_same, .nil⟩ (fun i σ H5 _ ⟨_, _, _, _, s5, _⟩ => ⟨SqL.of (s5 _ _ hQ3.sh.ls), SqL.of (s5 _ _ hM3.ls)⟩) ?_ ?_
      · rintro i x y u σ H5 hx hy hu ⟨c, c', cs, rfl, s5, hd5, ht5⟩
        obtain ⟨z, hz, rfl⟩ := ref_at hx
        obtain ⟨z2, hz2, rfl⟩ := ref_at hy
        obtain ⟨t, ht, hzH⟩ := hQ3.sh.ts.get hz
        obtain ⟨r, hr', hzM⟩ := hM3.ps.get hz2
        have hil : i < S.length := (List.getElem?_eq_some_iff.mp ht).1
        have hcl : cs.length = i := by have := ht5.len; rw [List.length_take] at this; omega
        have sU : Same H5 (upd H5 u (.tup [.ref z, .ref z2])) := upd_same_of hu
        have eU3 : upd H5 u (.tup [.ref z, .ref z2]) u = some (.tup [.ref z, .ref z2]) := upd_same
        revert sU eU3
        generalize upd H5 u (.tup [.ref z, .ref z2]) = H6
        intro sU eU3
        refine ⟨u, _, rfl, SqT.of eU3, rfl, _, _, rfl, _, _, rfl, rfl, ?_⟩
        dsimp only [gName]
        refine noT ?_
        have hzT : SqT K H6 z (shV t) := SqT.of (sU _ _ (s5 _ _ hzH))
        have hrT : SqT K H6 z2 [.int r.1, .int r.2] := SqT.of (sU _ _ (s5 _ _ hzM))
        have hD : (movL S M)[i]? = some (t.1, r.1, r.2) := by
          unfold movL
          rw [List.getElem?_zipWith, ht, hr']
        refine ⟨_, rfl, z, _, _, .str t.1, rfl, rfl, hzT, atI_nat (j := 0) rfl, _, rfl, z2, _, _, .int r.1, rfl, rfl, hrT, atI_nat (j := 0) rfl, _, rfl, z2, _, _, .int r.2, rfl, rfl, hrT, atI_nat (j := 1) rfl, sz_le (by show 3 ≤ 100000; decide), fun v hv => ?_⟩
        have hd6 := sU _ _ hd5
        have nv : d2 ≠ v := ne_of_none hd6 hv
        refine ⟨_, (by rw [upd_ne nv]; exact hd6), sz_lt (by rw [List.length_map]; omega), some (.ref z), some (.ref z2), cs ++ [v], rfl, fun b o q => ?_, by rw [upd_same, List.map_append]; rfl, ?_⟩
        · have q2 := sU _ _ (s5 b o q)
          rw [upd_ne (ne_of_none q hd2), upd_ne (ne_of_none q2 hv)]
          exact q2
        · rw [take_snoc hD]
          refine Tups.snoc ?_ (ht5.mono fun b xs q => ?_)
          · rw [upd_ne (Ne.symm nv), upd_same]; rfl
          · have q2 := sU _ _ q
            rw [upd_ne (ne_of q2 hd6 (by intro z; cases z)), upd_ne (ne_of_none q2 hv)]; exact q2
      · rintro σ H5 ⟨c, c', cs, rfl, s5, hd5, ht5⟩
        rw [List.length_map, hasl, ← hul, List.take_length, eU] at ht5
        have s05 := (s02.trans s3).trans s5
        obtain ⟨dx5, hob5⟩ := (hQ.same s05).ob
        refine ⟨_, rfl, p, C, dx5, _, rfl, hob5, T.cl, T.nS, qf_few _ _ _, ?_⟩
        have npd : p ≠ d2 := ne_of hob5 hd5 (by intro z; cases z)
        rw [qf_put]
        refine ⟨_, rfl, k _ d2 cs (fun b o q hb => by rw [upd_ne hb]; exact s05 _ _ q) (Same.free (s02.trans s3) hd2) ⟨⟨dx5, upd_same⟩, ⟨by rw [upd_ne npd.symm]; exact hd5, ht5.mono fun b xs q => ?_⟩⟩⟩
        rw [upd_ne (ne_of q hob5 (by intro z; cases z))]; exact q
end
end Bl
namespace Bl
open PySem PySem.Spec PyProof.Rows L2
/-! ### x.split() of words with a blank between -/
def NoSp (a : Str) : Prop := (∀ c ∈ a.cps.toList, Unicode.isSpace c = false) ∧ a.length ≠ 0
theorem fold_word (ws : List Str) : ∀ (cs : List Nat) (run : Str), (∀ c ∈ cs, Unicode.isSpace c = false) → cs.foldl KWd.step (ws, run) = (ws, run ++ ⟨cs.toArray⟩)
  | [], run, _ => by
    have : run ++ (⟨([] : List Nat).toArray⟩ : Str) = run := Str.ext' (by rw [Str.cps_append]; simp)
    rw [this]; rfl
  | c :: cs, run, h => by
    rw [List.foldl_cons]
    have e : KWd.step (ws, run) c = (ws, run ++ ⟨#[c]⟩) := by
      unfold KWd.step
      rw [if_neg (by rw [h c List.mem_cons_self]; exact Bool.false_ne_true)]
    rw [e, fold_word ws cs _ fun x hx => h x (List.mem_cons_of_mem _ hx)]
    congr 1
    apply Str.ext'
    simp [Str.cps_append]
theorem fold_str {a : Str} (h : NoSp a) (ws : List Str) : a.cps.toList.foldl KWd.step (ws, Str.empty) = (ws, a) := by
  rw [fold_word ws _ _ h.1]
  congr 1
  apply Str.ext'
  rw [Str.cps_append]
  simp [Str.empty]
theorem fold_sp {a : Str} (h : NoSp a) (ws : List Str) : [32].foldl KWd.step (ws, a) = (ws ++ [a], Str.empty) := by
  show KWd.step (ws, a) 32 = _
  unfold KWd.step
  rw [if_pos (by decide +kernel), if_neg h.2]
theorem words_of_fold {x : Str} {ws : List Str} {r : Str} (h : x.cps.toList.foldl KWd.step ([], Str.empty) = (ws, r)) (hr : r.length ≠ 0) : Txt.words x = ws ++ [r] := by
  rw [KWd.words_of (show KWd.scan x = (ws, r) from h), if_neg hr]
theorem words1 {a : Str} (ha : NoSp a) : Txt.words a = [a] := words_of_fold (ws := []) (fold_str ha []) ha.2
theorem words2 {a b : Str} (ha : NoSp a) (hb : NoSp b) : Txt.words (a ++ Str.ofString " " ++ b) = [a, b] := by
  refine words_of_fold (ws := [a]) ?_ hb.2
  rw [Str.cps_append, Str.cps_append, sp_cps, Array.toList_append, Array.toList_append, List.foldl_append, List.foldl_append, fold_str ha]
  rw [show (#[32] : Array Nat).toList = [32] from rfl, fold_sp ha, fold_str hb]
  rfl
theorem words3 {a b c : Str} (ha : NoSp a) (hb : NoSp b) (hc : NoSp c) : Txt.words (a ++ Str.ofString " " ++ b ++ Str.ofString " " ++ c) = [a, b, c] := by
  refine words_of_fold (ws := [a, b]) ?_ hc.2
  rw [Str.cps_append, Str.cps_append, Str.cps_append, Str.cps_append, sp_cps]
  simp only [Array.toList_append, List.foldl_append]
  rw [fold_str ha, fold_sp ha, fold_str hb, fold_sp hb, fold_str hc]
  rfl
end Bl
namespace Bl
open PySem PySem.Spec PyProof.Rows L2
def deedOf (spot c : Int) : Deed := if c % 5 < 3 then .come (nameS spot c) (lnI c) else if c % 5 = 3 then .leave (nameS spot c) else .up
def deedsOf (cs : List Int) : List Deed := cs.map (deedOf (spotOf cs))
theorem spot_lo (cs : List Int) : 0 ≤ spotOf cs ∧ spotOf cs < 30 := ⟨Int.emod_nonneg _ (by decide), Int.emod_lt_of_pos _ (by decide)⟩
theorem other_no32 : ∀ k : Nat, k < 30 → 32 ∉ (otherS (k : Int)).cps.toList := by decide +kernel
theorem name_mem (spot c : Int) : nameS spot c ∈ namesS spot := by
  have h1 : c / 5 % 5 < 5 := Int.emod_lt_of_pos _ (by decide)
  have h0 : 0 ≤ c / 5 % 5 := Int.emod_nonneg _ (by decide)
  have hl : nmI c < (namesS spot).length := by show nmI c < 5; unfold nmI; omega
  unfold nameS
  rw [List.getD_eq_getElem?_getD, List.getElem?_eq_getElem hl]
  exact List.getElem_mem hl
theorem names_no32 {spot : Int} (h0 : 0 ≤ spot) (h1 : spot < 30) : ∀ n ∈ namesS spot, 32 ∉ n.cps.toList := by
  intro n hn
  have a1 : 32 ∉ (Str.ofString "a").cps.toList := by decide +kernel
  have a2 : 32 ∉ (Str.ofString "ab").cps.toList := by decide +kernel
  have a3 : 32 ∉ farS.cps.toList := by decide +kernel
  have a5 : 32 ∉ (Str.ofString "Z").cps.toList := by decide +kernel
  simp only [namesS, List.mem_cons, List.not_mem_nil, or_false] at hn
  rcases hn with rfl | rfl | rfl | rfl | rfl
  · exact a1
  · exact a2
  · exact a3
  · have := other_no32 spot.toNat (by omega)
    rwa [Int.toNat_of_nonneg h0] at this
  · exact a5
theorem ln_mem (c : Int) : lnI c ∈ lensI := by
  have h1 : c / 25 % 8 < 8 := Int.emod_lt_of_pos _ (by decide)
  have h0 : 0 ≤ c / 25 % 8 := Int.emod_nonneg _ (by decide)
  have hl : (c / 25 % 8).toNat < lensI.length := by show (c / 25 % 8).toNat < 8; omega
  unfold lnI
  rw [List.getD_eq_getElem?_getD, List.getElem?_eq_getElem hl]
  exact List.getElem_mem hl
theorem lens_txt : ∀ l ∈ lensI, 32 ∉ (Str.ofString (toString l)).cps.toList ∧ intText? (Str.ofString (toString l)) = some l ∧ -1 ≤ l ∧ l ≤ 9 := by decide +kernel
theorem strKind_ge (x : Str) : decide (Builtin.Str.strKind x < Builtin.Str.strKind " ") = false := by
  have e : Builtin.Str.strKind " " = 1 := by decide +kernel
  rw [e]
  unfold Builtin.Str.strKind
  split
  · rfl
  · split <;> rfl
theorem come_no32 : 32 ∉ (Str.ofString "come").cps.toList := by decide +kernel
theorem leave_no32 : 32 ∉ (Str.ofString "leave").cps.toList := by decide +kernel
theorem up_no32 : 32 ∉ (Str.ofString "up").cps.toList := by decide +kernel
theorem come_eq : (Str.ofString "come ") = Str.ofString "come" ++ Str.ofString " " := by decide +kernel
theorem leave_eq : (Str.ofString "leave ") = Str.ofString "leave" ++ Str.ofString " " := by decide +kernel
/-- what a row of the day splits to -/
theorem row_come {spot c : Int} (h0 : 0 ≤ spot) (h1 : spot < 30) (h : c % 5 < 3) : splitS (rowS spot c) " " = [Str.ofString "come", nameS spot c, Str.ofString (toString (lnI c))] := by
  unfold rowS
  rw [if_pos h, come_eq]
  exact split3 come_no32 (names_no32 h0 h1 _ (name_mem spot c)) (lens_txt _ (ln_mem c)).1
theorem row_leave {spot c : Int} (h0 : 0 ≤ spot) (h1 : spot < 30) (h : ¬ c % 5 < 3) (h' : c % 5 = 3) : splitS (rowS spot c) " " = [Str.ofString "leave", nameS spot c] := by
  unfold rowS
  rw [if_neg h, if_pos h', leave_eq]
  exact split2 leave_no32 (names_no32 h0 h1 _ (name_mem spot c))
theorem row_up {spot c : Int} (h : ¬ c % 5 < 3) (h' : ¬ c % 5 = 3) : splitS (rowS spot c) " " = [Str.ofString "up"] := by
  unfold rowS
  rw [if_neg h, if_neg h']
  exact split1 up_no32
theorem rowS_len (spot c : Int) : 1 ≤ (rowS spot c).length ∧ (rowS spot c).length ≤ 100 := by
  have hn := nameS_len spot c
  have hl := (ln_small c).2
  have hc5 : (Str.ofString "come ").length = 5 := by decide +kernel
  have hc6 : (Str.ofString "leave ").length = 6 := by decide +kernel
  have hc1 : (Str.ofString " ").length = 1 := by decide +kernel
  have hc2 : (Str.ofString "up").length = 2 := by decide +kernel
  unfold rowS
  split
  · rw [Str.length_append, Str.length_append, Str.length_append, hc5, hc1]; omega
  · split
    · rw [Str.length_append, hc6]; omega
    · rw [hc2]; omega
theorem row_can {spot c : Int} : (decide ((rowS spot c).length < (Str.ofString " ").length) || decide (Builtin.Str.strKind (rowS spot c) < Builtin.Str.strKind " ")) = false := by
  have hc1 : (Str.ofString " ").length = 1 := by decide +kernel
  have := (rowS_len spot c).1
  rw [strKind_ge, hc1, Bool.or_false]
  exact decide_eq_false (by omega)
/-- the three kinds of a row, its words and its deed -/
theorem row_kinds {spot : Int} (c : Int) (h0 : 0 ≤ spot) (h1 : spot < 30) :
    (splitS (rowS spot c) " " = [Str.ofString "come", nameS spot c, Str.ofString (toString (lnI c))] ∧ deedOf spot c = .come (nameS spot c) (lnI c)) ∨
    (splitS (rowS spot c) " " = [Str.ofString "leave", nameS spot c] ∧ deedOf spot c = .leave (nameS spot c)) ∨
    (splitS (rowS spot c) " " = [Str.ofString "up"] ∧ deedOf spot c = .up) := by
  by_cases h : c % 5 < 3
  · exact .inl ⟨row_come h0 h1 h, by unfold deedOf; rw [if_pos h]⟩
  · by_cases h' : c % 5 = 3
    · exact .inr (.inl ⟨row_leave h0 h1 h h', by unfold deedOf; rw [if_neg h, if_pos h']⟩)
    · exact .inr (.inr ⟨row_up h h', by unfold deedOf; rw [if_neg h, if_neg h']⟩)
/-! ### at most five ships -/
theorem nodup_le {α : Type} [BEq α] [LawfulBEq α] : ∀ {l1 l2 : List α}, l1.Nodup → (∀ x ∈ l1, x ∈ l2) → l1.length ≤ l2.length
  | [], _, _, _ => Nat.zero_le _
  | a :: l, l2, h, k => by
    obtain ⟨h1, h2⟩ := List.nodup_cons.mp h
    have ha := k a List.mem_cons_self
    have := nodup_le (l1 := l) (l2 := l2.erase a) h2 fun x hx => (List.mem_erase_of_ne (by intro e; subst e; exact h1 hx)).mpr (k x (List.mem_cons_of_mem _ hx))
    rw [List.length_erase_of_mem ha] at this
    have h3 : 0 < l2.length := List.length_pos_of_mem ha
    simp only [List.length_cons]
    omega
def NamesIn (N : List Str) (S : List Ship) : Prop := ∀ s ∈ S, s.1 ∈ N
theorem NamesIn.step {N : List Str} {g q : Int} {S : List Ship} {d : Deed} (h : NamesIn N S) (hd : ∀ n l, d = .come n l → n ∈ N) : NamesIn N (stepS g q S d).1 := by
  cases d with
  | come n l =>
    simp only [stepS]
    split
    · intro s hs
      rcases ins_mem.mp hs with rfl | hs
      · exact hd n l rfl
      · exact h s hs
    · exact h
  | leave n =>
    simp only [stepS]
    split
    · intro s hs
      exact h s (List.mem_filter.mp hs).1
    · exact h
  | up =>
    intro s hs
    have : s.1 ∈ (upS g 0 S).map (·.1) := List.mem_map_of_mem hs
    rw [up_names] at this
    obtain ⟨t, ht, e⟩ := List.mem_map.mp this
    have := h t ht
    rw [← e]
    exact this
theorem NamesIn.run {N : List Str} {g q : Int} : ∀ {ds : List Deed} {S : List Ship}, NamesIn N S → (∀ n l, Deed.come n l ∈ ds → n ∈ N) → NamesIn N (runS g q S ds).1
  | [], _, h, _ => h
  | d :: ds, S, h, k => NamesIn.run (ds := ds) (S := (stepS g q S d).1) (h.step fun n l e => k n l (by rw [e]; exact List.mem_cons_self)) fun n l m => k n l (List.mem_cons_of_mem _ m)
theorem deeds_names (cs : List Int) (i : Nat) : ∀ n l, Deed.come n l ∈ (cs.take i).map (deedOf (spotOf cs)) → n ∈ namesS (spotOf cs) := by
  intro n l h
  obtain ⟨c, _, e⟩ := List.mem_map.mp h
  unfold deedOf at e
  split at e
  · cases e
    exact name_mem _ _
  · split at e <;> cases e
/-- the quay behind the first i rows -/
def shipsAt (g q : Int) (cs : List Int) (i : Nat) : List Ship := (runS g q [] ((cs.take i).map (deedOf (spotOf cs)))).1
def answersAt (g q : Int) (cs : List Int) (i : Nat) : List Str := (runS g q [] ((cs.take i).map (deedOf (spotOf cs)))).2
theorem shipsAt_inv {g q : Int} (hg : 0 ≤ g) (hq : 0 ≤ q) (cs : List Int) (i : Nat) : QInv g q (shipsAt g q cs i) := QInv.run hg hq _ QInv.nil
theorem five {g q : Int} {N : List Str} {S : List Ship} (I : QInv g q S) (h : NamesIn N S) : S.length ≤ N.length := by
  have := nodup_le (l2 := N) I.nd fun x hx => by
    obtain ⟨t, ht, e⟩ := List.mem_map.mp hx
    have := h t ht
    rw [← e]
    exact this
  simpa using this
theorem shipsAt_five {g q : Int} (hg : 0 ≤ g) (hq : 0 ≤ q) (cs : List Int) (i : Nat) : (shipsAt g q cs i).length ≤ 5 :=
  five (N := namesS (spotOf cs)) (shipsAt_inv hg hq cs i) (NamesIn.run (fun s hs => nomatch hs) (deeds_names cs i))
theorem at_snoc {g q : Int} {cs : List Int} {i : Nat} {c : Int} (h : cs[i]? = some c) : shipsAt g q cs (i + 1) = (stepS g q (shipsAt g q cs i) (deedOf (spotOf cs) c)).1 ∧ answersAt g q cs (i + 1) = answersAt g q cs i ++ [(stepS g q (shipsAt g q cs i) (deedOf (spotOf cs) c)).2] := by
  unfold shipsAt answersAt
  rw [take_snoc h, List.map_append]
  show (runS g q [] (_ ++ [_])).1 = _ ∧ (runS g q [] (_ ++ [_])).2 = _
  rw [runS_snoc]
  exact ⟨rfl, rfl⟩
theorem answersAt_len (g q : Int) : ∀ (ds : List Deed) (S : List Ship), (runS g q S ds).2.length = ds.length
  | [], _ => rfl
  | d :: ds, S => by simp only [runS, List.length_cons, answersAt_len g q ds]
end Bl
namespace Bl
open PySem PySem.Spec PyProof.Rows L2
/-! ### a row of a day and its deed; a day -/
def RowOk (r : Str) (d : Deed) : Prop := 1 ≤ r.length ∧ r.length ≤ 100 ∧ match d with
  | .come n l => r = Str.ofString "come " ++ n ++ Str.ofString " " ++ numS l ∧ splitS r " " = [Str.ofString "come", n, numS l] ∧ intText? (numS l) = some l ∧ (numS l).length ≤ 2 ∧ -1 ≤ l ∧ l ≤ 9 ∧ n.length ≤ 61
  | .leave n => splitS r " " = [Str.ofString "leave", n]
  | .up => splitS r " " = [Str.ofString "up"]
/-- the words of a row as a split without a mark tells them; a name's written form is short -/
def RowX (r : Str) (d : Deed) : Prop := match d with
  | .come n l => Txt.words r = [Str.ofString "come", n, numS l] ∧ (reprText n).length ≤ 1000
  | .leave n => Txt.words r = [Str.ofString "leave", n] ∧ (reprText n).length ≤ 1000
  | .up => Txt.words r = [Str.ofString "up"]
structure DayOk (rows : List Str) (ds : List Deed) : Prop where
  pr : Paired RowOk rows ds
  ln : rows.length ≤ 70
  fv : ∀ g q : Int, 0 ≤ g → 0 ≤ q → ∀ i, (runS g q [] (ds.take i)).1.length ≤ 5
  xt : Paired RowX rows ds
theorem Paired.getR {α β : Type} {R : α → β → Prop} : ∀ {as : List α} {bs : List β}, Paired R as bs → ∀ {i : Nat} {a : α}, as[i]? = some a → ∃ b, bs[i]? = some b ∧ R a b
  | _, _, .nil, _, _, e => by simp at e
  | _, _, .cons r _, 0, _, e => by simp at e; subst e; exact ⟨_, rfl, r⟩
  | _, _, .cons _ t, i + 1, a, e => by
    obtain ⟨b, h1, h2⟩ := Paired.getR t (i := i) (a := a) (by simpa using e)
    exact ⟨b, by simpa using h1, h2⟩
theorem Paired.getL {α β : Type} {R : α → β → Prop} : ∀ {as : List α} {bs : List β}, Paired R as bs → ∀ {i : Nat} {b : β}, bs[i]? = some b → ∃ a, as[i]? = some a ∧ R a b
  | _, _, .nil, _, _, e => by simp at e
  | _, _, .cons r _, 0, _, e => by simp at e; subst e; exact ⟨_, rfl, r⟩
  | _, _, .cons _ t, i + 1, b, e => by
    obtain ⟨a, h1, h2⟩ := Paired.getL t (i := i) (b := b) (by simpa using e)
    exact ⟨a, by simpa using h1, h2⟩
theorem Paired.len {α β : Type} {R : α → β → Prop} : ∀ {as : List α} {bs : List β}, Paired R as bs → as.length = bs.length
  | _, _, .nil => rfl
  | _, _, .cons _ t => by simp [Paired.len t]
theorem Paired.app {α β : Type} {R : α → β → Prop} : ∀ {as : List α} {bs : List β}, Paired R as bs → ∀ {as' : List α} {bs' : List β}, Paired R as' bs' → Paired R (as ++ as') (bs ++ bs')
  | _, _, .nil, _, _, h => h
  | _, _, .cons r t, _, _, h => .cons r (Paired.app t h)
theorem Paired.maps {α β γ : Type} {R : α → β → Prop} {f : γ → α} {k : γ → β} (h : ∀ x, R (f x) (k x)) : ∀ l : List γ, Paired R (l.map f) (l.map k)
  | [] => .nil
  | x :: l => .cons (h x) (Paired.maps h l)
theorem row_ok {spot : Int} (c : Int) (h0 : 0 ≤ spot) (h1 : spot < 30) : RowOk (rowS spot c) (deedOf spot c) := by
  have hl := lens_txt _ (ln_mem c)
  have hs := (ln_small c).2
  have hr := rowS_len spot c
  refine ⟨hr.1, hr.2, ?_⟩
  by_cases h : c % 5 < 3
  · have e : deedOf spot c = .come (nameS spot c) (lnI c) := by unfold deedOf; rw [if_pos h]
    rw [e]
    refine ⟨?_, row_come h0 h1 h, hl.2.1, hs, hl.2.2.1, hl.2.2.2, nameS_len _ _⟩
    unfold rowS; rw [if_pos h]; rfl
  · by_cases h' : c % 5 = 3
    · have e : deedOf spot c = .leave (nameS spot c) := by unfold deedOf; rw [if_neg h, if_pos h']
      rw [e]
      exact row_leave h0 h1 h h'
    · have e : deedOf spot c = .up := by unfold deedOf; rw [if_neg h, if_neg h']
      rw [e]
      exact row_up h h'
theorem come_nosp : NoSp (Str.ofString "come") := ⟨by decide +kernel, by decide +kernel⟩
theorem leave_nosp : NoSp (Str.ofString "leave") := ⟨by decide +kernel, by decide +kernel⟩
theorem up_nosp : NoSp (Str.ofString "up") := ⟨by decide +kernel, by decide +kernel⟩
theorem other_nosp : ∀ k : Nat, k < 30 → (∀ c ∈ (otherS (k : Int)).cps.toList, Unicode.isSpace c = false) ∧ (otherS (k : Int)).length ≠ 0 ∧ (reprText (otherS (k : Int))).length ≤ 1000 := by decide +kernel
theorem names_nosp {spot : Int} (h0 : 0 ≤ spot) (h1 : spot < 30) : ∀ n ∈ namesS spot, NoSp n ∧ (reprText n).length ≤ 1000 := by
  intro n hn
  have a1 : (∀ c ∈ (Str.ofString "a").cps.toList, Unicode.isSpace c = false) ∧ (Str.ofString "a").length ≠ 0 ∧ (reprText (Str.ofString "a")).length ≤ 1000 := by decide +kernel
  have a2 : (∀ c ∈ (Str.ofString "ab").cps.toList, Unicode.isSpace c = false) ∧ (Str.ofString "ab").length ≠ 0 ∧ (reprText (Str.ofString "ab")).length ≤ 1000 := by decide +kernel
  have a3 : (∀ c ∈ farS.cps.toList, Unicode.isSpace c = false) ∧ farS.length ≠ 0 ∧ (reprText farS).length ≤ 1000 := by decide +kernel
  have a5 : (∀ c ∈ (Str.ofString "Z").cps.toList, Unicode.isSpace c = false) ∧ (Str.ofString "Z").length ≠ 0 ∧ (reprText (Str.ofString "Z")).length ≤ 1000 := by decide +kernel
  simp only [namesS, List.mem_cons, List.not_mem_nil, or_false] at hn
  rcases hn with rfl | rfl | rfl | rfl | rfl
  · exact ⟨⟨a1.1, a1.2.1⟩, a1.2.2⟩
  · exact ⟨⟨a2.1, a2.2.1⟩, a2.2.2⟩
  · exact ⟨⟨a3.1, a3.2.1⟩, a3.2.2⟩
  · have := other_nosp spot.toNat (by omega)
    rw [Int.toNat_of_nonneg h0] at this
    exact ⟨⟨this.1, this.2.1⟩, this.2.2⟩
  · exact ⟨⟨a5.1, a5.2.1⟩, a5.2.2⟩
theorem lens_nosp : ∀ l ∈ lensI, (∀ c ∈ (numS l).cps.toList, Unicode.isSpace c = false) ∧ (numS l).length ≠ 0 := by decide +kernel
theorem row_x {spot : Int} (c : Int) (h0 : 0 ≤ spot) (h1 : spot < 30) : RowX (rowS spot c) (deedOf spot c) := by
  have hn := names_nosp h0 h1 _ (name_mem spot c)
  by_cases h : c % 5 < 3
  · have e : deedOf spot c = .come (nameS spot c) (lnI c) := by unfold deedOf; rw [if_pos h]
    rw [e]
    refine ⟨?_, hn.2⟩
    unfold rowS
    rw [if_pos h, come_eq]
    exact words3 come_nosp hn.1 (lens_nosp _ (ln_mem c))
  · by_cases h' : c % 5 = 3
    · have e : deedOf spot c = .leave (nameS spot c) := by unfold deedOf; rw [if_neg h, if_pos h']
      rw [e]
      refine ⟨?_, hn.2⟩
      unfold rowS
      rw [if_neg h, if_pos h', leave_eq]
      exact words2 leave_nosp hn.1
    · have e : deedOf spot c = .up := by unfold deedOf; rw [if_neg h, if_neg h']
      rw [e]
      show Txt.words _ = _
      unfold rowS
      rw [if_neg h, if_neg h']
      exact words1 up_nosp
theorem day_ok {cs : List Int} (h : cs.length ≤ 63) : DayOk (dayOf cs) (deedsOf cs) := by
  obtain ⟨h0, h1⟩ := spot_lo cs
  refine ⟨Paired.maps (fun c => row_ok c h0 h1) cs, by unfold dayOf; rw [List.length_map]; omega, fun g q hg hq i => ?_, Paired.maps (fun c => row_x c h0 h1) cs⟩
  have := shipsAt_five hg hq cs i
  unfold shipsAt at this
  unfold deedsOf
  rw [← List.map_take]
  exact this
theorem rowOk_can {r : Str} {d : Deed} (h : RowOk r d) : (decide (r.length < (Str.ofString " ").length) || decide (Builtin.Str.strKind r < Builtin.Str.strKind " ")) = false := by
  have hc1 : (Str.ofString " ").length = 1 := by decide +kernel
  have := h.1
  rw [strKind_ge, hc1, Bool.or_false]
  exact decide_eq_false (by omega)
theorem rowOk_few {r : Str} {d : Deed} (h : RowOk r d) : (splitS r " ").length ≤ 3 := by
  obtain ⟨_, _, h⟩ := h
  cases d with
  | come n l => rw [h.2.1]; simp
  | leave n => rw [show splitS r " " = _ from h]; simp
  | up => rw [show splitS r " " = _ from h]; simp
/-! ### what the program's own day is to do -/
def spTold : Sp := fun vs H Q _ => ∃ (p : Addr) (rows : List Str) (ds : List Deed) (g q : Int), vs = [.int q, .int g, .ref p] ∧ H p = some (.lst (rows.map V.str)) ∧ DayOk rows ds ∧ 0 ≤ g ∧ g ≤ 2 ∧ 0 ≤ q ∧ q ≤ 1000000000000 ∧
  ∀ (r : Addr) (H' : Hp), H r = none → Same H H' → H' r = some (.lst ((runS g q [] ds).2.map V.str)) → Q (.ref r) H'
def spBerP : Sp := fun vs H Q _ => ∃ (p : Addr) (rows : List Str) (ds : List Deed) (g q : Int), vs = [.int q, .int g, .ref p] ∧ H p = some (.lst (rows.map V.str)) ∧ DayOk rows ds ∧ 0 ≤ g ∧ g ≤ 2 ∧ 0 ≤ q ∧ q ≤ 1000000000000 ∧
  ∀ (r : Addr) (as : List Addr) (H' : Hp), H r = none → Same H H' → ShipsAt shV H' r as (runS g q [] ds).1 → Q (.ref r) H'
/-! ### each ship has a length that a row tells for it -/
theorem run_said {g q : Int} : ∀ {ds : List Deed} {S : List Ship}, ∀ s ∈ (runS g q S ds).1, (∃ t ∈ S, t.1 = s.1 ∧ t.2.2 = s.2.2) ∨ Deed.come s.1 s.2.2 ∈ ds
  | [], _, s, h => .inl ⟨s, h, rfl, rfl⟩
  | d :: ds, S, s, h => by
    rcases run_said (ds := ds) (S := (stepS g q S d).1) s h with ⟨t, ht, e1, e2⟩ | h
    · cases d with
      | come n l =>
        simp only [stepS] at ht
        split at ht
        · rcases ins_mem.mp ht with rfl | ht
          · right; rw [← e1, ← e2]; exact List.mem_cons_self
          · exact .inl ⟨t, ht, e1, e2⟩
        · exact .inl ⟨t, ht, e1, e2⟩
      | leave n =>
        simp only [stepS] at ht
        split at ht
        · exact .inl ⟨t, (List.mem_filter.mp ht).1, e1, e2⟩
        · exact .inl ⟨t, ht, e1, e2⟩
      | up =>
        have hm : (t.1, t.2.2) ∈ (upS g 0 S).map (fun s => (s.1, s.2.2)) := List.mem_map_of_mem (f := fun s : Ship => (s.1, s.2.2)) ht
        rw [up_lens] at hm
        obtain ⟨u, hu, e⟩ := List.mem_map.mp hm
        obtain ⟨e3, e4⟩ := Prod.mk.inj e
        exact .inl ⟨u, hu, e3.trans e1, e4.trans e2⟩
    · exact .inr (List.mem_cons_of_mem _ h)
/-! ### the end of the last one of the first i -/
def lastEnd (g : Int) : Int → List Ship → Int
  | e, [] => e
  | _, s :: r => lastEnd g (s.2.1 + s.2.2 + g) r
theorem lastEnd_snoc (g : Int) (s : Ship) : ∀ (S : List Ship) (e : Int), lastEnd g e (S ++ [s]) = s.2.1 + s.2.2 + g
  | [], _ => rfl
  | t :: S, e => by simp only [List.cons_append, lastEnd]; exact lastEnd_snoc g s S _
theorem spaced_at {g : Int} : ∀ {S : List Ship} {e : Int} {i : Nat} {s : Ship}, Spaced g e (rowsOf S) → S[i]? = some s → lastEnd g e (S.take i) ≤ s.2.1 ∧ 1 ≤ s.2.2
  | [], _, _, _, _, e => by simp at e
  | t :: S, e, 0, s, h, hi => by
    simp at hi; subst hi
    obtain ⟨h1, h2, h3⟩ := h
    exact ⟨h1, h2⟩
  | t :: S, e, i + 1, s, h, hi => by
    obtain ⟨h1, h2, h3⟩ := h
    exact spaced_at (S := S) (i := i) h3 (by simpa using hi)
theorem nodup_at {S : List Ship} (h : (S.map (·.1)).Nodup) {i : Nat} {s : Ship} (e : S[i]? = some s) : s.1 ∉ (S.take i).map (·.1) := by
  have hi : i < S.length := (List.getElem?_eq_some_iff.mp e).1
  have h1 : S.take (i + 1) = S.take i ++ [s] := take_snoc e
  have h2 : ((S.take (i + 1)).map (·.1)).Nodup := h.sublist ((List.take_sublist _ _).map _)
  rw [h1, List.map_append, List.nodup_append] at h2
  intro hm
  exact h2.2.2 s.1 hm s.1 (by simp) rfl
end Bl
namespace Bl
open PySem PySem.Spec PyProof.Rows L2
/-! ### the numbers of the day's words -/
/-! ### texts of digits as numbers, however many -/
theorem dropW_no {p : Nat → Bool} : ∀ {l : List Nat}, (∀ c ∈ l, p c = false) → l.dropWhile p = l
  | [], _ => rfl
  | c :: r, h => by rw [List.dropWhile_cons, if_neg (by rw [h c List.mem_cons_self]; exact Bool.false_ne_true)]
theorem takeW_all {p : Nat → Bool} : ∀ {l : List Nat}, (∀ c ∈ l, p c = true) → l.takeWhile p = l
  | [], _ => rfl
  | c :: r, h => by rw [List.takeWhile_cons, if_pos (h c List.mem_cons_self), takeW_all fun d hd => h d (List.mem_cons_of_mem _ hd)]
def DigC (c : Nat) : Prop := 48 ≤ c ∧ c ≤ 57
theorem dig_step {acc : Array Nat} {b : Bool} {c : Nat} (h : DigC c) : NumText.step 10 (acc, b) c = some (acc.push (c - 48), true) := by
  obtain ⟨h1, h2⟩ := h
  have e1 : (c == 95) = false := beq_eq_false_iff_ne.mpr (by omega)
  have e2 : NumText.digit? c = some (c - 48) := by
    unfold NumText.digit?
    rw [if_pos (by rw [decide_eq_true h1, decide_eq_true h2]; rfl)]
  unfold NumText.step
  rw [e1, e2]
  show (if c - 48 < 10 then _ else _) = _
  rw [if_pos (by omega)]
theorem dig_fold : ∀ (cs : List Nat) (acc : Array Nat) (b : Bool), (∀ c ∈ cs, DigC c) → cs.foldlM (NumText.step 10) (acc, b) = some (acc ++ (cs.map (· - 48)).toArray, b || !cs.isEmpty)
  | [], acc, b, _ => by
    show some (acc, b) = _
    simp
  | c :: r, acc, b, h => by
    rw [List.foldlM_cons, dig_step (h c List.mem_cons_self)]
    show r.foldlM (NumText.step 10) (acc.push (c - 48), true) = _
    rw [dig_fold r _ _ fun d hd => h d (List.mem_cons_of_mem _ hd)]
    simp
theorem dig_int {cs : List Nat} (h : ∀ c ∈ cs, DigC c) (hn : cs ≠ []) (hl : cs.length ≤ 4300) : intText? ⟨cs.toArray⟩ = some ((cs.foldl (fun a c => a * 10 + (c - 48)) 0 : Nat) : Int) := by
  have t1 : numTextOf ⟨cs.toArray⟩ = cs := by
    show (if cs.toArray.all (· < 128) = true then cs.toArray.toList else _) = cs
    rw [if_pos]
    simp only [List.all_toArray, List.all_eq_true, decide_eq_true_eq]
    intro c hc
    have := (h c hc).2
    omega
  have t2 : numSeenOf ⟨cs.toArray⟩ = cs := by
    unfold numSeenOf
    rw [t1]
    exact takeW_all fun c hc => by
      have := (h c hc).1
      exact bne_iff_ne.mpr (by omega)
  have nb : ∀ c ∈ cs, NumText.blank c = false := fun c hc => by
    obtain ⟨h1, h2⟩ := h c hc
    unfold NumText.blank
    rw [beq_eq_false_iff_ne.mpr (by omega : c ≠ 32), decide_eq_false (by omega : ¬ c ≤ 13), Bool.and_false]; rfl
  have sg : NumText.sign cs = (false, cs) := by
    cases cs with
    | nil => rfl
    | cons c r =>
      obtain ⟨h1, h2⟩ := h c List.mem_cons_self
      unfold NumText.sign
      split
      · rename_i e; cases e; omega
      · rename_i e; cases e; omega
      · rfl
  have co : NumText.core cs = cs := by
    unfold NumText.core
    rw [dropW_no nb, sg]
    show (cs.reverse.dropWhile NumText.blank).reverse = cs
    rw [dropW_no fun c hc => nb c (List.mem_reverse.mp hc), List.reverse_reverse]
  have dg : NumText.digits? 10 cs = some (cs.map (· - 48)).toArray := by
    unfold NumText.digits?
    rw [dig_fold cs _ _ h]
    cases cs with
    | nil => exact absurd rfl hn
    | cons c r => simp
  unfold intText?
  rw [t1, t2, co, dg, dropW_no nb, sg]
  simp only [beq_self_eq_true, if_true]
  rw [if_pos (by simpa using hl)]
  unfold NumText.worth
  rw [if_neg Bool.false_ne_true]
  simp [List.foldl_map]
theorem fold_nought : ∀ (k a : Nat), (List.replicate k 48).foldl (fun a c => a * 10 + (c - 48)) a = a * 10 ^ k
  | 0, a => by simp
  | k + 1, a => by
    rw [List.replicate_succ, List.foldl_cons, fold_nought k]
    show (a * 10 + 0) * 10 ^ k = _
    rw [Nat.add_zero, Nat.pow_succ, Nat.mul_assoc, Nat.mul_comm 10]
theorem mul_cps (k : Nat) (hk : 2 ≤ k) : Txt.mul (Str.ofString "0") (k : Int) = ⟨(List.replicate k 48).toArray⟩ := by
  have hc : (Str.ofString "0").cps = #[48] := by decide
  have hl : (Str.ofString "0").length = 1 := by decide
  unfold Txt.mul
  rw [if_neg (by omega), if_neg (by
    rw [hl]
    have e1 : ((k : Int) == 1) = false := beq_eq_false_iff_ne.mpr (by omega)
    rw [e1]
    decide), Int.toNat_natCast, hc]
  congr 1
  clear hk hc hl
  have : ∀ (n : Nat) (acc : List Nat), (List.replicate n #[48]).foldl (· ++ ·) acc.toArray = (acc ++ List.replicate n 48).toArray := by
    intro n
    induction n with
    | zero => intro acc; simp
    | succ n ih =>
      intro acc
      rw [List.replicate_succ, List.foldl_cons]
      have e : acc.toArray ++ #[48] = (acc ++ [48]).toArray := by simp
      rw [e, ih, List.replicate_succ, List.append_assoc]
      rfl
  have := this k []
  simpa using this
/-- 10 to the 600th -/
def bigB : Int := ((10 ^ 600 : Nat) : Int)
theorem bigB_gt : (1000000000000000 : Int) < bigB := by
  unfold bigB
  exact Int.ofNat_lt.mpr (Nat.lt_of_lt_of_le (show 1000000000000000 < 10 ^ 16 by decide) (Nat.pow_le_pow_right (by decide) (by decide)))
theorem bigB_str : Str.ofString "1" ++ Txt.mul (Str.ofString "0") 600 = ⟨(49 :: List.replicate 600 48).toArray⟩ := by
  rw [show (600 : Int) = ((600 : Nat) : Int) from rfl, mul_cps 600 (by decide)]
  refine Str.ext' ?_
  rw [Str.cps_append]
  have hc : (Str.ofString "1").cps = #[49] := by decide
  rw [hc]
  simp
theorem bigB_text : intText? (Str.ofString "1" ++ Txt.mul (Str.ofString "0") 600) = some bigB := by
  rw [bigB_str, dig_int (fun c hc => ?_) (by intro e; cases e) (by simp)]
  · rw [List.foldl_cons, fold_nought]
    unfold bigB
    rfl
  · rcases List.mem_cons.mp hc with rfl | hc
    · exact ⟨by decide, by decide⟩
    · rw [List.eq_of_mem_replicate hc]
      exact ⟨by decide, by decide⟩
theorem bigB_len : (Str.ofString "1" ++ Txt.mul (Str.ofString "0") 600).length ≤ 640 := by
  rw [bigB_str]
  show (49 :: List.replicate 600 48).toArray.size ≤ 640
  simp
theorem bigB_len2 : (Str.ofString "1").length + (Txt.mul (Str.ofString "0") 600).length ≤ 100000 := by
  rw [show (600 : Int) = ((600 : Nat) : Int) from rfl, mul_cps 600 (by decide)]
  show (Str.ofString "1").length + (List.replicate 600 48).toArray.size ≤ 100000
  have : (Str.ofString "1").length = 1 := by decide
  rw [this]
  simp
theorem mul0_ok {n : Int} (h0 : 1 ≤ n) (h1 : n ≤ 1000) : MulOk (Str.ofString "0") n := by
  have hl : (Str.ofString "0").length = 1 := by decide
  refine ⟨?_, fun _ _ => ?_, fun _ _ => ?_⟩
  · rw [decide_eq_false (by omega), decide_eq_false (by omega)]; rfl
  · rw [hl]
    have : (1 : Int) ≤ (2 ^ 63 - 1) / n := Int.le_ediv_of_mul_le (by omega) (by omega)
    omega
  · rw [hl]
    unfold Builtin.Str.tooLong
    have hz : sizeLine = 16777216 := sizeLine_eq
    exact decide_eq_false (by omega)
def digI : List Int := [-1, 0, 1, 2, 3, 4, 5, 6, 7, 8, 9]
theorem digI_mem {l : Int} (h0 : -1 ≤ l) (h1 : l ≤ 9) : l ∈ digI := by
  have : l = -1 ∨ l = 0 ∨ l = 1 ∨ l = 2 ∨ l = 3 ∨ l = 4 ∨ l = 5 ∨ l = 6 ∨ l = 7 ∨ l = 8 ∨ l = 9 := by omega
  rcases this with rfl | rfl | rfl | rfl | rfl | rfl | rfl | rfl | rfl | rfl | rfl <;> decide
/-- the digits of the word of l -/
def absI (l : Int) : Int := if l < 0 then -l else l
def bodyS (l : Int) : Str := numS (absI l)
def padS (l : Int) : Str := Txt.mul (Str.ofString "0") 599 ++ bodyS l
theorem dig_sign : ∀ l ∈ digI, Txt.startswith (numS l) (Str.ofString "+") = false ∧ Txt.startswith (numS l) (Str.ofString "-") = decide (l < 0) ∧ (if l < 0 then Txt.slice (numS l) (some 1) none else numS l) = bodyS l ∧ (numS l).length ≤ 2 := by decide +kernel
theorem dig_body : ∀ l ∈ digI, (decide ((bodyS l).length < (Str.ofString "_").length) || decide (Builtin.Str.strKind (bodyS l) < Builtin.Str.strKind (Str.ofString "_"))) = false ∧ splitS (bodyS l) (Str.ofString "_") = [bodyS l] ∧ Txt.isdigit (bodyS l) = true ∧
    JoinOk (Str.ofString "") [bodyS l] = true ∧ Txt.join (Str.ofString "") [bodyS l] = bodyS l ∧ (bodyS l).length = 1 := by decide +kernel
theorem pad_len2 {l : Int} (h : l ∈ digI) : (Txt.mul (Str.ofString "0") 599).length + (bodyS l).length ≤ 100000 := by
  rw [show (599 : Int) = ((599 : Nat) : Int) from rfl, mul_cps 599 (by decide), (dig_body l h).2.2.2.2.2]
  show (List.replicate 599 48).toArray.size + 1 ≤ 100000
  simp
theorem body_cps : ∀ l ∈ digI, (bodyS l).cps = #[48 + (absI l).toNat] ∧ absI l = ((absI l).toNat : Int) ∧ (absI l).toNat ≤ 9 := by decide +kernel
theorem padS_eq {l : Int} (h : l ∈ digI) : padS l = ⟨(List.replicate 599 48 ++ [48 + (absI l).toNat]).toArray⟩ := by
  unfold padS
  rw [show (599 : Int) = ((599 : Nat) : Int) from rfl, mul_cps 599 (by decide)]
  refine Str.ext' ?_
  rw [Str.cps_append, (body_cps l h).1]
  simp
theorem padS_len {l : Int} (h : l ∈ digI) : (padS l).length = 600 := by
  rw [padS_eq h]
  show (List.replicate 599 48 ++ [48 + (absI l).toNat]).toArray.size = 600
  simp
theorem padS_int {l : Int} (h : l ∈ digI) : intText? (padS l) = some (absI l) := by
  obtain ⟨_, e, h9⟩ := body_cps l h
  rw [padS_eq h, dig_int (fun c hc => ?_) (by simp) (by simp)]
  · rw [List.foldl_append, fold_nought, Nat.zero_mul]
    show some ((0 * 10 + (48 + (absI l).toNat - 48) : Nat) : Int) = _
    rw [Nat.zero_mul, Nat.zero_add, Nat.add_sub_cancel_left]
    exact congrArg some e.symm
  · rcases List.mem_append.mp hc with hc | hc
    · rw [List.eq_of_mem_replicate hc]
      exact ⟨by decide, by decide⟩
    · rw [List.mem_singleton.mp hc]
      exact ⟨by omega, by omega⟩
theorem padS_cut {l : Int} (h : l ∈ digI) : Txt.slice (padS l) (some 0) (some 600) = padS l := by
  unfold Txt.slice
  rw [padS_len h, if_pos (by decide +kernel)]
theorem pe_bm0K {X : Cx} {K : PySem.W.Frag} {o : Expr} {to : TE} {name : Str} {apos cpos : Pos} {T id : String} {r : V → List V → Hp → VK → Prop} (hK : X.K = K) (pa : PlainAttrs T) (slot : Slot T name id) (hty : typeOf (.builtin id) = pure (.type "method_descriptor")) (hm : MtR X id r) (ho : PE X o to)
    (hbase : attributeBase o name X.env (eval o X.env) = eval o X.env := by rfl) (hline : (apos.endLine == cpos.line) = true := by rfl) : PE X (.Call (.Attribute o name apos) [] [] cpos) (tBM0 K T r to) := by
  subst hK
  exact pe_bm0 pa slot hty hm ho hbase hline
theorem iteE {b : Bool} {A B : Prop} (h : b = false) (x : B) : if b = true then A else B := by
  subst h
  exact iteF x
theorem iteY {b : Bool} {A B : Prop} (h : b = true) (x : A) : if b = true then A else B := by
  subst h
  exact iteT x
theorem small_logQ {i : Int} (h0 : 0 ≤ i) (h1 : i ≤ 1000000000000000) : i.natAbs.log2 < 1920 := by
  by_cases hz : i.natAbs = 0
  · rw [hz]; decide
  · have h2 : i.natAbs < 2 ^ 60 := Nat.lt_of_le_of_lt (show i.natAbs ≤ 1000000000000000 by omega) (by decide)
    have : i.natAbs.log2 < 60 := (Nat.log2_lt hz).mpr h2
    omega
def spBound : Sp := fun vs H Q _ => vs = [] ∧ Q (.int bigB) H
def spText : Sp := fun vs H Q _ => ∃ n : Int, vs = [.int n] ∧ 0 ≤ n ∧ n ≤ 1000000000000000 ∧ ∀ H', Same H H' → Q (.str (toString n)) H'
def spSign : Sp := fun vs H Q _ => ∃ l : Int, vs = [.str (numS l)] ∧ l ∈ digI ∧ Q (.str (bodyS l)) H
def spPieces : Sp := fun vs H Q _ => ∃ l : Int, vs = [.str (bodyS l)] ∧ l ∈ digI ∧ ∀ (p : Addr) (H' : Hp), H p = none → Same H H' → H' p = some (.lst [.str (padS l)]) → Q (.ref p) H'
def spPieceN : Sp := fun vs H Q _ => ∃ (z : Str) (n : Int), vs = [.str z] ∧ intText? z = some n ∧ z.length ≤ 640 ∧ Q (.int n) H
def spNumber : Sp := fun vs H Q _ => ∃ l : Int, vs = [.str (numS l)] ∧ l ∈ digI ∧ ∀ H', Same H H' → Q (.int l) H'
/-- names that the digits' module reads -/
structure TxN (mg : Str → Option Value) : Prop where
  wd : ∃ t, mg "WIDTH" = some (.int 600 t)
  al : mg "all" = none
  rv : mg "reversed" = none
section
variable {P : Program} {w : World} {K : PySem.W.Frag} {mg : Str → Option Value} {base : Heap}
theorem scBound : FnScope [] [] (defScope sBound) := ⟨rfl, rfl, rfl, by decide +kernel, rfl, by decide +kernel, by decide +kernel⟩
theorem ok_bound {f : Addr} {fd : FuncData} (F : Fun K "piece_bound" "piece_bound" sBound f fd) (T : Txt mg) (N : TxN mg) : FnOk P w K mg base CX0 1 f fd [] spBound := by
  obtain ⟨tW, hW⟩ := N.wd
  refine F.ok scBound (fun vs H Q E h => ?_) (fun cdv A outer s H vs Q E hr h => ?_)
  · obtain ⟨rfl, _⟩ := h
    rfl
  · obtain ⟨rfl, q⟩ := h
    refine ⟨_, pss_one (ps_ret (pe_callTy call_int_str (by rfl) T.int bt_int (pa_cons (pe_op op_add_str pe_str (pe_op op_mul_str pe_str (pe_glob (v := .int 600) (by rfl) hW ⟨tW, rfl⟩))) pa_nil))), ?_⟩
    exact ⟨_, _, rfl, rfl, mul0_ok (by decide) (by decide), _, _, rfl, rfl, sz_le bigB_len2, _, _, rfl, bigB_text, bigB_len, q⟩
theorem scText : FnScope ["number", "bound", "pieces", "rest", "parts"] ["number"] (defScope sText) := ⟨rfl, rfl, rfl, by decide +kernel, rfl, by decide +kernel, by decide +kernel⟩
theorem ok_text {f fb : Addr} {fd fdb : FuncData} (F : Fun K "text_of" "text_of" sText f fd) (T : Txt mg) (N : TxN mg) (Gb : FnOk P w K mg base CX0 1 fb fdb [] spBound) (Bb : Fns K mg "piece_bound" [] fb fdb) :
    FnOk P w K mg base CX0 2 f fd ["number"] spText := by
  refine F.ok scText (fun vs H Q E h => ?_) (fun cdv A outer s H vs Q E hr h => ?_)
  · obtain ⟨n, rfl, _⟩ := h
    rfl
  · obtain ⟨n, rfl, h0, h1, k⟩ := h
    have nd := scText.nd
    refine ⟨_, pss_cons (ps_if (pt_cmpR op_lt (pv 0) pe_int (nomark _)) pss_never pss_nil)
      (pss_cons (ps_set (i := 1) nd rfl (Or.inl rfl) (pe_call0 Gb hr (by rfl) Bb.gm Bb.kp Bb.bd .nil pass0))
      (pss_cons (ps_set (i := 2) nd rfl (Or.inl rfl) (pe_lst pa_nil))
      (pss_cons (ps_set (i := 3) nd rfl (Or.inl rfl) (pv 0))
      (pss_cons (ps_while PassesOwn.never (pt_cmpR op_ge (pv 3) (pv 1) (nomark _)) pss_never)
      (pss_cons (ps_expr (pe_bm PySem.F.plainAttrs_list PySem.F.slot_list_append PySem.F.type_list_append mt_append (pv 2) (pa_cons (pe_callTy call_str_int (by rfl) T.str bt_str (pa_cons (pv 3) pa_nil)) pa_nil)))
      (pss_one (ps_ret (pe_joinRev rfl pe_str (pv 2) (by rfl) N.rv)))))))), ?_⟩
    refine ⟨_, rfl, _, _, rfl, rfl, _, rfl, ?_⟩
    refine iteFd (by omega) ?_
    refine ⟨rfl, ⟨Nat.zero_le _, fun p hp => ?_⟩⟩
    refine ⟨_, rfl, ?_⟩
    refine ⟨fun _ σ' H' => σ' = [some (.int n), some (.int bigB), some (.ref p), some (.int n), none] ∧ H' = upd H p (.lst []), ⟨0, rfl, rfl⟩, ?_⟩
    rintro m σ' H' ⟨rfl, rfl⟩
    refine ⟨_, rfl, _, rfl, _, _, rfl, rfl, _, rfl, ?_⟩
    refine iteFd (by have := bigB_gt; omega) ?_
    refine ⟨_, rfl, .inl ⟨rfl, _, SqL.of upd_same⟩, ?_⟩
    refine ⟨_, rfl, _, rfl, small_logQ h0 h1, ?_⟩
    refine ⟨p, _, _, rfl, rfl, upd_same, sz_lt (by decide), ?_⟩
    refine ⟨_, rfl, _, rfl, p, _, rfl, SqL.of upd_same, ?_⟩
    rw [upd_upd]
    exact k _ (upd_same_of hp)
theorem scSign : FnScope ["word"] ["word"] (defScope sSign) := ⟨rfl, rfl, rfl, by decide +kernel, rfl, by decide +kernel, by decide +kernel⟩
theorem ok_sign {f : Addr} {fd : FuncData} (F : Fun K "without_sign" "without_sign" sSign f fd) : FnOk P w K mg base CX0 1 f fd ["word"] spSign := by
  refine F.ok scSign (fun vs H Q E h => ?_) (fun cdv A outer s H vs Q E hr h => ?_)
  · obtain ⟨l, rfl, _⟩ := h
    rfl
  · obtain ⟨l, rfl, hl, k⟩ := h
    obtain ⟨e1, e2, e3, e4⟩ := dig_sign l hl
    refine ⟨_, pss_cons (ps_if (PW.pt (pw_or (pt_val (pe_bm PySem.F.plainAttrs_str PySem.F.slot_str_startswith PySem.F.type_str_startswith mt_starts (pv 0) (pa_cons pe_str pa_nil)))
        (pw_or1 (pt_val (pe_bm PySem.F.plainAttrs_str PySem.F.slot_str_startswith PySem.F.type_str_startswith mt_starts (pv 0) (pa_cons pe_str pa_nil))))))
        (pss_one (ps_ret (pe_slice sl_str (pv 0) (po_some pe_int) po_none))) pss_nil) (pss_one (ps_ret (pv 0))), ?_⟩
    refine ⟨_, rfl, rfl, _, _, rfl, rfl, _, rfl, ?_⟩
    refine iteE e1 ?_
    refine ⟨_, rfl, rfl, _, _, rfl, rfl, _, rfl, ?_⟩
    by_cases hn : l < 0
    · rw [if_pos hn] at e3
      refine iteY (e2.trans (decide_eq_true hn)) ?_
      rw [← e3] at k
      exact ⟨_, rfl, _, rfl, _, rfl, sz_le (by omega), k⟩
    · rw [if_neg hn] at e3
      refine iteE (e2.trans (decide_eq_false hn)) ?_
      rw [← e3] at k
      exact ⟨_, rfl, k⟩
theorem scPieces : FnScope ["digits", "padded"] ["digits"] (defScope sPieces) := ⟨rfl, rfl, rfl, by decide +kernel, rfl, by decide +kernel, by decide +kernel⟩
theorem ok_pieces {f : Addr} {fd : FuncData} (F : Fun K "pieces_of" "pieces_of" sPieces f fd) (T : Txt mg) (N : TxN mg) : FnOk P w K mg base CX0 1 f fd ["digits"] spPieces := by
  obtain ⟨tW, hW⟩ := N.wd
  refine F.ok scPieces (fun vs H Q E h => ?_) (fun cdv A outer s H vs Q E hr h => ?_)
  · obtain ⟨l, rfl, _⟩ := h
    rfl
  · obtain ⟨l, rfl, hl, k⟩ := h
    have nd := scPieces.nd
    have nd2 : (["start", "padded"] : List Str).Nodup := by decide +kernel
    obtain ⟨_, _, _, _, _, b6⟩ := dig_body l hl
    have p1 := padS_len hl
    have p2 := padS_cut hl
    refine ⟨_, pss_cons (ps_set (i := 1) nd rfl (Or.inr rfl) (pe_op op_add_str (pe_op op_mul_str pe_str (pe_op op_mod (pe_un un_neg (pe_callB call_len (by rfl) T.len bt_len (pa_cons (pv 0) pa_nil))) (pe_glob (v := .int 600) (by rfl) hW ⟨tW, rfl⟩))) (pv 0)))
      (pss_one (ps_ret (pe_lc (N := ["start", "padded"]) (fs := [none, some 1]) (pi_step (by rfl) T.rng (pa_cons pe_int (pa_cons (pe_callB call_len (by rfl) T.len bt_len (pa_cons (pv 1) pa_nil)) (pa_cons (pe_glob (v := .int 600) (by rfl) hW ⟨tW, rfl⟩) pa_nil))))
        rfl rfl (by decide +kernel) ⟨Or.inl rfl, trivial⟩ ⟨⟨rfl, Or.inr (Or.inl rfl), Or.inl rfl, Or.inl rfl⟩, trivial⟩ (fun _ _ _ _ => pg_name (i := 0) nd2 rfl (Or.inl rfl)) (fun _ _ _ _ => pts_nil)
        (fun _ _ _ _ => pe_slice sl_str (pv 1) (po_some (pv 0)) (po_some (pe_op op_add (pv 0) (pe_glob (v := .int 600) (by rfl) hW ⟨tW, rfl⟩))))))), ?_⟩
    refine ⟨_, rfl, _, 1, rfl, ⟨sz_le (by omega), b6.symm⟩, _, rfl, _, _, rfl, rfl, by decide, _, 599, rfl, rfl, mul0_ok (by decide) (by decide), _, rfl, _, _, rfl, rfl, sz_le (pad_len2 hl), ?_⟩
    rw [show Txt.mul (Str.ofString "0") 599 ++ bodyS l = padS l from rfl]
    refine ⟨_, rfl, _, 600, rfl, ⟨sz_le (by omega), p1.symm⟩, 0, 600, 600, 1, rfl, by decide, by decide, by decide +kernel, by decide +kernel, fun d hd => ?_⟩
    refine turns_step (fun i σ H2 => ∃ c : Option V, σ = [c, some (.str (padS l))] ∧ Same H H2 ∧ H2 d = some (.lst (List.replicate i (.str (padS l))))) ⟨none, rfl, upd_same_of hd, upd_same⟩ ?_ ?_
    · rintro i σ H2 hi ⟨c, rfl, s2, hd2⟩
      obtain rfl : i = 0 := by omega
      dsimp only [gName]
      refine noT ?_
      refine ⟨_, rfl, _, rfl, _, rfl, _, rfl, _, _, rfl, rfl, _, rfl, _, rfl, sz_le (by omega), _, hd2, sz_lt (by show 0 ≤ 100000; decide), _, rfl, fun b o e => ?_, ?_⟩
      · rw [upd_ne (ne_of_none e hd)]
        exact s2 b o e
      · rw [upd_same]
        exact congrArg (fun z => some (HO.lst [V.str z])) p2
    · rintro σ H2 ⟨c, rfl, s2, hd2⟩
      exact k d H2 hd s2 hd2
theorem scPieceN : FnScope ["piece"] ["piece"] (defScope sPieceN) := ⟨rfl, rfl, rfl, by decide +kernel, rfl, by decide +kernel, by decide +kernel⟩
theorem ok_pieceN {f : Addr} {fd : FuncData} (F : Fun K "piece_number" "piece_number" sPieceN f fd) (T : Txt mg) : FnOk P w K mg base CX0 1 f fd ["piece"] spPieceN := by
  refine F.ok scPieceN (fun vs H Q E h => ?_) (fun cdv A outer s H vs Q E hr h => ?_)
  · obtain ⟨z, n, rfl, _⟩ := h
    rfl
  · obtain ⟨z, n, rfl, h1, h2, k⟩ := h
    refine ⟨_, pss_one (ps_tryN fun pn => pss_one (ps_ret (pe_callTy call_int_str (by rfl) T.int bt_int (pa_cons (pv 0) pa_nil)))), ?_⟩
    exact ⟨_, rfl, z, n, rfl, h1, h2, k⟩
theorem scNumber : FnScope ["word", "parts", "bound", "number", "piece", "value"] ["word"] (defScope sNumber) := ⟨rfl, rfl, rfl, by decide +kernel, rfl, by decide +kernel, by decide +kernel⟩
theorem ok_number {f fb fs fp fn : Addr} {fd fdb fds fdp fdn : FuncData} (F : Fun K "number_of" "number_of" sNumber f fd) (T : Txt mg) (N : TxN mg) (Gb : FnOk P w K mg base CX0 1 fb fdb [] spBound) (Bb : Fns K mg "piece_bound" [] fb fdb)
    (Gs : FnOk P w K mg base CX0 1 fs fds ["word"] spSign) (Bs : Fns K mg "without_sign" ["word"] fs fds) (Gp : FnOk P w K mg base CX0 1 fp fdp ["digits"] spPieces) (Bp : Fns K mg "pieces_of" ["digits"] fp fdp)
    (Gn : FnOk P w K mg base CX0 1 fn fdn ["piece"] spPieceN) (Bn : Fns K mg "piece_number" ["piece"] fn fdn) : FnOk P w K mg base CX0 2 f fd ["word"] spNumber := by
  refine F.ok scNumber (fun vs H Q E h => ?_) (fun cdv A outer s H vs Q E hr h => ?_)
  · obtain ⟨l, rfl, _⟩ := h
    rfl
  · obtain ⟨l, rfl, hl, k⟩ := h
    have nd := scNumber.nd
    have nd1 : (["part"] : List Str).Nodup := by decide +kernel
    obtain ⟨_, e2, _, _⟩ := dig_sign l hl
    obtain ⟨b1, b2, b3, b4, b5, b6⟩ := dig_body l hl
    have p1 := padS_len hl
    have p3 := padS_int hl
    refine ⟨_, pss_cons (ps_set (i := 1) nd rfl (Or.inl rfl) (pe_bm PySem.F.plainAttrs_str PySem.F.slot_str_split PySem.F.type_str_split mt_split (pe_call Gs hr (by rfl) Bs.gm Bs.kp Bs.bd .nil pass0 (pa_cons (pv 0) pa_nil)) (pa_cons pe_str pa_nil)))
      (pss_cons (ps_if (pt_not (pt_val (pe_callB (call_all rfl) (by rfl) N.al boot_all (pa_cons (pe_lc (N := ["part"]) (fs := [none]) (pi_list (pv 1)) rfl rfl (by decide +kernel) trivial trivial (fun _ _ _ _ => pg_name (i := 0) nd1 rfl (Or.inl rfl)) (fun _ _ _ _ => pts_nil)
        (fun _ _ _ _ => pe_bm0K (K := K) rfl PySem.F.plainAttrs_str PySem.F.slot_str_isdigit PySem.F.type_str_isdigit mt_isdig (pv 0))) pa_nil)))) pss_never pss_nil)
      (pss_cons (ps_set (i := 2) nd rfl (Or.inl rfl) (pe_call0 Gb hr (by rfl) Bb.gm Bb.kp Bb.bd .nil pass0))
      (pss_cons (ps_set (i := 3) nd rfl (Or.inl rfl) pe_int)
      (pss_cons (ps_for PassesOwn.never rfl (pi_list (pe_call Gp hr (by rfl) Bp.gm Bp.kp Bp.bd .nil pass0 (pa_cons (pe_bm PySem.F.plainAttrs_str PySem.F.slot_str_join PySem.F.type_str_join mt_joinL pe_str (pa_cons (pv 1) pa_nil)) pa_nil))) (pg_name (i := 4) nd rfl (Or.inl rfl))
        (pss_cons (ps_set (i := 5) nd rfl (Or.inl rfl) (pe_call Gn hr (by rfl) Bn.gm Bn.kp Bn.bd .nil pass0 (pa_cons (pv 4) pa_nil)))
        (pss_cons (ps_if (pt_cmpR op_isN (pv 5) pe_non (nomark _)) pss_never pss_nil)
        (pss_one (ps_set (i := 3) nd rfl (Or.inl rfl) (pe_op op_add (pe_op op_mul (pv 3) (pv 2)) (pv 5)))))))
      (pss_cons (ps_if (pt_val (pe_bm PySem.F.plainAttrs_str PySem.F.slot_str_startswith PySem.F.type_str_startswith mt_starts (pv 0) (pa_cons pe_str pa_nil))) (pss_one (ps_ret (pe_un un_neg (pv 3)))) pss_nil)
      (pss_one (ps_ret (pv 3)))))))), ?_⟩
    refine ⟨_, rfl, l, rfl, hl, rfl, ?_⟩
    refine ⟨_, _, rfl, rfl, b1, rfl, sz_le (by omega), (by rw [b2]; exact sz_le (by show 1 ≤ 100000; decide)), fun pa hpa => ?_⟩
    rw [b2]
    have sA : Same H (upd H pa (.lst ([bodyS l].map V.str))) := upd_same_of hpa
    have eA : upd H pa (.lst ([bodyS l].map V.str)) pa = some (.lst ([bodyS l].map V.str)) := upd_same
    revert sA eA
    generalize upd H pa (.lst ([bodyS l].map V.str)) = H1
    intro sA eA
    refine ⟨_, rfl, pa, rfl, ⟨_, SqL.of eA⟩, fun d hd => ?_⟩
    refine turns_list (K := K) (a := pa) (xs := [bodyS l].map V.str) (fun i σ H2 => ∃ c : Option V, σ = [c] ∧ Same H1 H2 ∧ H2 d = some (.lst ((List.replicate i true).map V.bl))) ⟨none, rfl, upd_same_of hd, upd_same⟩
      (fun i σ H2 _ ⟨_, _, s2, _⟩ => SqL.of (s2 _ _ eA)) ?_ ?_
    · rintro i x σ H2 hi ⟨c, rfl, s2, hd2⟩
      have hi0 : i = 0 := by
        have := (List.getElem?_eq_some_iff.mp hi).1
        have h1 : ([bodyS l].map V.str).length = 1 := rfl
        omega
      subst hi0
      cases hi
      dsimp only [gName]
      refine noT ?_
      refine ⟨_, rfl, rfl, _, rfl, rfl, _, hd2, sz_lt (by decide), _, rfl, fun b o e => ?_, ?_⟩
      · rw [upd_ne (ne_of_none e hd)]
        exact s2 b o e
      · rw [upd_same, b3]
        rfl
    · rintro σ H2 ⟨c, rfl, s2, hd2⟩
      refine ⟨d, _, rfl, SqL.of hd2, _, rfl, ?_⟩
      refine iteE (by rfl) ?_
      have sB := sA.trans s2
      have eB := s2 _ _ eA
      refine ⟨rfl, ?_⟩
      refine ⟨rfl, _, rfl, _, pa, [bodyS l], rfl, rfl, SqL.of eB, b4, l, (by rw [b5]; rfl), hl, fun p H3 hp s3 h3 => ?_⟩
      refine ⟨p, rfl, ⟨_, SqL.of h3⟩, for_list (K := K) (a := p) (xs := [V.str (padS l)]) (fun i σ H4 => H4 = H3 ∧ ∃ (c d : Option V) (m : Int), (i = 0 → m = 0) ∧ (i = 1 → m = absI l) ∧ σ = [some (.str (numS l)), some (.ref pa), some (.int bigB), some (.int m), c, d])
        ⟨rfl, none, none, 0, fun _ => rfl, fun h => absurd h (by decide), rfl⟩ (fun i σ H4 _ ⟨e, _⟩ => by rw [e]; exact SqL.of h3) ?_ ?_⟩
      · rintro i x σ H4 hi ⟨rfl, c, dd, m, m0, _, rfl⟩
        have hi0 : i = 0 := by
          have := (List.getElem?_eq_some_iff.mp hi).1
          have h1 : [V.str (padS l)].length = 1 := rfl
          omega
        subst hi0
        cases hi
        obtain rfl := m0 rfl
        refine ⟨_, rfl, _, _, rfl, p3, by omega, ?_⟩
        refine ⟨_, rfl, rfl, _, rfl, ?_⟩
        refine iteFd (by intro e; cases e) ?_
        refine ⟨_, rfl, _, rfl, _, _, rfl, rfl, .inl ⟨by decide, by decide⟩, _, rfl, _, _, rfl, rfl, ?_⟩
        refine ⟨rfl, _, _, _, fun h => absurd h (by decide), fun _ => ?_, rfl⟩
        rw [Int.zero_mul, Int.zero_add]
      · rintro σ H4 ⟨rfl, c, dd, m, _, m1, rfl⟩
        have m1 := m1 rfl
        refine ⟨_, rfl, rfl, _, _, rfl, rfl, _, rfl, ?_⟩
        by_cases hn : l < 0
        · unfold absI at m1
          rw [if_pos hn] at m1
          refine iteY (e2.trans (decide_eq_true hn)) ?_
          refine ⟨_, rfl, _, rfl, ?_⟩
          show Q (.int (-m)) _
          rw [m1, Int.neg_neg]
          exact k _ (sB.trans s3)
        · unfold absI at m1
          rw [if_neg hn] at m1
          refine iteE (e2.trans (decide_eq_false hn)) ?_
          rw [m1]
          exact ⟨_, rfl, k _ (sB.trans s3)⟩
theorem scMetres : FnScope ["word", "number"] ["word"] (defScope sMetres) := ⟨rfl, rfl, rfl, by decide +kernel, rfl, by decide +kernel, by decide +kernel⟩
theorem ok_metres {f fn : Addr} {fd fdn : FuncData} (F : Fun K "metres" "metres" sMetres f fd) (Gn : FnOk P w K mg base CX0 2 fn fdn ["word"] spNumber) (Bn : Fns K mg "number_of" ["word"] fn fdn) : FnOk P w K mg base CX0 3 f fd ["word"] spNumber := by
  refine F.ok scMetres (fun vs H Q E h => ?_) (fun cdv A outer s H vs Q E hr h => ?_)
  · obtain ⟨l, rfl, _⟩ := h
    rfl
  · obtain ⟨l, rfl, hl, k⟩ := h
    have nd := scMetres.nd
    refine ⟨_, pss_cons (ps_set (i := 1) nd rfl (Or.inl rfl) (pe_call Gn hr (by rfl) Bn.gm Bn.kp Bn.bd .nil pass0 (pa_cons (pv 0) pa_nil)))
      (pss_cons (ps_if (pt_cmpR op_isN (pv 1) pe_non (nomark _)) pss_never pss_nil) (pss_one (ps_ret (pv 1)))), ?_⟩
    refine ⟨_, rfl, l, rfl, hl, fun H1 s1 => ?_⟩
    refine ⟨_, rfl, rfl, _, rfl, ?_⟩
    refine iteFd (by intro e; cases e) ?_
    exact ⟨_, rfl, k _ s1⟩
end
end Bl
namespace Bl
open PySem PySem.Spec PyProof.Rows L2
/-! ### the rows in order are those with the ship put in its place -/
theorem spaced_pwQ {g : Int} (hg : 0 ≤ g) : ∀ {S : List Ship} {e : Int}, Spaced g e (rowsOf S) → S.Pairwise (fun a b => a.2.1 < b.2.1)
  | [], _, _ => .nil
  | s :: S, e, h => by
    obtain ⟨h1, h2, h3⟩ := h
    have h2 : 1 ≤ s.2.2 := h2
    refine .cons (fun t ht => ?_) (spaced_pwQ hg h3)
    have := spaced_above hg h3 t.2 (List.mem_map_of_mem ht)
    have h4 : s.2.1 + s.2.2 + g ≤ t.2.1 := this.1
    omega
theorem le_perm_eqQ : ∀ {L S : List Ship}, L.Perm S → L.Pairwise (fun a b => a.2.1 ≤ b.2.1) → S.Pairwise (fun a b => a.2.1 < b.2.1) → L = S
  | [], S, h, _, _ => (List.perm_nil.mp h.symm).symm
  | a :: L, [], h, _, _ => nomatch h.length_eq
  | a :: L, b :: S, h, h1, h2 => by
    cases h1 with
    | cons g1 g2 =>
      cases h2 with
      | cons g3 g4 =>
        have e : a = b := by
          have ha : a ∈ b :: S := h.mem_iff.mp List.mem_cons_self
          have hb : b ∈ a :: L := h.mem_iff.mpr List.mem_cons_self
          rcases List.mem_cons.mp ha with e | ha
          · exact e
          · rcases List.mem_cons.mp hb with e | hb
            · exact e.symm
            · have := g1 b hb
              have := g3 a ha
              omega
        subst e
        rw [le_perm_eqQ h.cons_inv g2 g4]
theorem come_eqQ {g q l pl : Int} {n : Str} {S S' : List Ship} (hg : 0 ≤ g) (hq : 0 ≤ q) (I : QInv g q S) (hl : 1 ≤ l) (ht : there S n = false) (hf : fp l g q 0 (rowsOf S) = some pl) (hp : S'.Perm (S ++ [(n, pl, l)])) (hw : S'.Pairwise (fun a b => a.2.1 ≤ b.2.1)) :
    placeS g q S n l = some pl ∧ S' = ins (n, pl, l) S := by
  have e : placeS g q S n l = some pl := by
    unfold placeS
    rw [if_neg (by omega), if_neg (by rw [ht]; exact Bool.false_ne_true)]
    exact hf
  have I2 := I.step hg hq (.come n l)
  simp only [stepS, e] at I2
  refine ⟨e, le_perm_eqQ (hp.trans ?_) hw (spaced_pwQ hg I2.sp)⟩
  exact (List.perm_append_comm.trans (List.Perm.refl _)).trans (ins_perm (n, pl, l) S).symm
theorem none_placeQ {g q l : Int} {n : Str} {S : List Ship} (h : l < 1 ∨ (1 ≤ l ∧ there S n = true) ∨ (1 ≤ l ∧ there S n = false ∧ fp l g q 0 (rowsOf S) = none)) : placeS g q S n l = none := by
  unfold placeS
  rcases h with h | ⟨h1, h2⟩ | ⟨h1, h2, h3⟩
  · rw [if_pos h]
  · rw [if_neg (by omega), if_pos h2]
  · rw [if_neg (by omega), if_neg (by rw [h2]; exact Bool.false_ne_true)]
    exact h3
theorem metres_boundQ {g q : Int} (hg : 0 ≤ g) : ∀ {S : List Ship} {e e' : Int}, Spaced g e' (rowsOf S) → Within q (rowsOf S) → 0 ≤ e → e ≤ e' → 0 ≤ metresS g e S ∧ metresS g e S ≤ S.length * q
  | [], _, _, _, _, _, _ => ⟨Int.le_refl _, by show (0 : Int) ≤ ((0 : Nat) : Int) * q; simp⟩
  | s :: S, e, e', h, hw, h0, he => by
    obtain ⟨h1, h2, h3⟩ := h
    have h1 : e' ≤ s.2.1 := h1
    have h2 : 1 ≤ s.2.2 := h2
    have hs : s.2.1 + s.2.2 ≤ q := hw s.2 List.mem_cons_self
    have ih := metres_boundQ hg (S := S) (e := e + s.2.2 + g) h3 (fun x hx => hw x (List.mem_cons_of_mem _ hx)) (by omega) (show e + s.2.2 + g ≤ s.2.1 + s.2.2 + g by omega)
    have e1 : metresS g e (s :: S) = (s.2.1 - e) + metresS g (e + s.2.2 + g) S := rfl
    have e2 : (((s :: S).length : Nat) : Int) * q = (S.length : Int) * q + q := by
      rw [List.length_cons]
      push_cast
      rw [Int.add_mul, Int.one_mul]
    rw [e1, e2]
    omega
/-- the words of a deed -/
def wordsD : Deed → List Str
  | .come n l => [Str.ofString "come", n, numS l]
  | .leave n => [Str.ofString "leave", n]
  | .up => [Str.ofString "up"]
def DeedOk : Deed → Prop
  | .come n l => l ∈ digI ∧ (reprText n).length ≤ 1000
  | .leave n => (reprText n).length ≤ 1000
  | .up => True
theorem deed_of {r : Str} {d : Deed} (h : RowOk r d) (hx : RowX r d) : Txt.words r = wordsD d ∧ DeedOk d ∧ r.length ≤ 100 := by
  cases d with
  | come n l => exact ⟨hx.1, ⟨digI_mem h.2.2.2.2.2.2.1 h.2.2.2.2.2.2.2.1, hx.2⟩, h.2.1⟩
  | leave n => exact ⟨hx.1, hx.2, h.2.1⟩
  | up => exact ⟨hx, trivial, h.2.1⟩
structure Numb (g q : Int) : Prop where
  g0 : 0 ≤ g
  g1 : g ≤ 2
  q0 : 0 ≤ q
  q1 : q ≤ 1000000000000
def spDone (C PT cS cT cR : Addr) : Sp := fun vs H Q E => ∃ (p : Addr) (q g : Int) (a : Addr) (as : List Addr) (S : List Ship) (wd : Addr) (d : Deed) (more : Array Value), vs = [.ref p, .ref wd] ∧ QuayAt C H p q g a as S ∧ QInv g q S ∧ S.length ≤ 5 ∧ Numb g q ∧
  H PT = some (.tbl (labQ ++ more)) ∧ H wd = some (.lst ((wordsD d).map V.str)) ∧ DeedOk d ∧
  (∀ cls H', (cls = cS ∨ cls = cT ∨ cls = cR) → Same H H' → stepS g q S d = (S, Str.ofString "no") → E (.ref cls) none H') ∧
  (∀ (H' : Hp) (a' : Addr) (as' : List Addr), Keep p H H' → H a' = none → QuayAt C H' p q g a' as' (stepS g q S d).1 → Q (.str (stepS g q S d).2) H')
def spAnswer (C PT : Addr) : Sp := fun vs H Q _ => ∃ (p : Addr) (q g : Int) (a : Addr) (as : List Addr) (S : List Ship) (r : Str) (d : Deed) (more : Array Value), vs = [.ref p, .str r] ∧ QuayAt C H p q g a as S ∧ QInv g q S ∧ S.length ≤ 5 ∧ Numb g q ∧
  H PT = some (.tbl (labQ ++ more)) ∧ RowOk r d ∧ RowX r d ∧
  (∀ (H' : Hp) (a' : Addr) (as' : List Addr), Keep p H H' → (a' = a ∨ H a' = none) → QuayAt C H' p q g a' as' (stepS g q S d).1 → Q (.str (stepS g q S d).2) H')
section
variable {P : Program} {w : World} {K : PySem.W.Frag} {mg : Str → Option Value} {base : Heap}
theorem scDone : FnScope ["quay", "words"] ["quay", "words"] (defScope sDone) := ⟨rfl, rfl, rfl, by decide +kernel, rfl, by decide +kernel, by decide +kernel⟩
theorem ok_done {f C PT cS cT cR fc fl fu fm ft : Addr} {fd fdc fdl fdu fdm fdt : FuncData} (F : Fun K "done" "done" sDone f fd) (T : Txt mg) (TQ : QTx K mg C)
    (Gc : FnOk P w K mg base (CX1 P w) 2 fc fdc ["self", "name", "length"] (spComeQ C PT cS cT cR)) (Mc : Meth K C "come" fc) (Bc : Binds K fdc ["self", "name", "length"] [])
    (Gl' : FnOk P w K mg base (CX1 P w) 2 fl fdl ["self", "name"] (spLeaveQ C cS)) (Ml : Meth K C "leave" fl) (Bl' : Binds K fdl ["self", "name"] [])
    (Gu : FnOk P w K mg base CX0 2 fu fdu ["self"] (spUpQ C)) (Mu : Meth K C "move_up" fu) (Bu : Binds K fdu ["self"] [])
    (Gm : FnOk P w K mg base CX0 3 fm fdm ["word"] spNumber) (Bm : Fns K mg "metres" ["word"] fm fdm) (Gt : FnOk P w K mg base CX0 2 ft fdt ["number"] spText) (Bt : Fns K mg "text_of" ["number"] ft fdt) :
    FnOk P w K mg base (CX1 P w) 4 f fd ["quay", "words"] (spDone C PT cS cT cR) := by
  refine F.okR scDone (fun vs H Q E h => ?_) (fun cdv A outer s H vs Q E hr h => ?_)
  · obtain ⟨p, q, g, a, as, S, wd, d, more, rfl, _⟩ := h
    rfl
  · obtain ⟨p, q, g, a, as, S, wd, d, more, rfl, hQ, hI, h5, hN, hP, hw, hd, kE, k⟩ := h
    have hr2 := hr.mono (j := 2) (by omega)
    have hu := hu_of hr
    obtain ⟨dx, hob⟩ := hQ.ob
    have c1 : (qf q g a).lookup ("come" : Str) = none := qf_no _ _ _ (by decide +kernel) (by decide +kernel) (by decide +kernel)
    have c2 : (qf q g a).lookup ("leave" : Str) = none := qf_no _ _ _ (by decide +kernel) (by decide +kernel) (by decide +kernel)
    have c3 : (qf q g a).lookup ("move_up" : Str) = none := qf_no _ _ _ (by decide +kernel) (by decide +kernel) (by decide +kernel)
    refine ⟨_, pss_cons (ps_if (PW.pt (pw_and (pt_cmpR op_eq (pe_callB call_len_seq (by rfl) T.len bt_len (pa_cons (pv 1) pa_nil)) pe_int (nomark _)) (pw_and1 (pt_cmpR op_eq (pe_ix ix_list (pv 1) pe_int (fun _ _ => rfl)) pe_str (nomark _)))))
        (pss_one (ps_ret (pe_call Gt hr2 (by rfl) Bt.gm Bt.kp Bt.bd .nil pass0 (pa_cons (pe_meth (pv 0) TQ.cl Mc Gc hr2 Bc .nil passX (pa_cons (pe_ix ix_list (pv 1) pe_int (fun _ _ => rfl)) (pa_cons (pe_call Gm hr (by rfl) Bm.gm Bm.kp Bm.bd .nil pass0 (pa_cons (pe_ix ix_list (pv 1) pe_int (fun _ _ => rfl)) pa_nil)) pa_nil))) pa_nil)))) pss_nil)
      (pss_cons (ps_if (PW.pt (pw_and (pt_cmpR op_eq (pe_callB call_len_seq (by rfl) T.len bt_len (pa_cons (pv 1) pa_nil)) pe_int (nomark _)) (pw_and1 (pt_cmpR op_eq (pe_ix ix_list (pv 1) pe_int (fun _ _ => rfl)) pe_str (nomark _)))))
        (pss_cons (ps_expr (pe_meth (pv 0) TQ.cl Ml Gl' hr2 Bl' .nil passX (pa_cons (pe_ix ix_list (pv 1) pe_int (fun _ _ => rfl)) pa_nil))) (pss_one (ps_ret pe_str))) pss_nil)
      (pss_cons (ps_if (pt_cmpR (op_eqL_same (Nat.lt_of_succ_lt hu)) (pv 1) (pe_lst (pa_cons pe_str pa_nil)) (nomark _)) (pss_one (ps_ret (pe_call Gt hr2 (by rfl) Bt.gm Bt.kp Bt.bd .nil pass0 (pa_cons (pe_meth0 (pv 0) TQ.cl Mu Gu hr2 Bu .nil pass0) pa_nil)))) pss_nil)
      (pss_one (ps_ret pe_str)))), ?_⟩
    cases d with
    | come n l =>
      obtain ⟨d1, d3⟩ := hd
      have hwL : SqL K H wd ([Str.ofString "come", n, numS l].map V.str) := SqL.of hw
      refine ⟨_, rfl, wd, _, rfl, .inl hwL, rfl, _, rfl, ?_⟩
      refine iteTd (by rfl) ?_
      refine ⟨_, rfl, wd, _, _, .str (Str.ofString "come"), rfl, rfl, hwL, atI_nat (j := 0) rfl, rfl, _, rfl, ?_⟩
      refine iteTd rfl ?_
      refine ⟨_, rfl, p, dx, _, rfl, hob, c1, _, rfl, wd, _, _, .str n, rfl, rfl, hwL, atI_nat (j := 1) rfl, _, rfl, wd, _, _, .str (numS l), rfl, rfl, hwL, atI_nat (j := 2) rfl, l, rfl, d1, fun H1 s1 => ?_⟩
      refine ⟨p, q, g, a, as, S, n, l, more, rfl, hQ.same s1, by omega, d3, s1 _ _ hP, fun h1 => kE cS H1 (.inl rfl) s1 ?_, fun H' s' h1 h2 => kE cT H' (.inr (.inl rfl)) (s1.trans s') ?_, fun H' s' h1 h2 h3 => kE cR H' (.inr (.inr rfl)) (s1.trans s') ?_, fun pl H' a' as' S' hk ha h1 h2 h3 hQ' hp hw' => ?_⟩
      · simp only [stepS, none_placeQ (g := g) (q := q) (n := n) (S := S) (.inl h1)]
      · simp only [stepS, none_placeQ (g := g) (q := q) (n := n) (S := S) (.inr (.inl ⟨h1, h2⟩))]
      · simp only [stepS, none_placeQ (g := g) (q := q) (n := n) (S := S) (.inr (.inr ⟨h1, h2, h3⟩))]
      · obtain ⟨e1, rfl⟩ := come_eqQ hN.g0 hN.q0 hI h1 h2 h3 hp hw'
        obtain ⟨_, _, p0, p1, _⟩ := place_ok hI hN.g0 hN.q0 e1
        have := hN.q1
        refine ⟨pl, rfl, p0, by omega, fun H2 s2 => ?_⟩
        have k' := k H2 a' as' (fun b o e hne => s2 _ _ (hk b o (s1 _ _ e) hne)) (Same.free s1 ha)
        simp only [stepS, e1] at k'
        exact k' (hQ'.same s2)
    | leave n =>
      have hwL : SqL K H wd ([Str.ofString "leave", n].map V.str) := SqL.of hw
      refine ⟨_, rfl, wd, _, rfl, .inl hwL, rfl, _, rfl, ?_⟩
      refine iteFd (show ¬ V.int 2 = V.int 3 by decide) ?_
      refine iteF ?_
      refine ⟨_, rfl, wd, _, rfl, .inl hwL, rfl, _, rfl, ?_⟩
      refine iteTd (by rfl) ?_
      refine ⟨_, rfl, wd, _, _, .str (Str.ofString "leave"), rfl, rfl, hwL, atI_nat (j := 0) rfl, rfl, _, rfl, ?_⟩
      refine iteTd rfl ?_
      refine ⟨_, rfl, p, dx, _, rfl, hob, c2, _, rfl, wd, _, _, .str n, rfl, rfl, hwL, atI_nat (j := 1) rfl, ?_⟩
      refine ⟨p, q, g, a, as, S, n, rfl, hQ, by omega, hd, fun H' s' h1 => kE cS H' (.inl rfl) s' ?_, fun H' a' as' hk ha h1 hQ' => ?_⟩
      · simp only [stepS, if_neg (show ¬ there S n = true by rw [h1]; exact Bool.false_ne_true)]
      · have k' := k H' a' as' hk ha
        simp only [stepS, if_pos h1] at k'
        exact k' hQ'
    | up =>
      have hwL : SqL K H wd ([Str.ofString "up"].map V.str) := SqL.of hw
      refine ⟨_, rfl, wd, _, rfl, .inl hwL, rfl, _, rfl, ?_⟩
      refine iteFd (by decide) ?_
      refine iteF ?_
      refine ⟨_, rfl, wd, _, rfl, .inl hwL, rfl, _, rfl, ?_⟩
      refine iteFd (by decide) ?_
      refine iteF ?_
      refine ⟨_, rfl, sz_le (by show 1 ≤ 100000; decide), fun u hu' => ?_⟩
      have sU : Same H (upd H u (.lst [.str (Str.ofString "up")])) := upd_same_of hu'
      have eU : upd H u (.lst [.str (Str.ofString "up")]) u = some (.lst ([Str.ofString "up"].map V.str)) := upd_same
      revert sU eU
      generalize upd H u (.lst [.str (Str.ofString "up")]) = H1
      intro sU eU
      refine ⟨wd, u, _, rfl, rfl, SqL.of (sU _ _ hw), SqL.of eU, rfl, _, rfl, ?_⟩
      refine iteT ?_
      have hQ1 := hQ.same sU
      refine ⟨_, rfl, p, dx, _, rfl, sU _ _ hob, c3, p, q, g, a, as, S, rfl, hQ1, by omega, fun H' a' as' hk ha hQ' => ?_⟩
      have hb := metres_boundQ hN.g0 hI.sp hI.wi (Int.le_refl 0) (Int.le_refl 0)
      have hq1 := hN.q1
      have hm2 : (S.length : Int) * q ≤ 5 * q := Int.mul_le_mul_of_nonneg_right (by omega) hN.q0
      refine ⟨_, rfl, hb.1, by omega, fun H2 s2 => ?_⟩
      exact k H2 a' as' (fun b o e hne => s2 _ _ (hk b o (sU _ _ e) hne)) (Same.free sU ha) (hQ'.same s2)
theorem scAnswer : FnScope ["quay", "row"] ["quay", "row"] (defScope sAnswer) := ⟨rfl, rfl, rfl, by decide +kernel, rfl, by decide +kernel, by decide +kernel⟩
theorem ok_answer {f C PT cS cT cR cQ f1 : Addr} {fd fd1 : FuncData} (F : Fun K "answer" "answer" sAnswer f fd) (mQ : mg "QuayError" = some (.ref cQ)) (xS : PySem.W.exmOne K (.ref cS) (.ref cQ) = some true) (xT : PySem.W.exmOne K (.ref cT) (.ref cQ) = some true) (xR : PySem.W.exmOne K (.ref cR) (.ref cQ) = some true)
    (G1 : FnOk P w K mg base (CX1 P w) 4 f1 fd1 ["quay", "words"] (spDone C PT cS cT cR)) (B1 : Fns K mg "done" ["quay", "words"] f1 fd1) :
    FnOk P w K mg base CX0 5 f fd ["quay", "row"] (spAnswer C PT) := by
  refine F.ok scAnswer (fun vs H Q E h => ?_) (fun cdv A outer s H vs Q E hr h => ?_)
  · obtain ⟨p, q, g, a, as, S, r, d, more, rfl, _⟩ := h
    rfl
  · obtain ⟨p, q, g, a, as, S, r, d, more, rfl, hQ, hI, h5, hN, hP, hR, hX, k⟩ := h
    obtain ⟨ew, hd, hl⟩ := deed_of hR hX
    refine ⟨_, pss_one (ps_try (CQ := cQ) rfl rfl (by rfl) mQ (fun pn E1 Eσ hp => pss_one (ps_ret (pe_callS G1 hr (by rfl) B1.gm B1.kp B1.bd .nil hp (pa_cons (pv 0) (pa_cons (pe_bm0K (K := K) rfl PySem.F.plainAttrs_str PySem.F.slot_str_split PySem.F.type_str_split mt_split0 (pv 1)) pa_nil)))))
      (fun ea => pss_one (ps_ret pe_str))), ?_⟩
    have hwl : (wordsD d).length ≤ 3 := by cases d <;> simp [wordsD]
    refine ⟨_, rfl, _, rfl, rfl, r, rfl, rfl, sz_le (by omega), by rw [ew]; omega, fun wd hwd => ?_⟩
    rw [ew]
    have sU : Same H (upd H wd (.lst ((wordsD d).map V.str))) := upd_same_of hwd
    have eU : upd H wd (.lst ((wordsD d).map V.str)) wd = some (.lst ((wordsD d).map V.str)) := upd_same
    revert sU eU
    generalize upd H wd (.lst ((wordsD d).map V.str)) = H1
    intro sU eU
    refine ⟨p, q, g, a, as, S, wd, d, more, rfl, hQ.same sU, hI, h5, hN, sU _ _ hP, eU, hd, fun cls H' hc s' hs => ⟨?_, ?_⟩, fun H' a' as' hk ha hQ' => ?_⟩
    · rcases hc with rfl | rfl | rfl
      · exact xS
      · exact xT
      · exact xR
    · have k' := k H' a as (Bl.Same.keep (sU.trans s')) (.inl rfl)
      rw [hs] at k'
      exact k' ((hQ.same sU).same s')
    · exact k H' a' as' (fun b o e hne => hk b o (sU _ _ e) hne) (.inr (Same.free sU ha)) hQ'
end
end Bl
namespace Bl
open PySem PySem.Spec PyProof.Rows L2
section
variable {P : Program} {w : World} {K : PySem.W.Frag} {mg : Str → Option Value} {base : Heap}
theorem dayOk_len {rows : List Str} {ds : List Deed} (h : DayOk rows ds) : rows.length = ds.length := Paired.len h.pr
theorem take_step {g q : Int} {ds : List Deed} {i : Nat} {d : Deed} (h : ds[i]? = some d) : (runS g q [] (ds.take (i + 1))).1 = (stepS g q (runS g q [] (ds.take i)).1 d).1 ∧ (runS g q [] (ds.take (i + 1))).2 = (runS g q [] (ds.take i)).2 ++ [(stepS g q (runS g q [] (ds.take i)).1 d).2] := by
  rw [take_snoc h, runS_snoc]
  exact ⟨rfl, rfl⟩
theorem scBerthsP : FnScope ["length", "gap", "rows", "quay", "row"] ["length", "gap", "rows"] (defScope sBerthsP) := ⟨rfl, rfl, rfl, by decide +kernel, rfl, by decide +kernel, by decide +kernel⟩
theorem ok_berthsP {f C PT fI fa : Addr} {fd fdI fda : FuncData} (F : Fun K "berths" "berths" sBerthsP f fd) (TQ : QTx K mg C) (M : Mk K C fI) (mC : mg "Quay" = some (.ref C)) (FI : Fun K "__init__" "Quay.__init__" sQInit fI fdI) (BI : Binds K fdI ["self", "length", "gap"] [])
    (Ga : FnOk P w K mg base CX0 5 fa fda ["quay", "row"] (spAnswer C PT)) (Ba : Fns K mg "answer" ["quay", "row"] fa fda) :
    FnOk P w K mg base CX0 6 f fd ["length", "gap", "rows"] (spT PT labQ spBerP) := by
  have GI : FnOk P w K mg base CX0 1 fI fdI ["self", "length", "gap"] (spInitQ C) := ok_initQ FI TQ
  refine F.ok scBerthsP (fun vs H Q E h => ?_) (fun cdv A outer s H vs Q E hr h => ?_)
  · obtain ⟨_, p, rows, ds, g, q, rfl, _⟩ := h
    rfl
  · obtain ⟨⟨more, hP⟩, p, rows, ds, g, q, rfl, hp, hD, hg0, hg1, hq0, hq1, k⟩ := h
    have nd := scBerthsP.nd
    have hr2 := hr.mono (j := 2) (by omega)
    refine ⟨_, pss_cons (ps_set (i := 3) nd rfl (Or.inl rfl) (pe_make M GI hr2 (by rfl) mC BI .nil pass0 (pa_cons (pv 0) (pa_cons (pv 1) pa_nil))))
      (pss_cons (ps_for PassesOwn.never rfl (pi_list (pv 2)) (pg_name (i := 4) nd rfl (Or.inl rfl)) (pss_one (ps_expr (pe_call Ga hr (by rfl) Ba.gm Ba.kp Ba.bd .nil pass0 (pa_cons (pv 3) (pa_cons (pv 4) pa_nil))))))
      (pss_one (ps_ret (pe_fld (pv 3) rfl)))), ?_⟩
    refine ⟨_, rfl, _, rfl, fun x dx hx hdx hne => ?_⟩
    have s0 : Same H (upd (upd H dx (.own x)) x (.ins C dx [])) := (upd_same_of hdx).trans (upd_same_of (by rw [upd_ne hne.symm]; exact hx))
    refine ⟨x, dx, q, g, rfl, upd_same, fun a H1 ha hk hQ1 => ⟨rfl, ?_⟩⟩
    have s1 : Same H H1 := fun b o e => hk b o (s0 _ _ e) (ne_of_none e hx)
    have ha0 : H a = none := Same.free s0 ha
    have hlen := dayOk_len hD
    refine ⟨_, rfl, p, rfl, ⟨_, SqL.of (s1 _ _ hp)⟩, for_list (K := K) (a := p) (xs := rows.map V.str) (fun i σ H2 => ∃ (c : Option V) (a : Addr) (as : List Addr), σ = [some (.int q), some (.int g), some (.ref p), some (.ref x), c] ∧ Same H H2 ∧ H a = none ∧ QuayAt C H2 x q g a as (runS g q [] (ds.take i)).1)
      ⟨none, a, [], rfl, s1, ha0, hQ1⟩ (fun i σ H2 _ ⟨_, _, _, _, s2, _⟩ => SqL.of (s2 _ _ hp)) ?_ ?_⟩
    · rintro i y σ H2 hi ⟨c, a, as, rfl, s2, ha, hQ2⟩
      rw [List.getElem?_map] at hi
      obtain ⟨r, hr', rfl⟩ := Option.map_eq_some_iff.mp hi
      obtain ⟨d, hd, hR⟩ := Paired.getR hD.pr hr'
      obtain ⟨d', hd', hX⟩ := Paired.getR hD.xt hr'
      rw [hd] at hd'; cases hd'
      obtain ⟨e1, _⟩ := take_step (g := g) (q := q) hd
      rw [e1]
      have h5 := hD.fv g q hg0 hq0 i
      have hI : QInv g q (runS g q [] (ds.take i)).1 := QInv.run hg0 hq0 _ QInv.nil
      refine ⟨_, rfl, _, rfl, x, q, g, a, as, _, r, d, more, rfl, hQ2, hI, h5, ⟨hg0, hg1, hq0, hq1⟩, s2 _ _ hP, hR, hX, fun H3 a' as' hk' ha' hQ3 => ?_⟩
      refine ⟨some (.str r), a', as', rfl, fun b o e => hk' b o (s2 _ _ e) (ne_of_none e hx), ?_, hQ3⟩
      rcases ha' with rfl | ha'
      · exact ha
      · exact Same.free s2 ha'
    · rintro σ H2 ⟨c, a, as, rfl, s2, ha, hQ2⟩
      rw [List.length_map, hlen, List.take_length] at hQ2
      obtain ⟨dx2, hob⟩ := hQ2.ob
      exact ⟨_, rfl, x, C, dx2, _, _, rfl, hob, TQ.cl, TQ.nS, qf_ships _ _ _, k a as H2 ha s2 hQ2.sh⟩
end
end Bl
namespace Bl
open PySem PySem.Spec PyProof.Rows L2
def spRt : Sp := fun vs H Q _ => ∃ (p : Addr) (as : List Addr) (S : List Ship), vs = [.ref p] ∧ ShipsAt shV H p as S ∧ Q (.bl true) H
section
variable {P : Program} {w : World} {K : PySem.W.Frag} {mg : Str → Option Value} {base : Heap}
theorem scRt : FnScope ["_law_found", "_law_row"] ["_law_found"] (defScope sRowsTold) := ⟨rfl, rfl, rfl, by decide +kernel, rfl, by decide +kernel, by decide +kernel⟩
theorem ok_rt {f f2 : Addr} {fd fd2 : FuncData} (F : Fun K "_law_rows_told" "_law_rows_told" sRowsTold f fd) (T : Txt mg)
    (F2 : Fun K "_law_whole" "_law_whole" sWhole f2 fd2) (B2 : Fns K mg "_law_whole" ["_law_found"] f2 fd2) : FnOk P w K mg base CX0 2 f fd ["_law_found"] spRt := by
  have G2 : FnOk P w K mg base CX0 1 f2 fd2 ["_law_found"] spWhole := ok_whole F2 T
  refine F.ok scRt (fun vs H Q E h => ?_) (fun cdv A outer s H vs Q E hr h => ?_)
  · obtain ⟨p, as, S, rfl, _⟩ := h
    rfl
  · obtain ⟨p, as, S, rfl, hS, k⟩ := h
    have nd := scRt.nd
    refine ⟨_, pss_cons (ps_if (pt_not (pt_val (pe_callB call_isi (by rfl) T.isi bt_isi (pa_cons (pv 0) (pa_cons (pe_bltn (v := .ty "list") (by rfl) T.lst bt_list rfl) pa_nil))))) pss_never pss_nil)
      (pss_cons (ps_for PassesOwn.never rfl (pi_list (pv 0)) (pg_name (i := 1) nd rfl (Or.inl rfl))
        (pss_cons (ps_if (PW.pt (pw_or (pt_not (pt_val (pe_callB call_isi (by rfl) T.isi bt_isi (pa_cons (pv 1) (pa_cons (pe_bltn (v := .ty "tuple") (by rfl) T.tup bt_tuple rfl) pa_nil)))))
          (pw_or1 (pt_cmpR op_ne (pe_callB call_len_seq (by rfl) T.len bt_len (pa_cons (pv 1) pa_nil)) pe_int (nomark _))))) pss_never pss_nil)
        (pss_one (ps_if (PW.pt (pw_or (pt_not (pt_val (pe_callB call_isi (by rfl) T.isi bt_isi (pa_cons (pe_ix ix_tup (pv 1) pe_int (fun _ _ => rfl)) (pa_cons (pe_bltn (v := .ty "str") (by rfl) T.str bt_str rfl) pa_nil)))))
          (pw_or (pt_not (pt_val (pe_call G2 hr (by rfl) B2.gm B2.kp B2.bd .nil pass0 (pa_cons (pe_ix ix_tup (pv 1) pe_int (fun _ _ => rfl)) pa_nil))))
          (pw_or1 (pt_not (pt_val (pe_call G2 hr (by rfl) B2.gm B2.kp B2.bd .nil pass0 (pa_cons (pe_ix ix_tup (pv 1) pe_int (fun _ _ => rfl)) pa_nil)))))))) pss_never pss_nil))))
      (pss_one (ps_ret pe_bl))), ?_⟩
    refine ⟨_, rfl, _, _, _, _, rfl, .lst hS.ls, kit_ll K, _, rfl, ?_⟩
    refine iteF ?_
    refine ⟨_, rfl, p, rfl, ⟨_, SqL.of hS.ls⟩, for_list (K := K) (a := p) (xs := as.map V.ref) (fun i σ H7 => ∃ c : Option V, H7 = H ∧ σ = [some (.ref p), c]) ⟨none, rfl, rfl⟩ (fun i σ H7 _ ⟨_, e, _⟩ => by rw [e]; exact SqL.of hS.ls) ?_ ?_⟩
    · rintro i y σ H7 hi ⟨c, rfl, rfl⟩
      obtain ⟨z, hz, rfl⟩ := ref_at hi
      obtain ⟨t, ht, hzH⟩ := hS.ts.get hz
      refine ⟨_, rfl, _, _, _, _, rfl, .tup hzH, kit_tt K, _, rfl, ?_⟩
      refine iteF ?_
      refine ⟨_, rfl, z, _, rfl, .inr (SqT.of hzH), rfl, _, rfl, ?_⟩
      refine iteNS rfl ?_
      refine ⟨_, rfl, z, _, _, .str t.1, rfl, rfl, SqT.of hzH, atI_nat (j := 0) rfl, _, _, _, _, rfl, .str t.1, kit_ss K, _, rfl, ?_⟩
      refine iteF ?_
      refine ⟨_, rfl, z, _, _, .int t.2.1, rfl, rfl, SqT.of hzH, atI_nat (j := 1) rfl, _, rfl, _, rfl, ?_⟩
      refine iteF ?_
      refine ⟨_, rfl, z, _, _, .int t.2.2, rfl, rfl, SqT.of hzH, atI_nat (j := 2) rfl, _, rfl, _, rfl, ?_⟩
      refine iteF ?_
      exact ⟨some (.ref z), rfl, rfl⟩
    · rintro σ H7 ⟨c, rfl, rfl⟩
      exact k
end
end Bl
namespace Bl
open PySem PySem.Spec PyProof.Rows L2
/-! ### the other kind of day: a, b, c come, b leaves, d comes -/
theorem runS_app (g q : Int) : ∀ (xs ys : List Deed) (S : List Ship), (runS g q S (xs ++ ys)).1 = (runS g q (runS g q S xs).1 ys).1
  | [], _, _ => rfl
  | x :: xs, ys, S => by simp only [List.cons_append, runS]; exact runS_app g q xs ys _
theorem ins_len (s : Ship) (S : List Ship) : (ins s S).length = S.length + 1 := by rw [(ins_perm s S).length_eq]; rfl
theorem step_len {g q : Int} {S : List Ship} {d : Deed} : (stepS g q S d).1.length ≤ S.length + 1 := by
  cases d with
  | come n l =>
    simp only [stepS]
    split
    · rw [ins_len]; omega
    · show S.length ≤ S.length + 1; omega
  | leave n =>
    simp only [stepS]
    split
    · have := List.length_filter_le (fun s : Ship => !(s.1 == n)) S
      show (S.filter fun s : Ship => !(s.1 == n)).length ≤ _
      omega
    · show S.length ≤ S.length + 1; omega
  | up =>
    have := congrArg List.length (up_names (g := g) (S := S) (e := 0))
    simp only [List.length_map] at this
    show (upS g 0 S).length ≤ _
    omega
theorem run_len {g q : Int} : ∀ {ds : List Deed} {S : List Ship}, (runS g q S ds).1.length ≤ S.length + ds.length
  | [], _ => Nat.le_refl _
  | d :: ds, S => by
    have h1 := run_len (g := g) (q := q) (ds := ds) (S := (stepS g q S d).1)
    have h2 := step_len (g := g) (q := q) (S := S) (d := d)
    simp only [runS, List.length_cons]
    omega
def firstFour (size : Int) : List Deed := [.come "a" 3, .come "b" size, .come "c" 2, .leave "b"]
theorem after_four {g q : Int} (hg : 0 ≤ g) (hq : 0 ≤ q) (size : Int) : (runS g q [] (firstFour size)).1.length ≤ 2 := by
  have hI : QInv g q (runS g q [] (firstFour size)).1 := QInv.run hg hq _ QInv.nil
  have h3 : NamesIn [Str.ofString "a", Str.ofString "b", Str.ofString "c"] (runS g q [] [.come "a" 3, .come "b" size, .come "c" 2]).1 := NamesIn.run (fun s hs => nomatch hs) fun n l h => by
    simp only [List.mem_cons, List.not_mem_nil, or_false, Deed.come.injEq] at h
    rcases h with ⟨rfl, _⟩ | ⟨rfl, _⟩ | ⟨rfl, _⟩ <;> simp
  have e : (runS g q [] (firstFour size)).1 = (stepS g q (runS g q [] [.come "a" 3, .come "b" size, .come "c" 2]).1 (.leave "b")).1 := runS_app g q [.come "a" 3, .come "b" size, .come "c" 2] [.leave "b"] []
  rw [e] at hI ⊢
  revert h3 hI
  generalize (runS g q [] [.come "a" 3, .come "b" size, .come "c" 2]).1 = S
  intro hI h3
  have hn : NamesIn [Str.ofString "a", Str.ofString "c"] (stepS g q S (.leave "b")).1 := by
    intro s hs
    have : s ∈ S ∧ s.1 ≠ Str.ofString "b" := by
      simp only [stepS] at hs
      split at hs
      · rename_i hth
        obtain ⟨h1, h2⟩ := List.mem_filter.mp hs
        exact ⟨h1, by simpa using h2⟩
      · rename_i hth
        refine ⟨hs, fun e => hth ?_⟩
        exact List.any_eq_true.mpr ⟨s, hs, by simpa using e⟩
    have h4 := h3 s this.1
    simp only [List.mem_cons, List.not_mem_nil, or_false] at h4 ⊢
    rcases h4 with h4 | h4 | h4
    · exact .inl h4
    · exact absurd h4 this.2
    · exact .inr h4
  exact five hI hn
theorem few_txt : ∀ k : Nat, k < 10 → 32 ∉ (numS (k : Int)).cps.toList ∧ intText? (numS (k : Int)) = some (k : Int) ∧ (numS (k : Int)).length ≤ 2 ∧ 1 ≤ (numS (k : Int)).length := by decide +kernel
theorem row_said {r n : Str} {l : Int} (hr : r = Str.ofString "come " ++ n ++ Str.ofString " " ++ numS l) (hn : 32 ∉ n.cps.toList) (hn1 : n.length ≤ 61) (h0 : 0 ≤ l) (h1 : l ≤ 9) : RowOk r (.come n l) := by
  have ht := few_txt l.toNat (by omega)
  rw [Int.toNat_of_nonneg h0] at ht
  have hc5 : (Str.ofString "come ").length = 5 := by decide +kernel
  have hc1 : (Str.ofString " ").length = 1 := by decide +kernel
  have hrl : r.length = 5 + n.length + 1 + (numS l).length := by rw [hr, Str.length_append, Str.length_append, Str.length_append, hc5, hc1]
  refine ⟨by omega, by omega, hr, ?_, ht.2.1, ht.2.2.1, by omega, h1, hn1⟩
  rw [hr, come_eq]
  exact split3 come_no32 hn ht.1
def daySp (size later : Int) (cs : List Int) : List Str := [Str.ofString "come a 3", Str.ofString "come b " ++ numS size, Str.ofString "come c 2", Str.ofString "leave b"] ++ [Str.ofString "come d " ++ numS later] ++ dayOf cs
def deedsSp (size later : Int) (cs : List Int) : List Deed := firstFour size ++ [.come "d" later] ++ deedsOf cs
theorem sp_ok {size later : Int} {cs : List Int} (h1 : 2 ≤ size) (h2 : size ≤ 5) (h3 : 2 ≤ later) (h4 : later ≤ 7) (hc : cs.length ≤ 2) : DayOk (daySp size later cs) (deedsSp size later cs) := by
  have hd := day_ok (cs := cs) (by omega)
  have ha : 32 ∉ (Str.ofString "a").cps.toList ∧ (Str.ofString "a").length ≤ 61 := by decide +kernel
  have hb : 32 ∉ (Str.ofString "b").cps.toList ∧ (Str.ofString "b").length ≤ 61 := by decide +kernel
  have hcc : 32 ∉ (Str.ofString "c").cps.toList ∧ (Str.ofString "c").length ≤ 61 := by decide +kernel
  have hdd : 32 ∉ (Str.ofString "d").cps.toList ∧ (Str.ofString "d").length ≤ 61 := by decide +kernel
  have e1 : Str.ofString "come a 3" = Str.ofString "come " ++ Str.ofString "a" ++ Str.ofString " " ++ numS 3 := by decide +kernel
  have e2 : Str.ofString "come b " = Str.ofString "come " ++ Str.ofString "b" ++ Str.ofString " " := by decide +kernel
  have e3 : Str.ofString "come c 2" = Str.ofString "come " ++ Str.ofString "c" ++ Str.ofString " " ++ numS 2 := by decide +kernel
  have e4 : Str.ofString "come d " = Str.ofString "come " ++ Str.ofString "d" ++ Str.ofString " " := by decide +kernel
  have e5 : Str.ofString "leave b" = Str.ofString "leave" ++ Str.ofString " " ++ Str.ofString "b" := by decide +kernel
  have l5 : (Str.ofString "leave b").length = 7 := by decide +kernel
  have xa : NoSp (Str.ofString "a") ∧ (reprText (Str.ofString "a")).length ≤ 1000 := ⟨⟨by decide +kernel, by decide +kernel⟩, by decide +kernel⟩
  have xb : NoSp (Str.ofString "b") ∧ (reprText (Str.ofString "b")).length ≤ 1000 := ⟨⟨by decide +kernel, by decide +kernel⟩, by decide +kernel⟩
  have xc : NoSp (Str.ofString "c") ∧ (reprText (Str.ofString "c")).length ≤ 1000 := ⟨⟨by decide +kernel, by decide +kernel⟩, by decide +kernel⟩
  have xd : NoSp (Str.ofString "d") ∧ (reprText (Str.ofString "d")).length ≤ 1000 := ⟨⟨by decide +kernel, by decide +kernel⟩, by decide +kernel⟩
  have xn : ∀ k : Nat, k < 10 → (∀ c ∈ (numS (k : Int)).cps.toList, Unicode.isSpace c = false) ∧ (numS (k : Int)).length ≠ 0 := by decide +kernel
  have yn : ∀ l : Int, 0 ≤ l → l ≤ 9 → NoSp (numS l) := fun l h0 h9 => by
    have := xn l.toNat (by omega)
    rwa [Int.toNat_of_nonneg h0] at this
  have said_x : ∀ {r n : Str} {l : Int}, r = Str.ofString "come " ++ n ++ Str.ofString " " ++ numS l → (NoSp n ∧ (reprText n).length ≤ 1000) → 0 ≤ l → l ≤ 9 → RowX r (.come n l) := fun hr hn h0 h9 => ⟨by rw [hr, come_eq]; exact words3 come_nosp hn.1 (yn _ h0 h9), hn.2⟩
  refine ⟨Paired.app (.cons (row_said e1 ha.1 ha.2 (by decide) (by decide)) (.cons (row_said (by rw [e2]) hb.1 hb.2 (by omega) (by omega)) (.cons (row_said e3 hcc.1 hcc.2 (by decide) (by decide)) (.cons ⟨by omega, by omega, ?_⟩ (.cons (row_said (by rw [e4]) hdd.1 hdd.2 (by omega) (by omega)) .nil))))) hd.pr, ?_, ?_,
    Paired.app (.cons (said_x e1 xa (by decide) (by decide)) (.cons (said_x (by rw [e2]) xb (by omega) (by omega)) (.cons (said_x e3 xc (by decide) (by decide)) (.cons (show RowX (Str.ofString "leave b") (.leave (Str.ofString "b")) from ⟨by rw [e5]; exact words2 leave_nosp xb.1, xb.2⟩) (.cons (said_x (by rw [e4]) xd (by omega) (by omega)) .nil))))) hd.xt⟩
  · show splitS (Str.ofString "leave b") " " = [Str.ofString "leave", Str.ofString "b"]
    rw [e5]
    exact split2 leave_no32 hb.1
  · unfold daySp dayOf
    simp only [List.length_append, List.length_cons, List.length_nil, List.length_map]
    omega
  · intro g q hg hq i
    by_cases hi : i ≤ 4
    · have := run_len (g := g) (q := q) (ds := (deedsSp size later cs).take i) (S := [])
      rw [List.length_take] at this
      simp only [List.length_nil] at this
      omega
    · have e : (deedsSp size later cs).take i = firstFour size ++ ([Deed.come "d" later] ++ deedsOf cs).take (i - 4) := by
        unfold deedsSp
        rw [List.append_assoc, List.take_append]
        rw [List.take_of_length_le (by show 4 ≤ i; omega)]
        rfl
      rw [e, runS_app]
      have h5 := after_four hg hq size (g := g) (q := q)
      have := run_len (g := g) (q := q) (ds := ([Deed.come "d" later] ++ deedsOf cs).take (i - 4)) (S := (runS g q [] (firstFour size)).1)
      have hl : (([Deed.come "d" later] ++ deedsOf cs).take (i - 4)).length ≤ 3 := by
        rw [List.length_take]
        unfold deedsOf
        simp only [List.length_append, List.length_cons, List.length_nil, List.length_map]
        omega
      omega
theorem cut_46 (ms : List Int) : ∃ cs : List Int, cutV (ms.map V.int) (some (4 : Int)) (some (6 : Int)) = cs.map V.int ∧ cs.length ≤ 2 := by
  have e1 : HT.sIx (ms.map V.int).length 0 (some (4 : Int)) = min 4 (ms.map V.int).length := HT.sIx_nat _ _ 4
  have e2 : HT.sIx (ms.map V.int).length (ms.map V.int).length (some (6 : Int)) = min 6 (ms.map V.int).length := HT.sIx_nat _ _ 6
  unfold cutV
  rw [e1, e2, ← List.map_drop, ← List.map_take]
  refine ⟨_, rfl, ?_⟩
  rw [List.length_take]
  omega
end Bl
namespace Bl
open PySem PySem.Spec PyProof.Rows L2
theorem mixed_len (ns : List Int) : (mixed ns).length = ns.length := by unfold mixed; simp
theorem inV_strs {x : Str} {xs : List Str} : inV (.str x) (xs.map V.str) = xs.contains x := by
  unfold inV
  rw [List.any_map, Bool.eq_iff_iff, List.any_eq_true, List.contains_iff_mem]
  constructor
  · rintro ⟨y, hy, e⟩
    have : y = x := by simpa [eqV] using e
    rw [← this]; exact hy
  · intro h
    exact ⟨x, h, by simp [eqV]⟩
theorem upd_self {H : Hp} {a : Addr} {o : HO} (h : H a = some o) : upd H a o = H := by
  funext b
  by_cases hb : b = a
  · rw [hb, upd_same]; exact h.symm
  · rw [upd_ne hb]
theorem flat_strs (xs : List Str) : (xs.map V.str).all flatV = true := by
  rw [List.all_map]
  exact List.all_eq_true.mpr fun _ _ => rfl
theorem small_log {i : Int} (h0 : 0 ≤ i) (h1 : i ≤ 1000000000000000) : i.natAbs.log2 < 1920 := by
  have h2 : i.natAbs ≤ 1000000000000000 := by omega
  have h3 : i.natAbs < 2 ^ 60 := Nat.lt_of_le_of_lt h2 (by decide)
  have : i.natAbs.log2 < 60 := by
    by_cases hz : i.natAbs = 0
    · rw [hz]; decide
    · exact (Nat.log2_lt hz).mpr h3
  omega
section
variable {P : Program} {w : World} {K : PySem.W.Frag} {mg : Str → Option Value} {base : Heap}
theorem scLaw : FnScope ["_law_script", "_law_quay", "_law_gap", "_law_asked", "_law_size", "_law_later", "_law_found", "_law_named", "_law_at", "_law_row"] ["_law_script"] (defScope sLaw) := ⟨rfl, rfl, rfl, by decide +kernel, rfl, by decide +kernel, by decide +kernel⟩
theorem ok_law {PT : Addr} {lab : Array Value} {n : Nat} (hn2 : 2 ≤ n) {psB : List Str} {f f2 f3 f4 f7 f8 fb : Addr} {fd fd2 fd3 fd4 fd7 fd8 fdb : FuncData} (F : Fun K "law" "law" sLaw f fd) (T : Txt mg) (hsum : mg "sum" = none)
    (Gb : FnOk P w K mg base CX0 n fb fdb psB (spT PT lab spBerP)) (Bb : Fns K mg "berths" psB fb fdb)
    (F2 : Fun K "_law_whole" "_law_whole" sWhole f2 fd2) (B2 : Fns K mg "_law_whole" ["_law_found"] f2 fd2)
    (F3 : Fun K "_law_cell_at" "_law_cell_at" sCell f3 fd3) (B3 : Fns K mg "_law_cell_at" ["_law_script", "_law_k"] f3 fd3)
    (F4 : Fun K "_law_day" "_law_day" sDay f4 fd4) (B4 : Fns K mg "_law_day" ["_law_cells"] f4 fd4)
    (F7 : Fun K "_law_rows_told" "_law_rows_told" sRowsTold f7 fd7) (B7 : Fns K mg "_law_rows_told" ["_law_found"] f7 fd7)
    (F8 : Fun K "_law_mixed" "_law_mixed" sMixed f8 fd8) (B8 : Fns K mg "_law_mixed" ["_law_script"] f8 fd8) : FnOk P w K mg base CX0 (n + 1) f fd ["_law_script"] (spLawT K PT lab) := by
  have G3 : FnOk P w K mg base CX0 1 f3 fd3 ["_law_script", "_law_k"] (spCell K) := ok_cell F3 T
  have G4 : FnOk P w K mg base CX0 1 f4 fd4 ["_law_cells"] (spDay K) := ok_day F4 T hsum
  have G7 : FnOk P w K mg base CX0 2 f7 fd7 ["_law_found"] spRt := ok_rt F7 T F2 B2
  have G8 : FnOk P w K mg base CX0 1 f8 fd8 ["_law_script"] (spMixed K) := ok_mixed F8 T
  refine F.ok scLaw (fun vs H Q E h => ?_) (fun cdv A outer s H vs Q E hr h => ?_)
  · obtain ⟨_, a, ns, rfl, _⟩ := h
    rfl
  · obtain ⟨hPT, a, ns, rfl, hS, hlen, k⟩ := h
    have nd := scLaw.nd
    have hr1 := hr.mono (j := 1) (by omega)
    have hr2 := hr.mono (j := 2) (by omega)
    refine ⟨_, pss_cons (ps_set (i := 0) nd rfl (Or.inl rfl) (pe_slice sl_list (pv 0) po_none (po_some pe_int)))
      (pss_cons (ps_set (i := 0) nd rfl (Or.inl rfl) (pe_call G8 hr1 (by rfl) B8.gm B8.kp B8.bd .nil pass0 (pa_cons (pv 0) pa_nil)))
      (pss_cons (ps_set (i := 1) nd rfl (Or.inl rfl) (pe_op op_mod (pe_call G3 hr1 (by rfl) B3.gm B3.kp B3.bd .nil pass0 (pa_cons (pv 0) (pa_cons pe_int pa_nil))) pe_int))
      (pss_cons (ps_if (pt_cmpR op_eq (pe_op op_mod (pe_op op_fdiv (pe_call G3 hr1 (by rfl) B3.gm B3.kp B3.bd .nil pass0 (pa_cons (pv 0) (pa_cons pe_int pa_nil))) pe_int) pe_int) pe_int (nomark _)) (pss_one (ps_set (i := 1) nd rfl (Or.inl rfl) pe_int)) pss_nil)
      (pss_cons (ps_set (i := 2) nd rfl (Or.inl rfl) (pe_op op_mod (pe_call G3 hr1 (by rfl) B3.gm B3.kp B3.bd .nil pass0 (pa_cons (pv 0) (pa_cons pe_int pa_nil))) pe_int))
      (pss_cons (ps_set (i := 3) nd rfl (Or.inl rfl) (pe_call G4 hr1 (by rfl) B4.gm B4.kp B4.bd .nil pass0 (pa_cons (pe_slice sl_list (pv 0) (po_some pe_int) po_none) pa_nil)))
      (pss_cons (ps_if (pt_cmpR op_eq (pe_op op_mod (pe_op op_fdiv (pe_call G3 hr1 (by rfl) B3.gm B3.kp B3.bd .nil pass0 (pa_cons (pv 0) (pa_cons pe_int pa_nil))) pe_int) pe_int) pe_int (nomark _))
        (pss_cons (ps_set (i := 4) nd rfl (Or.inl rfl) (pe_op op_add pe_int (pe_op op_mod (pe_call G3 hr1 (by rfl) B3.gm B3.kp B3.bd .nil pass0 (pa_cons (pv 0) (pa_cons pe_int pa_nil))) pe_int)))
        (pss_cons (ps_set (i := 5) nd rfl (Or.inl rfl) (pe_op op_add (pv 4) (pe_op op_mod (pe_call G3 hr1 (by rfl) B3.gm B3.kp B3.bd .nil pass0 (pa_cons (pv 0) (pa_cons pe_int pa_nil))) pe_int)))
        (pss_cons (ps_set (i := 3) nd rfl (Or.inl rfl) (pe_lst (pa_cons pe_str (pa_cons (pe_op op_add_str pe_str (pe_callTy call_str_int (by rfl) T.str bt_str (pa_cons (pv 4) pa_nil))) (pa_cons pe_str (pa_cons pe_str pa_nil))))))
        (pss_one (ps_set (i := 3) nd rfl (Or.inl rfl) (pe_op op_cat (pe_op op_cat (pv 3) (pe_lst (pa_cons (pe_op op_add_str pe_str (pe_callTy call_str_int (by rfl) T.str bt_str (pa_cons (pv 5) pa_nil))) pa_nil)))
          (pe_call G4 hr1 (by rfl) B4.gm B4.kp B4.bd .nil pass0 (pa_cons (pe_slice sl_list (pv 0) (po_some pe_int) (po_some pe_int)) pa_nil)))))))) pss_nil)
      (pss_cons (ps_set (i := 6) nd rfl (Or.inl rfl) (pe_callT hPT Gb hr (by rfl) Bb.gm Bb.kp Bb.bd .nil pass0 (pa_cons (pv 1) (pa_cons (pv 2) (pa_cons (pe_callTy call_list_of (by rfl) T.lst bt_list (pa_cons (pv 3) pa_nil)) pa_nil)))))
      (pss_cons (ps_if (pt_not (pt_val (pe_call G7 hr2 (by rfl) B7.gm B7.kp B7.bd .nil pass0 (pa_cons (pv 6) pa_nil)))) pss_never pss_nil)
      (pss_cons (ps_set (i := 7) nd rfl (Or.inl rfl) (pe_lst pa_nil))
      (pss_cons (ps_set (i := 8) nd rfl (Or.inl rfl) pe_int)
      (pss_cons (ps_for PassesOwn.never rfl (pi_list (pv 6)) (pg_name (i := 9) nd rfl (Or.inl rfl))
        (pss_cons (ps_if (PW.pt (pw_or (pt_cmpR op_lt (pe_ix ix_tup (pv 9) pe_int (fun _ _ => rfl)) (pv 8) (nomark _)) (pw_or (pt_cmpR op_lt (pe_ix ix_tup (pv 9) pe_int (fun _ _ => rfl)) pe_int (nomark _))
          (pw_or1 (pt_cmpR op_in_seq (pe_ix ix_tup (pv 9) pe_int (fun _ _ => rfl)) (pv 7) (by with_unfolding_all rfl)))))) pss_never pss_nil)
        (pss_cons (ps_if (PW.pt (pw_or (pt_cmpR op_gt (pe_op op_add (pe_ix ix_tup (pv 9) pe_int (fun _ _ => rfl)) (pe_ix ix_tup (pv 9) pe_int (fun _ _ => rfl))) (pv 1) (nomark _))
          (pw_or1 (pt_cmpR op_notIn_seq (pe_op op_add_str (pe_op op_add_str (pe_op op_add_str pe_str (pe_ix ix_tup (pv 9) pe_int (fun _ _ => rfl))) pe_str) (pe_callTy call_str_int (by rfl) T.str bt_str (pa_cons (pe_ix ix_tup (pv 9) pe_int (fun _ _ => rfl)) pa_nil))) (pv 3) (by with_unfolding_all rfl))))) pss_never pss_nil)
        (pss_cons (ps_expr (pe_bm PySem.F.plainAttrs_list PySem.F.slot_list_append PySem.F.type_list_append mt_append (pv 7) (pa_cons (pe_ix ix_tup (pv 9) pe_int (fun _ _ => rfl)) pa_nil)))
        (pss_one (ps_set (i := 8) nd rfl (Or.inl rfl) (pe_op op_add (pe_op op_add (pe_ix ix_tup (pv 9) pe_int (fun _ _ => rfl)) (pe_ix ix_tup (pv 9) pe_int (fun _ _ => rfl))) (pv 2))))))))
      (pss_one (ps_ret pe_bl))))))))))))), ?_⟩
    -- script = script[:500]; script = mixed(script)
    refine ⟨_, rfl, _, rfl, a, _, rfl, hS, fun p1 hp1 => ?_⟩
    rw [cut_all hlen]
    have n1 := upd_same (H := H) (a := p1) (o := .lst (ns.map V.int))
    revert n1
    generalize upd H p1 (.lst (ns.map V.int)) = H1
    intro n1
    refine ⟨_, rfl, p1, ns, rfl, SqL.of n1, hlen, fun p2 hp2 => ?_⟩
    have n2 := upd_same (H := H1) (a := p2) (o := .lst ((mixed ns).map V.int))
    revert n2
    generalize upd H1 p2 (.lst ((mixed ns).map V.int)) = H2
    intro n2
    have hml : (mixed ns).length ≤ 63 := by rw [mixed_len]; exact hlen
    revert n2 hml
    generalize mixed ns = ms
    intro n2 hml
    -- quay
    refine ⟨_, rfl, p2, ms, 0, rfl, SqL.of n2, _, _, rfl, rfl, (by show (0 : Int) < 41; decide), ?_⟩
    dsimp only [gName]
    refine seq_cut (t := tIfS _ _ _) (fun σ' H' => H' = H2 ∧ ∃ q : Int, 0 ≤ q ∧ q ≤ 1000000000000 ∧ σ' = [some (.ref p2), some (.int q), none, none, none, none, none, none, none, none]) ?_ ?_
    case refine_2 =>
      intro N hN
      refine ⟨_, rfl, p2, ms, 0, rfl, SqL.of n2, _, _, rfl, rfl, ⟨by decide, by decide⟩, _, _, rfl, rfl, (by show (0 : Int) < 6; decide), rfl, _, rfl, ?_⟩
      have h0 : 0 ≤ ms.getD 0 0 % 41 := Int.emod_nonneg _ (by decide)
      have h1 : ms.getD 0 0 % 41 < 41 := Int.emod_lt_of_pos _ (by decide)
      refine ite2d (fun _ => ?_) (fun _ => ?_)
      · exact hN _ _ ⟨rfl, 1000000000000, by decide, by decide, rfl⟩
      · exact hN _ _ ⟨rfl, _, h0, by omega, rfl⟩
    rintro σ' H' ⟨rfl, q, hq0, hq1, rfl⟩
    -- gap
    refine ⟨_, rfl, p2, ms, 1, rfl, SqL.of n2, _, _, rfl, rfl, (by show (0 : Int) < 3; decide), ?_⟩
    dsimp only
    have hg0 : 0 ≤ ms.getD 1 0 % 3 := Int.emod_nonneg _ (by decide)
    have hg1 : ms.getD 1 0 % 3 < 3 := Int.emod_lt_of_pos _ (by decide)
    revert hg0 hg1
    generalize ms.getD 1 0 % 3 = g
    intro hg0 hg1
    -- asked
    refine ⟨_, rfl, _, rfl, p2, _, rfl, SqL.of n2, fun p3 hp3 => ?_⟩
    rw [show cutV (ms.map V.int) (some (2 : Int)) none = (ms.drop 2).map V.int from cut_from 2]
    have n2' : upd H' p3 (.lst ((ms.drop 2).map V.int)) p2 = some (.lst (ms.map V.int)) := upd_same_of hp3 _ _ n2
    have n3 := upd_same (H := H') (a := p3) (o := .lst ((ms.drop 2).map V.int))
    revert n3 n2'
    generalize upd H' p3 (.lst ((ms.drop 2).map V.int)) = H3
    intro n2' n3
    have hcl : (ms.drop 2).length ≤ 63 := by rw [List.length_drop]; omega
    revert n3 hcl
    generalize ms.drop 2 = cs
    intro n3 hcl
    refine ⟨p3, cs, rfl, SqL.of n3, hcl, fun pa H4 hpa s4 e4 => ?_⟩
    have n4 := s4 _ _ n2'
    -- the other kind of day
    dsimp only [gName]
    refine seq_cut (t := tIfS _ _ _) (fun σ' H' => ∃ (pb : Addr) (rows : List Str) (ds : List Deed) (c4 c5 : Option V), σ' = [some (.ref p2), some (.int q), some (.int g), some (.ref pb), c4, c5, none, none, none, none] ∧ H' pb = some (.lst (rows.map V.str)) ∧ DayOk rows ds) ?_ ?_
    case refine_2 =>
      intro N hN
      refine ⟨_, rfl, p2, ms, 1, rfl, SqL.of n4, _, _, rfl, rfl, ⟨by decide, by decide⟩, _, _, rfl, rfl, (by show (0 : Int) < 3; decide), rfl, _, rfl, ?_⟩
      refine ite2d (fun _ => ?_) (fun _ => ?_)
      · refine ⟨_, rfl, p2, ms, 2, rfl, SqL.of n4, _, _, rfl, rfl, (by show (0 : Int) < 4; decide), _, _, rfl, rfl, ?_⟩
        have h20 : 0 ≤ ms.getD 2 0 % 4 := Int.emod_nonneg _ (by decide)
        have h21 : ms.getD 2 0 % 4 < 4 := Int.emod_lt_of_pos _ (by decide)
        have h30 : 0 ≤ ms.getD 3 0 % 3 := Int.emod_nonneg _ (by decide)
        have h31 : ms.getD 3 0 % 3 < 3 := Int.emod_lt_of_pos _ (by decide)
        refine ⟨_, rfl, _, rfl, p2, ms, 3, rfl, SqL.of n4, _, _, rfl, rfl, (by show (0 : Int) < 3; decide), _, _, rfl, rfl, ?_⟩
        dsimp only
        have k1 : 2 ≤ 2 + ms.getD 2 0 % 4 ∧ 2 + ms.getD 2 0 % 4 ≤ 5 ∧ 2 ≤ 2 + ms.getD 2 0 % 4 + ms.getD 3 0 % 3 ∧ 2 + ms.getD 2 0 % 4 + ms.getD 3 0 % 3 ≤ 7 := by omega
        clear h20 h21 h30 h31
        revert k1
        generalize 2 + ms.getD 2 0 % 4 + ms.getD 3 0 % 3 = later
        generalize 2 + ms.getD 2 0 % 4 = size
        intro ⟨k1, k2, k3, k4⟩
        have hns : (Str.ofString (toString size)).length ≤ 2 := by
          have := few_txt size.toNat (by omega)
          rw [Int.toNat_of_nonneg (by omega)] at this
          exact this.2.2.1
        have hnl : (Str.ofString (toString later)).length ≤ 2 := by
          have := few_txt later.toNat (by omega)
          rw [Int.toNat_of_nonneg (by omega)] at this
          exact this.2.2.1
        have hb7 : (Str.ofString "come b ").length = 7 := by decide +kernel
        have hd7 : (Str.ofString "come d ").length = 7 := by decide +kernel
        refine ⟨_, rfl, _, rfl, small_log (by omega) (by omega), _, _, rfl, rfl, sz_le (by rw [hb7]; omega), sz_le (by show 4 ≤ 100000; decide), fun u hu => ?_⟩
        refine ⟨_, rfl, _, rfl, _, rfl, small_log (by omega) (by omega), _, _, rfl, rfl, sz_le (by rw [hd7]; omega), sz_le (by show 1 ≤ 100000; decide), fun u2 hu2 => ?_⟩
        have e1 := upd_same (H := H4) (a := u) (o := .lst ([Str.ofString "come a 3", Str.ofString "come b " ++ numS size, Str.ofString "come c 2", Str.ofString "leave b"].map V.str))
        have e1p := upd_same_of (o := .lst ([Str.ofString "come a 3", Str.ofString "come b " ++ numS size, Str.ofString "come c 2", Str.ofString "leave b"].map V.str)) hu _ _ n4
        have e2 := upd_same (H := upd H4 u (.lst ([Str.ofString "come a 3", Str.ofString "come b " ++ numS size, Str.ofString "come c 2", Str.ofString "leave b"].map V.str))) (a := u2) (o := .lst ([Str.ofString "come d " ++ numS later].map V.str))
        have e1' := upd_same_of (o := .lst ([Str.ofString "come d " ++ numS later].map V.str)) hu2 _ _ e1
        have e1p' := upd_same_of (o := .lst ([Str.ofString "come d " ++ numS later].map V.str)) hu2 _ _ e1p
        refine ⟨u, u2, _, _, rfl, rfl, e1', e2, sz_le (by show 5 ≤ 100000; decide), fun u3 hu3 => ?_⟩
        have e3 := upd_same_of (o := .lst ([Str.ofString "come a 3", Str.ofString "come b " ++ numS size, Str.ofString "come c 2", Str.ofString "leave b"].map V.str ++ [Str.ofString "come d " ++ numS later].map V.str)) hu3 _ _ e1p'
        have e3' := upd_same (H := upd (upd H4 u (.lst ([Str.ofString "come a 3", Str.ofString "come b " ++ numS size, Str.ofString "come c 2", Str.ofString "leave b"].map V.str))) u2 (.lst ([Str.ofString "come d " ++ numS later].map V.str))) (a := u3) (o := .lst ([Str.ofString "come a 3", Str.ofString "come b " ++ numS size, Str.ofString "come c 2", Str.ofString "leave b"].map V.str ++ [Str.ofString "come d " ++ numS later].map V.str))
        obtain ⟨cs', ecs, hcs⟩ := cut_46 ms
        refine ⟨_, rfl, _, rfl, _, rfl, p2, _, rfl, SqL.of e3, fun p5 hp5 => ?_⟩
        rw [ecs]
        refine ⟨p5, cs', rfl, SqL.of upd_same, by omega, fun pc H6 hpc s6 e6 => ?_⟩
        have hdl : ((dayOf cs').map V.str).length ≤ 2 := by unfold dayOf; rw [List.length_map, List.length_map]; exact hcs
        refine ⟨u3, pc, _, _, rfl, rfl, s6 _ _ (upd_same_of hp5 _ _ e3'), e6, sz_le (by rw [List.length_append]; show 5 + _ ≤ 100000; omega), fun u4 hu4 => ?_⟩
        refine hN _ _ ⟨u4, daySp size later cs', deedsSp size later cs', _, _, rfl, ?_, sp_ok k1 k2 k3 k4 hcs⟩
        rw [upd_same]
        unfold daySp
        rw [List.map_append, List.map_append]
      · exact hN _ _ ⟨pa, dayOf cs, deedsOf cs, none, none, rfl, e4, day_ok hcl⟩
    rintro σ' H5 ⟨pb, rows, ds, c4, c5, rfl, ib, hD⟩
    -- found
    refine ⟨_, rfl, _, rfl, _, rfl, pb, _, rfl, .inl (SqL.of ib), fun q1 hq1' => ?_⟩
    have s1 : Same H5 (upd H5 q1 (.lst (rows.map V.str))) := upd_same_of hq1'
    refine ⟨q1, rows, ds, g, q, rfl, upd_same, hD, hg0, by omega, hq0, hq1, fun r1 as H8 _ s2 e8 => ?_⟩
    have ib := (s1.trans s2) _ _ ib
    have hI : QInv g q (runS g q [] ds).1 := QInv.run hg0 hq0 ds QInv.nil
    have h5 : (runS g q [] ds).1.length ≤ 5 := by have := hD.fv g q hg0 hq0 ds.length; rwa [List.take_length] at this
    have hsaid : ∀ s ∈ (runS g q [] ds).1, (Str.ofString "come " ++ s.1 ++ Str.ofString " " ++ numS s.2.2) ∈ rows ∧ s.1.length ≤ 61 ∧ s.2.2 ≤ 9 := fun s hs => by
      rcases run_said s hs with ⟨t, ht, _⟩ | h
      · exact nomatch ht
      · obtain ⟨i, hi⟩ := List.mem_iff_getElem?.mp h
        obtain ⟨r, hr', hrow⟩ := Paired.getL hD.pr hi
        obtain ⟨_, _, h1, _, _, _, _, h2, h3⟩ := hrow
        exact ⟨by rw [← h1]; exact List.mem_of_getElem? hr', h3, h2⟩
    revert e8 hI h5 hsaid
    generalize (runS g q [] ds).1 = S
    intro e8 hI h5 hsaid
    refine ⟨_, rfl, r1, as, S, rfl, e8, _, rfl, ?_⟩
    refine iteF ?_
    -- named, at
    refine ⟨Nat.zero_le _, fun pn hpn => ?_⟩
    have npb : pb ≠ pn := ne_of_none ib hpn
    have s9 : Same H8 (upd H8 pn (.lst [])) := upd_same_of hpn
    have ib := s9 _ _ ib
    have e9 := e8.same s9
    have nrn : r1 ≠ pn := ne_of_none e8.ls hpn
    have jn : upd H8 pn (.lst []) pn = some (.lst []) := upd_same
    revert ib e9 jn
    generalize upd H8 pn (.lst []) = H9
    intro ib e9 jn
    refine ⟨_, rfl, r1, rfl, ⟨_, SqL.of e9.ls⟩, for_list (K := K) (a := r1) (xs := as.map V.ref) (fun i σ H10 => ∃ c : Option V, σ = [some (.ref p2), some (.int q), some (.int g), some (.ref pb), c4, c5, some (.ref r1), some (.ref pn), some (.int (lastEnd g 0 (S.take i))), c] ∧
      H10 = upd H9 pn (.lst (((S.take i).map (·.1)).map V.str))) ⟨none, rfl, (upd_self jn).symm⟩ (fun i σ H10 _ ⟨_, _, e⟩ => by rw [e]; exact SqL.of (by rw [upd_ne nrn]; exact e9.ls)) ?_ ?_⟩
    · rintro i y σ H10 hi ⟨c, rfl, rfl⟩
      obtain ⟨z, hz, rfl⟩ := ref_at hi
      obtain ⟨t, ht, hzH⟩ := e9.ts.get hz
      have hil : i < S.length := (List.getElem?_eq_some_iff.mp ht).1
      have htm : t ∈ S := List.mem_of_getElem? ht
      have hat := spaced_at hI.sp ht
      have hnt := nodup_at hI.nd ht
      have hwi : t.2.1 + t.2.2 ≤ q := hI.wi t.2 (List.mem_map_of_mem htm)
      have hsd := hsaid t htm
      have hzT : SqT K (upd H9 pn (.lst (((S.take i).map (·.1)).map V.str))) z (shV t) := SqT.of (by rw [upd_ne (ne_of hzH jn (by intro z; cases z))]; exact hzH)
      refine ⟨_, rfl, z, _, _, .int t.2.1, rfl, rfl, hzT, atI_nat (j := 1) rfl, _, rfl, _, _, rfl, rfl, _, rfl, ?_⟩
      refine iteFd (by omega) ?_
      refine ⟨_, rfl, z, _, _, .int t.2.2, rfl, rfl, hzT, atI_nat (j := 2) rfl, _, _, rfl, rfl, _, rfl, ?_⟩
      refine iteFd (by omega) ?_
      refine ⟨_, rfl, z, _, _, .str t.1, rfl, rfl, hzT, atI_nat (j := 0) rfl, _, rfl, pn, _, rfl, .inl (SqL.of upd_same), rfl, flat_strs _, _, rfl, ?_⟩
      have hno : inV (.str t.1) (((S.take i).map (·.1)).map V.str) = false := by
        rw [inV_strs]
        exact Bool.eq_false_iff.mpr fun h => hnt (List.contains_iff_mem.mp h)
      show if inV (.str t.1) (((S.take i).map (·.1)).map V.str) = true then _ else _
      rw [hno]
      refine iteF ?_
      refine ⟨_, rfl, z, _, _, .int t.2.1, rfl, rfl, hzT, atI_nat (j := 1) rfl, _, rfl, z, _, _, .int t.2.2, rfl, rfl, hzT, atI_nat (j := 2) rfl, _, _, rfl, rfl, _, rfl, _, _, rfl, rfl, _, rfl, ?_⟩
      refine iteFd (by omega) ?_
      have hlg : t.2.2.natAbs.log2 < 1920 := by
        have h1 : t.2.2.natAbs < 2 ^ 60 := Nat.lt_of_le_of_lt (show t.2.2.natAbs ≤ 9 by omega) (by decide)
        have : t.2.2.natAbs.log2 < 60 := (Nat.log2_lt (by omega)).mpr h1
        omega
      have hnl : (numS t.2.2).length ≤ 2 := by
        have := few_txt t.2.2.toNat (by omega)
        rw [Int.toNat_of_nonneg (by omega)] at this
        exact this.2.2.1
      have hc5 : (Str.ofString "come ").length = 5 := by decide +kernel
      have hc1 : (Str.ofString " ").length = 1 := by decide +kernel
      refine ⟨_, rfl, z, _, _, .str t.1, rfl, rfl, hzT, atI_nat (j := 0) rfl, _, _, rfl, rfl, sz_le (by rw [hc5]; omega), _, _, rfl, rfl, sz_le (by rw [Str.length_append, hc5, hc1]; omega),
        _, rfl, z, _, _, .int t.2.2, rfl, rfl, hzT, atI_nat (j := 2) rfl, _, rfl, hlg, _, _, rfl, rfl, sz_le (by rw [Str.length_append, Str.length_append, hc5, hc1]; unfold numS at hnl; omega), _, rfl, pb, _, rfl, .inl (SqL.of (by rw [upd_ne npb]; exact ib)), rfl, flat_strs _, _, rfl, ?_⟩
      have hyes : inV (.str (Str.ofString "come " ++ t.1 ++ Str.ofString " " ++ numS t.2.2)) (rows.map V.str) = true := by
        rw [inV_strs]
        exact List.contains_iff_mem.mpr hsd.1
      show if (!inV (.str (Str.ofString "come " ++ t.1 ++ Str.ofString " " ++ numS t.2.2)) (rows.map V.str)) = true then _ else _
      rw [hyes]
      refine iteF ?_
      refine ⟨_, rfl, .inl ⟨rfl, _, SqL.of upd_same⟩, _, rfl, z, _, _, .str t.1, rfl, rfl, hzT, atI_nat (j := 0) rfl, pn, _, _, rfl, rfl, upd_same, sz_lt (by rw [List.length_map, List.length_map, List.length_take]; omega), ?_⟩
      have hzT' : SqT K (upd (upd H9 pn (.lst (((S.take i).map (·.1)).map V.str))) pn (.lst (((S.take i).map (·.1)).map V.str ++ [.str t.1]))) z (shV t) := SqT.of (by rw [upd_upd, upd_ne (ne_of hzH jn (by intro z; cases z))]; exact hzH)
      refine ⟨_, rfl, z, _, _, .int t.2.1, rfl, rfl, hzT', atI_nat (j := 1) rfl, _, rfl, z, _, _, .int t.2.2, rfl, rfl, hzT', atI_nat (j := 2) rfl, _, _, rfl, rfl, _, rfl, _, _, rfl, rfl, ?_⟩
      refine ⟨some (.ref z), ?_, ?_⟩
      · rw [take_snoc ht, lastEnd_snoc]; rfl
      · rw [upd_upd, take_snoc ht, List.map_append, List.map_append]; rfl
    · rintro σ H10 _
      exact k H10
end
end Bl
namespace L2
open PySem PySem.Spec PyProof.Rows
/-- an exception class of the text, by what the written part tells of it -/
theorem own_mk {K : PySem.W.Frag} {h : Heap} {mg : Str → Option Value} {x : Str} {C : Addr} {bs : List Value} {nw : String} (X : K.In h) (G : h.Ns mainGlobals mg) (e : PySem.W.nsIn K mainGlobals x = some (some (.ref C))) (q : PySem.W.excIn K C bs nw = true) : OwnCls x C bs nw mg h := by
  have hb := PySem.W.mg_of X G e
  refine ⟨hb, ?_⟩
  unfold PySem.W.excIn at q
  split at q
  case h_2 => cases q
  case h_1 dd cdat slts hlook =>
    split at q
    case h_2 => cases q
    case h_1 C' rest k0 k1 k2 k3 nn k5 hmro hslots =>
      simp only [Bool.and_eq_true, beq_iff_eq, Bool.not_eq_true'] at q
      obtain ⟨⟨⟨⟨⟨eC, eN⟩, hdl⟩, htl⟩, hns⟩, hin⟩ := q
      subst eC eN
      obtain ⟨nm, bases, mro, ns, qn, hd, sn, sub, ab, col, del⟩ := cdat
      dsimp only at hmro hdl hns hin
      subst hmro hdl
      obtain ⟨sl⟩ := slts
      dsimp only at hslots
      subst hslots
      exact ⟨rest, ns, nm, qn, bases, hd, sn, sub, ab, col, dd, k0, k1, k2, k3, k5, _, X _ _ hlook, .of_isNs (PySem.W.isNs_of_in X hns), PySem.W.nsMap_none_of_in X hns hin, PySem.W.tail_of_in X htl⟩
/-- THE HEAD where one code object's table is tracked -/
theorem law_callT {P : Program} {w : World} {K : PySem.W.Frag} {mg mb : Str → Option Value} {CX : CXT} {k : Nat} {fa a PT cc : Addr} {lab : Array Value} {fd : FuncData} {x : Str} {sp : Sp} {s₁ : Shared} {vs : List Value} {ns : List Int}
    (KX : K.In s₁.heap) (hns : s₁.heap.Ns mainGlobals mg) (hb : s₁.heap.Ns builtinsNs mb) (hbb : ∀ x : Str, x ≠ "__name__" → mb x = bootBuiltins x) (hlim : s₁.heap.NoLimit) (hg : s₁.gens = #[])
    (hB : s₁.heap.BuiltinsAt mg PT) (hT : s₁.heap.get? PT = some (PySem.W.tabObj #[])) (hC : PySem.W.CodeHd s₁.heap cc PT) (hKP : K.lookup PT = none)
    (ha : s₁.heap.get? a = some { cls := .type "list", data := .seq vs.toArray }) (hi : IntsAre vs ns) (hl : ns.length ≤ sizeLine) (hr : Room k callerA)
    (F : ∀ base : Heap, K.In base → base.Ns mainGlobals mg → base.BuiltinsAt mg PT → FnOk P w K mg base CX k fa fd [x] sp) (hbind : ∀ (s : Shared) (u : Value), BindsTo s fd ⟨[u], []⟩ [(x, u)])
    (hsp : ∀ H : Hp, H PT = some (.tbl lab) → SqL K H a (ns.map V.int) → sp [.ref a] H (fun v _ => v = .bl true) fun _ _ _ => False)
    (hCX : ∀ H e s', CX [] H s₁ (fun _ _ _ => False) e s' → False) :
    codeAny (model P w) callerA (.call (.ref fa) ⟨[.ref a], []⟩) (fun r s' => r = .ok (.ret (.bool true)) ∧ OldK s₁.heap s'.heap ∧ s'.os = s₁.os ∧ AllBare s'.gens) s₁ := by
  have rv := vals_ints hi
  have lenV := hi.length
  have naP : a ≠ PT := fun z => by rw [z, hT] at ha; cases ha
  have core : ∀ H : Hp, H PT = some (.tbl lab) → (∀ b, H b = none ∨ b = PT ∨ ∃ o xs, H b = some (.frz o (.lst xs))) → SqL K H a (ns.map V.int) → HOk P w H s₁.heap → (∀ b, H b ≠ none → b = a ∨ b = PT) → (H a ≠ none → K.lookup a = none) →
      codeAny (model P w) callerA (.call (.ref fa) ⟨[.ref a], []⟩) (fun r s' => r = .ok (.ret (.bool true)) ∧ OldK s₁.heap s'.heap ∧ s'.os = s₁.os ∧ AllBare s'.gens) s₁ := by
    intro H hP hO hS hok hA hK
    have base_of : ∀ {b : Addr} {o : Obj}, s₁.heap.get? b = some o → H b = none → (hidT s₁.heap H).get? b = some o := fun e n => hidT_get e n
    have noA : ∀ {b : Addr} {o : Obj} {es : Array DictEntry} {ep : Nat}, s₁.heap.get? b = some o → o.data = .dict es ep → H b = none := fun {b o es ep} e d => by
      cases q : H b with
      | none => rfl
      | some u =>
        rcases hA b (by rw [q]; simp) with e' | e'
        · subst e'
          rw [ha] at e; cases e
          have d' : Data.seq vs.toArray _ = Data.dict es ep := d
          cases d'
        · subst e'
          rw [hT] at e; cases e
          cases d
    have nsK : ∀ {b : Addr} {m : Str → Option Value}, s₁.heap.Ns b m → (hidT s₁.heap H).Ns b m := fun {b m} ⟨o, es, ep, e, d, r⟩ => ⟨o, es, ep, base_of e (noA e d), d, r⟩
    have hKb : K.In (hidT s₁.heap H) := fun b o e => base_of (KX b o e) (by
      cases q : H b with
      | none => rfl
      | some u =>
        rcases hA b (by rw [q]; simp) with e' | e'
        · subst e'
          rw [hK (by rw [q]; simp)] at e; cases e
        · subst e'
          rw [hKP] at e; cases e)
    have hM : Mod K mg (hidT s₁.heap H) := ⟨hKb, nsK hns, ⟨mb, nsK hb, hbb⟩, let ⟨mc, h1, h2⟩ := hlim; ⟨mc, nsK h1, h2⟩⟩
    have e0 : Env0 P w K mg (hidT s₁.heap H) callerA [] s₁ H := ⟨rfl, hM, fun b o e => of_hidT e, Nat.le_of_eq (hidT_size _ _), trivial, fun b hb => absurd (show b ∈ ([] : List Addr) from hb) (by simp), hok, .of_eq hg⟩
    have hBb : (hidT s₁.heap H).BuiltinsAt mg PT := by
      obtain ⟨bm, ob, b1, b2, b3, b4, b5, b6, b7, b8⟩ := hB
      refine ⟨bm, ob, b1, b2, b3, b4, base_of b5 ?_, b6, b7, b8⟩
      cases q : H bm with
      | none => rfl
      | some u =>
        rcases hA bm (by rw [q]; simp) with e' | e'
        · subst e'
          rw [ha] at b5; cases b5
          have b9 : Value.type "list" = Value.type "module" := b6
          injection b9 with b9
          exact absurd b9 (by decide)
        · exact absurd e' b4
    refine codeAny_mono ((F _ hKb (nsK hns) hBb).run callerA [] s₁ H ⟨[.ref a], []⟩ [.ref a] [.ref a] _ _ hr e0 (hbind s₁ (.ref a)) (.cons rfl .nil) (hsp H hP hS)) fun r s' h => ?_
    cases r with
    | error e => exact (hCX H e s' h).elim
    | ok fl =>
      cases fl with
      | next => exact False.elim h
      | brk => exact False.elim h
      | cont => exact False.elim h
      | ret u =>
        obtain ⟨v, H', os, bare, un, hok', r', q⟩ := h
        have q' : v = .bl true := q
        subst q'
        obtain rfl : u = Value.bool true := r'
        obtain ⟨more, hP'⟩ := un.tbls PT lab hP
        obtain ⟨qs, hqs, _⟩ := (show ObjOk P w H' s'.heap PT (.tbl _) from hok' PT _ hP')
        have keepB : ∀ b o, b ≠ PT → s₁.heap.get? b = some o → s'.heap.get? b = some o := fun b o hbP e => by
          cases q : H b with
          | none => exact un.keep b o e q (by intro z; exact absurd (show b ∈ ([] : List Addr) from z) (by simp)) (by simp)
          | some u =>
            rcases hO b with z | z | ⟨ob, xs, z⟩
            · rw [q] at z; cases z
            · exact absurd z hbP
            · have z2 := un.frzs b ob _ z
              obtain ⟨e1, _⟩ := hok b _ z
              obtain ⟨e2, _⟩ := hok' b _ z2
              rw [e] at e1; cases e1
              exact e2
        refine ⟨rfl, ⟨fun b o e => ?_, fun b o e => ?_⟩, os, bare⟩
        · by_cases hbP : b = PT
          · subst hbP
            rw [hT] at e; cases e
            exact .inr (.inl ⟨(hC.tab hT).isCodeTable, rfl, #[], qs, rfl, by rw [Array.empty_append]; exact hqs⟩)
          · exact .inl (keepB b o hbP e)
        · by_cases hbP : b = PT
          · subst hbP; exact ⟨_, hqs⟩
          · exact ⟨o, keepB b o hbP e⟩
  have tblOk : ∀ H : Hp, ObjOk P w H s₁.heap PT (.tbl lab) := fun H => ⟨#[], hT, .inl rfl⟩
  cases hk : K.lookup a with
  | some o =>
    have e := KX a o hk
    rw [ha] at e
    cases e
    refine core (fun b => if b = PT then some (.tbl lab) else none) (if_pos rfl) (fun b => ?_) (.inr ⟨_, vs.toArray, _, hk, rfl, rfl, rfl, by rw [List.size_toArray, lenV]; exact hl, by simpa using rv⟩) (fun b u z => ?_) (fun b z => ?_) fun z => absurd (if_neg naP) z
    · by_cases hb : b = PT
      · exact .inr (.inl hb)
      · exact .inl (if_neg hb)
    · by_cases hb : b = PT
      · have z' := (if_pos hb).symm.trans z
        cases z'
        subst hb
        exact tblOk _
      · have z' := (if_neg hb).symm.trans z
        cases z'
    · by_cases hb : b = PT
      · exact .inr hb
      · exact absurd (if_neg hb) z
  | none =>
    refine core (fun b => if b = PT then some (.tbl lab) else if b = a then some (.frz { cls := .type "list", data := .seq vs.toArray } (.lst (ns.map V.int))) else none) (if_pos rfl) (fun b => ?_) (.inl (.inr ⟨{ cls := .type "list", data := .seq vs.toArray }, ?_⟩)) (fun b u z => ?_) (fun b z => ?_) fun _ => hk
    · by_cases hb : b = PT
      · exact .inr (.inl hb)
      · by_cases hba : b = a
        · exact .inr (.inr ⟨_, _, (if_neg hb).trans (if_pos hba)⟩)
        · exact .inl ((if_neg hb).trans (if_neg hba))
    · exact (if_neg naP).trans (if_pos rfl)
    · by_cases hb : b = PT
      · have z' := (if_pos hb).symm.trans z
        cases z'
        subst hb
        exact tblOk _
      · by_cases hba : b = a
        · have z' := ((if_neg hb).trans (if_pos hba)).symm.trans z
          cases z'
          subst hba
          exact ⟨ha, by rw [List.length_map]; exact hl, vs, _, rv, ha⟩
        · have z' := ((if_neg hb).trans (if_neg hba)).symm.trans z
          cases z'
    · by_cases hb : b = PT
      · exact .inr hb
      · by_cases hba : b = a
        · exact .inl hba
        · exact absurd ((if_neg hb).trans (if_neg hba)) z
end L2
namespace Bl
open PySem PySem.Spec PyProof.Rows L2
theorem walkT {l : PySem.W.OpenLaw} {k : Nat} {q : Program} {loose : List Str} {XP : (Str → Option Value) → Heap → Prop} {YP : World → Heap → Prop} {d : DefRec} {K : Params → PySem.W.Frag} {PT : Addr} {lab : Array Value} (hn : l.most = some 63) (hdf : d.params.defaults = []) (hr : Room k callerA)
    (hY : ∀ (w : World) (h : Heap), YP w h → (K w.params).In h) (hT : ∀ (w : World) (h : Heap), YP w h → h.get? PT = some (PySem.W.tabObj #[]))
    (F : ∀ (w : World) (mg : Str → Option Value) (fa : Addr) (h : Heap), (K w.params).In h → h.Ns mainGlobals mg → mg d.name = some (.ref fa) →
      ∃ (fd : FuncData) (cc : Addr), (∀ (s : Shared) (u : Value), BindsTo s fd ⟨[u], []⟩ [("_law_script", u)]) ∧ PySem.W.codeHdIn (K w.params) cc PT = true ∧ (K w.params).lookup PT = none ∧
        ∀ base : Heap, (K w.params).In base → base.Ns mainGlobals mg → base.BuiltinsAt mg PT → FnOk l.prog w (K w.params) mg base CX0 k fa fd ["_law_script"] (spLawT (K w.params) PT lab)) :
    PySem.W.WalkO q loose XP YP l.row.toRowW d [] (fun f vs => PySem.call f vs) := by
  refine Att.attach_call hn hdf fun w s₀ s₁ mg mb fa o pm cd doc a vs ns G Y ho hd hcd hmg hobj hints hlen hg => ?_
  have KX := hY w _ Y
  obtain ⟨fd, cc, hb, hcc, hKP, hF⟩ := F w mg fa _ KX G.T.g hmg
  obtain ⟨bm, ob, b1, b2, b3, b4, b5, b6⟩ := G.T.bmain
  have hB : s₁.heap.BuiltinsAt mg PT := by
    refine ⟨bm, ob, b1, b2, fun z => ?_, fun z => ?_, b3, b4, b5, b6⟩
    · obtain ⟨o', es, ep, e', d', _⟩ := G.T.g
      rw [← z, b3] at e'; cases e'
      rw [b6] at d'; cases d'
    · have := hT w _ Y
      rw [← z, b3] at this; cases this
      cases b4
  exact law_callT KX G.T.g G.T.b G.T.builtins G.T.nolimit hg hB (hT w _ Y) (PySem.W.codeHd_of_K KX hcc) hKP hobj hints (Nat.le_trans hlen (by decide)) hr hF hb (fun H hP hS => ⟨hP, a, ns, rfl, hS, hlen, fun _ => rfl⟩) fun H e s' z => z
end Bl
namespace Bl
open PySem PySem.Spec PyProof.Rows L2
theorem all_mk {l : PySem.W.OpenLaw} {w : World} {K : PySem.W.Frag} {h : Heap} {mg : Str → Option Value} {fa C cQ cS cT cR cc PT : Addr} (X : K.In h) (G : h.Ns mainGlobals mg) (hfa : mg "law" = some (.ref fa))
    {fL : Addr} {odL anL : Option Addr} {slL : Array (Option Value)} {ocL kVL dcL pmL ctL : Value} {cdL : Value}
    {fth : Addr} {odth anth : Option Addr} {slth : Array (Option Value)} {octh kVth dcth pmth ctth : Value} {cdth : Value}
    {fpl : Addr} {odpl anpl : Option Addr} {slpl : Array (Option Value)} {ocpl kVpl dcpl pmpl ctpl : Value} {cdpl : Value}
    {ffp : Addr} {odfp anfp : Option Addr} {slfp : Array (Option Value)} {ocfp kVfp dcfp pmfp ctfp : Value} {cdfp : Value}
    {fmv : Addr} {odmv anmv : Option Addr} {slmv : Array (Option Value)} {ocmv kVmv dcmv pmmv ctmv : Value} {cdmv : Value}
    {fpb : Addr} {odpb anpb : Option Addr} {slpb : Array (Option Value)} {ocpb kVpb dcpb pmpb ctpb : Value} {cdpb : Value}
    {ftx : Addr} {odtx antx : Option Addr} {sltx : Array (Option Value)} {octx kVtx dctx pmtx cttx : Value} {cdtx : Value}
    {fsg : Addr} {odsg ansg : Option Addr} {slsg : Array (Option Value)} {ocsg kVsg dcsg pmsg ctsg : Value} {cdsg : Value}
    {fpc : Addr} {odpc anpc : Option Addr} {slpc : Array (Option Value)} {ocpc kVpc dcpc pmpc ctpc : Value} {cdpc : Value}
    {fpn : Addr} {odpn anpn : Option Addr} {slpn : Array (Option Value)} {ocpn kVpn dcpn pmpn ctpn : Value} {cdpn : Value}
    {fnu : Addr} {odnu annu : Option Addr} {slnu : Array (Option Value)} {ocnu kVnu dcnu pmnu ctnu : Value} {cdnu : Value}
    {fme : Addr} {odme anme : Option Addr} {slme : Array (Option Value)} {ocme kVme dcme pmme ctme : Value} {cdme : Value}
    {fdo : Addr} {oddo ando : Option Addr} {sldo : Array (Option Value)} {ocdo kVdo dcdo pmdo ctdo : Value} {cddo : Value}
    {fan : Addr} {odan anan : Option Addr} {slan : Array (Option Value)} {ocan kVan dcan pman ctan : Value} {cdan : Value}
    {fbe : Addr} {odbe anbe : Option Addr} {slbe : Array (Option Value)} {ocbe kVbe dcbe pmbe ctbe : Value} {cdbe : Value}
    {f2 : Addr} {od2 an2 : Option Addr} {sl2 : Array (Option Value)} {oc2 kV2 dc2 pm2 ct2 : Value} {cd2 : Value}
    {f3 : Addr} {od3 an3 : Option Addr} {sl3 : Array (Option Value)} {oc3 kV3 dc3 pm3 ct3 : Value} {cd3 : Value}
    {f4 : Addr} {od4 an4 : Option Addr} {sl4 : Array (Option Value)} {oc4 kV4 dc4 pm4 ct4 : Value} {cd4 : Value}
    {f7 : Addr} {od7 an7 : Option Addr} {sl7 : Array (Option Value)} {oc7 kV7 dc7 pm7 ct7 : Value} {cd7 : Value}
    {f8 : Addr} {od8 an8 : Option Addr} {sl8 : Array (Option Value)} {oc8 kV8 dc8 pm8 ct8 : Value} {cd8 : Value}
    {tW : Tok}
    {fqi : Addr} {odqi anqi : Option Addr} {slqi : Array (Option Value)} {ocqi kVqi dcqi pmqi ctqi : Value} {cdqi : Value}
    {fqc : Addr} {odqc anqc : Option Addr} {slqc : Array (Option Value)} {ocqc kVqc dcqc pmqc ctqc : Value}
    {fql : Addr} {odql anql : Option Addr} {slql : Array (Option Value)} {ocql kVql dcql pmql ctql : Value} {cdql : Value}
    {fqu : Addr} {odqu anqu : Option Addr} {slqu : Array (Option Value)} {ocqu kVqu dcqu pmqu ctqu : Value} {cdqu : Value}
    (aL : PySem.W.nsIn K mainGlobals "law" = some (some (.ref fL)))
    (lL : K.lookup fL = some ⟨ocL, odL, .func (PySem.W.fnOf "law" "law" (defArgs sLaw) (defBody sLaw) (defScope sLaw) .none kVL dcL pmL anL cdL ctL), slL⟩)
    (cL : PySem.W.codeIn K cdL "law" = true) (kL : PySem.W.keepIn K (.ref fL) = true)
    (ath : PySem.W.nsIn K mainGlobals "is_there" = some (some (.ref fth)))
    (lth : K.lookup fth = some ⟨octh, odth, .func (PySem.W.fnOf "is_there" "is_there" (defArgs sThere) (defBody sThere) (defScope sThere) .none kVth dcth pmth anth cdth ctth), slth⟩)
    (cth : PySem.W.codeIn K cdth "is_there" = true) (kth : PySem.W.keepIn K (.ref fth) = true)
    (apl : PySem.W.nsIn K mainGlobals "places_of" = some (some (.ref fpl)))
    (lpl : K.lookup fpl = some ⟨ocpl, odpl, .func (PySem.W.fnOf "places_of" "places_of" (defArgs sPlaces) (defBody sPlaces) (defScope sPlaces) .none kVpl dcpl pmpl anpl cdpl ctpl), slpl⟩)
    (cpl : PySem.W.codeIn K cdpl "places_of" = true) (kpl : PySem.W.keepIn K (.ref fpl) = true)
    (afp : PySem.W.nsIn K mainGlobals "first_place" = some (some (.ref ffp)))
    (lfp : K.lookup ffp = some ⟨ocfp, odfp, .func (PySem.W.fnOf "first_place" "first_place" (defArgs sFirst) (defBody sFirst) (defScope sFirst) .none kVfp dcfp pmfp anfp cdfp ctfp), slfp⟩)
    (cfp : PySem.W.codeIn K cdfp "first_place" = true) (kfp : PySem.W.keepIn K (.ref ffp) = true)
    (amv : PySem.W.nsIn K mainGlobals "moved_up" = some (some (.ref fmv)))
    (lmv : K.lookup fmv = some ⟨ocmv, odmv, .func (PySem.W.fnOf "moved_up" "moved_up" (defArgs sMoved) (defBody sMoved) (defScope sMoved) .none kVmv dcmv pmmv anmv cdmv ctmv), slmv⟩)
    (cmv : PySem.W.codeIn K cdmv "moved_up" = true) (kmv : PySem.W.keepIn K (.ref fmv) = true)
    (apb : PySem.W.nsIn K mainGlobals "piece_bound" = some (some (.ref fpb)))
    (lpb : K.lookup fpb = some ⟨ocpb, odpb, .func (PySem.W.fnOf "piece_bound" "piece_bound" (defArgs sBound) (defBody sBound) (defScope sBound) .none kVpb dcpb pmpb anpb cdpb ctpb), slpb⟩)
    (cpb : PySem.W.codeIn K cdpb "piece_bound" = true) (kpb : PySem.W.keepIn K (.ref fpb) = true)
    (atx : PySem.W.nsIn K mainGlobals "text_of" = some (some (.ref ftx)))
    (ltx : K.lookup ftx = some ⟨octx, odtx, .func (PySem.W.fnOf "text_of" "text_of" (defArgs sText) (defBody sText) (defScope sText) .none kVtx dctx pmtx antx cdtx cttx), sltx⟩)
    (ctx : PySem.W.codeIn K cdtx "text_of" = true) (ktx : PySem.W.keepIn K (.ref ftx) = true)
    (asg : PySem.W.nsIn K mainGlobals "without_sign" = some (some (.ref fsg)))
    (lsg : K.lookup fsg = some ⟨ocsg, odsg, .func (PySem.W.fnOf "without_sign" "without_sign" (defArgs sSign) (defBody sSign) (defScope sSign) .none kVsg dcsg pmsg ansg cdsg ctsg), slsg⟩)
    (csg : PySem.W.codeIn K cdsg "without_sign" = true) (ksg : PySem.W.keepIn K (.ref fsg) = true)
    (apc : PySem.W.nsIn K mainGlobals "pieces_of" = some (some (.ref fpc)))
    (lpc : K.lookup fpc = some ⟨ocpc, odpc, .func (PySem.W.fnOf "pieces_of" "pieces_of" (defArgs sPieces) (defBody sPieces) (defScope sPieces) .none kVpc dcpc pmpc anpc cdpc ctpc), slpc⟩)
    (cpc : PySem.W.codeIn K cdpc "pieces_of" = true) (kpc : PySem.W.keepIn K (.ref fpc) = true)
    (apn : PySem.W.nsIn K mainGlobals "piece_number" = some (some (.ref fpn)))
    (lpn : K.lookup fpn = some ⟨ocpn, odpn, .func (PySem.W.fnOf "piece_number" "piece_number" (defArgs sPieceN) (defBody sPieceN) (defScope sPieceN) .none kVpn dcpn pmpn anpn cdpn ctpn), slpn⟩)
    (cpn : PySem.W.codeIn K cdpn "piece_number" = true) (kpn : PySem.W.keepIn K (.ref fpn) = true)
    (anu : PySem.W.nsIn K mainGlobals "number_of" = some (some (.ref fnu)))
    (lnu : K.lookup fnu = some ⟨ocnu, odnu, .func (PySem.W.fnOf "number_of" "number_of" (defArgs sNumber) (defBody sNumber) (defScope sNumber) .none kVnu dcnu pmnu annu cdnu ctnu), slnu⟩)
    (cnu : PySem.W.codeIn K cdnu "number_of" = true) (knu : PySem.W.keepIn K (.ref fnu) = true)
    (ame : PySem.W.nsIn K mainGlobals "metres" = some (some (.ref fme)))
    (lme : K.lookup fme = some ⟨ocme, odme, .func (PySem.W.fnOf "metres" "metres" (defArgs sMetres) (defBody sMetres) (defScope sMetres) .none kVme dcme pmme anme cdme ctme), slme⟩)
    (cme : PySem.W.codeIn K cdme "metres" = true) (kme : PySem.W.keepIn K (.ref fme) = true)
    (ado : PySem.W.nsIn K mainGlobals "done" = some (some (.ref fdo)))
    (ldo : K.lookup fdo = some ⟨ocdo, oddo, .func (PySem.W.fnOf "done" "done" (defArgs sDone) (defBody sDone) (defScope sDone) .none kVdo dcdo pmdo ando cddo ctdo), sldo⟩)
    (cdo : PySem.W.codeIn K cddo "done" = true) (kdo : PySem.W.keepIn K (.ref fdo) = true)
    (aan : PySem.W.nsIn K mainGlobals "answer" = some (some (.ref fan)))
    (lan : K.lookup fan = some ⟨ocan, odan, .func (PySem.W.fnOf "answer" "answer" (defArgs sAnswer) (defBody sAnswer) (defScope sAnswer) .none kVan dcan pman anan cdan ctan), slan⟩)
    (can : PySem.W.codeIn K cdan "answer" = true) (kan : PySem.W.keepIn K (.ref fan) = true)
    (abe : PySem.W.nsIn K mainGlobals "berths" = some (some (.ref fbe)))
    (lbe : K.lookup fbe = some ⟨ocbe, odbe, .func (PySem.W.fnOf "berths" "berths" (defArgs sBerthsP) (defBody sBerthsP) (defScope sBerthsP) .none kVbe dcbe pmbe anbe cdbe ctbe), slbe⟩)
    (cbe : PySem.W.codeIn K cdbe "berths" = true) (kbe : PySem.W.keepIn K (.ref fbe) = true)
    (a2 : PySem.W.nsIn K mainGlobals "_law_whole" = some (some (.ref f2)))
    (l2 : K.lookup f2 = some ⟨oc2, od2, .func (PySem.W.fnOf "_law_whole" "_law_whole" (defArgs sWhole) (defBody sWhole) (defScope sWhole) .none kV2 dc2 pm2 an2 cd2 ct2), sl2⟩)
    (c2 : PySem.W.codeIn K cd2 "_law_whole" = true) (k2 : PySem.W.keepIn K (.ref f2) = true)
    (a3 : PySem.W.nsIn K mainGlobals "_law_cell_at" = some (some (.ref f3)))
    (l3 : K.lookup f3 = some ⟨oc3, od3, .func (PySem.W.fnOf "_law_cell_at" "_law_cell_at" (defArgs sCell) (defBody sCell) (defScope sCell) .none kV3 dc3 pm3 an3 cd3 ct3), sl3⟩)
    (c3 : PySem.W.codeIn K cd3 "_law_cell_at" = true) (k3 : PySem.W.keepIn K (.ref f3) = true)
    (a4 : PySem.W.nsIn K mainGlobals "_law_day" = some (some (.ref f4)))
    (l4 : K.lookup f4 = some ⟨oc4, od4, .func (PySem.W.fnOf "_law_day" "_law_day" (defArgs sDay) (defBody sDay) (defScope sDay) .none kV4 dc4 pm4 an4 cd4 ct4), sl4⟩)
    (c4 : PySem.W.codeIn K cd4 "_law_day" = true) (k4 : PySem.W.keepIn K (.ref f4) = true)
    (a7 : PySem.W.nsIn K mainGlobals "_law_rows_told" = some (some (.ref f7)))
    (l7 : K.lookup f7 = some ⟨oc7, od7, .func (PySem.W.fnOf "_law_rows_told" "_law_rows_told" (defArgs sRowsTold) (defBody sRowsTold) (defScope sRowsTold) .none kV7 dc7 pm7 an7 cd7 ct7), sl7⟩)
    (c7 : PySem.W.codeIn K cd7 "_law_rows_told" = true) (k7 : PySem.W.keepIn K (.ref f7) = true)
    (a8 : PySem.W.nsIn K mainGlobals "_law_mixed" = some (some (.ref f8)))
    (l8 : K.lookup f8 = some ⟨oc8, od8, .func (PySem.W.fnOf "_law_mixed" "_law_mixed" (defArgs sMixed) (defBody sMixed) (defScope sMixed) .none kV8 dc8 pm8 an8 cd8 ct8), sl8⟩)
    (c8 : PySem.W.codeIn K cd8 "_law_mixed" = true) (k8 : PySem.W.keepIn K (.ref f8) = true)
    (aW : PySem.W.nsIn K mainGlobals "WIDTH" = some (some (.int 600 tW)))
    (aC : PySem.W.nsIn K mainGlobals "Quay" = some (some (.ref C)))
    (aqi : PySem.W.findIn K (.ref C) "__init__" = some (some (.ref fqi))) (iqi : PySem.W.isFn K (.ref fqi) = true)
    (lqi : K.lookup fqi = some ⟨ocqi, odqi, .func (PySem.W.fnOf "__init__" "Quay.__init__" (defArgs sQInit) (defBody sQInit) (defScope sQInit) .none kVqi dcqi pmqi anqi cdqi ctqi), slqi⟩)
    (cqi : PySem.W.codeIn K cdqi "Quay.__init__" = true) (kqi : PySem.W.keepIn K (.ref fqi) = true)
    (aqc : PySem.W.findIn K (.ref C) "come" = some (some (.ref fqc))) (iqc : PySem.W.isFn K (.ref fqc) = true)
    (lqc : K.lookup fqc = some ⟨ocqc, odqc, .func (PySem.W.fnOf "come" "Quay.come" (defArgs sQCome) (defBody sQCome) (defScope sQCome) .none kVqc dcqc pmqc anqc (.ref cc) ctqc), slqc⟩)
    (cqc : PySem.W.codeIn K (.ref cc) "Quay.come" = true) (kqc : PySem.W.keepIn K (.ref fqc) = true)
    (aql : PySem.W.findIn K (.ref C) "leave" = some (some (.ref fql))) (iql : PySem.W.isFn K (.ref fql) = true)
    (lql : K.lookup fql = some ⟨ocql, odql, .func (PySem.W.fnOf "leave" "Quay.leave" (defArgs sQLeave) (defBody sQLeave) (defScope sQLeave) .none kVql dcql pmql anql cdql ctql), slql⟩)
    (cql : PySem.W.codeIn K cdql "Quay.leave" = true) (kql : PySem.W.keepIn K (.ref fql) = true)
    (aqu : PySem.W.findIn K (.ref C) "move_up" = some (some (.ref fqu))) (iqu : PySem.W.isFn K (.ref fqu) = true)
    (lqu : K.lookup fqu = some ⟨ocqu, odqu, .func (PySem.W.fnOf "move_up" "Quay.move_up" (defArgs sQUp) (defBody sQUp) (defScope sQUp) .none kVqu dcqu pmqu anqu cdqu ctqu), slqu⟩)
    (cqu : PySem.W.codeIn K cdqu "Quay.move_up" = true) (kqu : PySem.W.keepIn K (.ref fqu) = true)
    (pg : PySem.W.plainGet K C Str.empty = true)
    (hd : PySem.W.hasDictIn K C = true)
    (po : PySem.W.plainOver K C = true)
    (sa : PySem.W.findIn K (.ref C) "__setattr__" = some (some (.builtin "object.__setattr__")))
    (nl : PySem.W.findIn K (.ref C) "length" = some none)
    (ng : PySem.W.findIn K (.ref C) "gap" = some none)
    (ns : PySem.W.findIn K (.ref C) "ships" = some none)
    (mk : PySem.W.makesIn K C = true)
    (kc : PySem.W.keepIn K (.ref C) = true)
    (eQ : PySem.W.nsIn K mainGlobals "QuayError" = some (some (.ref cQ)))
    (eS : PySem.W.nsIn K mainGlobals "NoShip" = some (some (.ref cS)))
    (eT : PySem.W.nsIn K mainGlobals "Twice" = some (some (.ref cT)))
    (eR : PySem.W.nsIn K mainGlobals "NoRoom" = some (some (.ref cR)))
    (z1 : PySem.W.nsIn K mainGlobals "len" = some none)
    (z2 : PySem.W.nsIn K mainGlobals "isinstance" = some none)
    (z3 : PySem.W.nsIn K mainGlobals "list" = some none)
    (z4 : PySem.W.nsIn K mainGlobals "tuple" = some none)
    (z5 : PySem.W.nsIn K mainGlobals "bool" = some none)
    (z6 : PySem.W.nsIn K mainGlobals "str" = some none)
    (z7 : PySem.W.nsIn K mainGlobals "int" = some none)
    (z8 : PySem.W.nsIn K mainGlobals "range" = some none)
    (z9 : PySem.W.nsIn K mainGlobals "max" = some none)
    (z10 : PySem.W.nsIn K mainGlobals "any" = some none)
    (z11 : PySem.W.nsIn K mainGlobals "zip" = some none)
    (z12 : PySem.W.nsIn K mainGlobals "sum" = some none)
    (z13 : PySem.W.nsIn K mainGlobals "sorted" = some none)
    (z14 : PySem.W.nsIn K mainGlobals "all" = some none)
    (z15 : PySem.W.nsIn K mainGlobals "reversed" = some none)
    (gS : PySem.W.excIn K cS bmV "ValueError.__new__" = true)
    (gT : PySem.W.excIn K cT bmV "ValueError.__new__" = true)
    (gR : PySem.W.excIn K cR bmV "ValueError.__new__" = true)
    (xS : PySem.W.exmOne K (.ref cS) (.ref cQ) = some true)
    (xT : PySem.W.exmOne K (.ref cT) (.ref cQ) = some true)
    (xR : PySem.W.exmOne K (.ref cR) (.ref cQ) = some true)
    (hC : PySem.W.codeHdIn K cc PT = true)
    (hK : K.lookup PT = none)
    (n4 : mainGlobals ≠ PT) :
    ∃ (fd : FuncData) (cc : Addr), (∀ (s : Shared) (v : Value), BindsTo s fd ⟨[v], []⟩ [("_law_script", v)]) ∧ PySem.W.codeHdIn K cc PT = true ∧ K.lookup PT = none ∧ ∀ base : Heap, K.In base → base.Ns mainGlobals mg → base.BuiltinsAt mg PT → FnOk l.prog w K mg base CX0 7 fa fd ["_law_script"] (spLawT K PT labQ) := by
  have e := hfa.symm.trans (PySem.W.mg_of X G aL)
  cases e
  have T : Txt mg := ⟨PySem.W.mg_none_of X G z1, PySem.W.mg_none_of X G z2, PySem.W.mg_none_of X G z3, PySem.W.mg_none_of X G z4, PySem.W.mg_none_of X G z5, PySem.W.mg_none_of X G z6, PySem.W.mg_none_of X G z7, PySem.W.mg_none_of X G z8, PySem.W.mg_none_of X G z9⟩
  have TQ : QTx K mg C := ⟨⟨pg, hd, po, sa⟩, nl, ng, ns, PySem.W.mg_none_of X G z10, PySem.W.mg_none_of X G z11, PySem.W.mg_none_of X G z12, PySem.W.mg_none_of X G z13⟩
  have FL := fun_mk (st := sLaw) lL cL kL
  have Fth := fun_mk (st := sThere) lth cth kth
  have bth := Fth.binds (ps := ["ships", "name"]) fun _ _ _ _ _ _ us hl => match us, hl with | [_, _], _ => rfl
  have Fpl := fun_mk (st := sPlaces) lpl cpl kpl
  have bpl := Fpl.binds (ps := ["ships"]) fun _ _ _ _ _ _ us hl => match us, hl with | [_], _ => rfl
  have Ffp := fun_mk (st := sFirst) lfp cfp kfp
  have bfp := Ffp.binds (ps := ["rows", "length", "gap", "quay"]) fun _ _ _ _ _ _ us hl => match us, hl with | [_, _, _, _], _ => rfl
  have Fmv := fun_mk (st := sMoved) lmv cmv kmv
  have bmv := Fmv.binds (ps := ["rows", "gap"]) fun _ _ _ _ _ _ us hl => match us, hl with | [_, _], _ => rfl
  have Fpb := fun_mk (st := sBound) lpb cpb kpb
  have bpb := Fpb.binds (ps := []) fun _ _ _ _ _ _ us hl => match us, hl with | [], _ => rfl
  have Ftx := fun_mk (st := sText) ltx ctx ktx
  have btx := Ftx.binds (ps := ["number"]) fun _ _ _ _ _ _ us hl => match us, hl with | [_], _ => rfl
  have Fsg := fun_mk (st := sSign) lsg csg ksg
  have bsg := Fsg.binds (ps := ["word"]) fun _ _ _ _ _ _ us hl => match us, hl with | [_], _ => rfl
  have Fpc := fun_mk (st := sPieces) lpc cpc kpc
  have bpc := Fpc.binds (ps := ["digits"]) fun _ _ _ _ _ _ us hl => match us, hl with | [_], _ => rfl
  have Fpn := fun_mk (st := sPieceN) lpn cpn kpn
  have bpn := Fpn.binds (ps := ["piece"]) fun _ _ _ _ _ _ us hl => match us, hl with | [_], _ => rfl
  have Fnu := fun_mk (st := sNumber) lnu cnu knu
  have bnu := Fnu.binds (ps := ["word"]) fun _ _ _ _ _ _ us hl => match us, hl with | [_], _ => rfl
  have Fme := fun_mk (st := sMetres) lme cme kme
  have bme := Fme.binds (ps := ["word"]) fun _ _ _ _ _ _ us hl => match us, hl with | [_], _ => rfl
  have Fdo := fun_mk (st := sDone) ldo cdo kdo
  have bdo := Fdo.binds (ps := ["quay", "words"]) fun _ _ _ _ _ _ us hl => match us, hl with | [_, _], _ => rfl
  have Fan := fun_mk (st := sAnswer) lan can kan
  have ban := Fan.binds (ps := ["quay", "row"]) fun _ _ _ _ _ _ us hl => match us, hl with | [_, _], _ => rfl
  have Fbe := fun_mk (st := sBerthsP) lbe cbe kbe
  have bbe := Fbe.binds (ps := ["length", "gap", "rows"]) fun _ _ _ _ _ _ us hl => match us, hl with | [_, _, _], _ => rfl
  have F2 := fun_mk (st := sWhole) l2 c2 k2
  have b2 := F2.binds (ps := ["_law_found"]) fun _ _ _ _ _ _ us hl => match us, hl with | [_], _ => rfl
  have F3 := fun_mk (st := sCell) l3 c3 k3
  have b3 := F3.binds (ps := ["_law_script", "_law_k"]) fun _ _ _ _ _ _ us hl => match us, hl with | [_, _], _ => rfl
  have F4 := fun_mk (st := sDay) l4 c4 k4
  have b4 := F4.binds (ps := ["_law_cells"]) fun _ _ _ _ _ _ us hl => match us, hl with | [_], _ => rfl
  have F7 := fun_mk (st := sRowsTold) l7 c7 k7
  have b7 := F7.binds (ps := ["_law_found"]) fun _ _ _ _ _ _ us hl => match us, hl with | [_], _ => rfl
  have F8 := fun_mk (st := sMixed) l8 c8 k8
  have b8 := F8.binds (ps := ["_law_script"]) fun _ _ _ _ _ _ us hl => match us, hl with | [_], _ => rfl
  have Fqi := fun_mk (st := sQInit) lqi cqi kqi
  have bqi := Fqi.binds (ps := ["self", "length", "gap"]) fun _ _ _ _ _ _ us hl => match us, hl with | [_, _, _], _ => rfl
  have Fqc := fun_mk (st := sQCome) lqc cqc kqc
  have bqc := Fqc.binds (ps := ["self", "name", "length"]) fun _ _ _ _ _ _ us hl => match us, hl with | [_, _, _], _ => rfl
  have Fql := fun_mk (st := sQLeave) lql cql kql
  have bql := Fql.binds (ps := ["self", "name"]) fun _ _ _ _ _ _ us hl => match us, hl with | [_, _], _ => rfl
  have Fqu := fun_mk (st := sQUp) lqu cqu kqu
  have bqu := Fqu.binds (ps := ["self"]) fun _ _ _ _ _ _ us hl => match us, hl with | [_], _ => rfl
  have Bth : Fns K mg "is_there" ["ships", "name"] fth _ := ⟨PySem.W.mg_of X G ath, kth, bth⟩
  have Bpl : Fns K mg "places_of" ["ships"] fpl _ := ⟨PySem.W.mg_of X G apl, kpl, bpl⟩
  have Bfp : Fns K mg "first_place" ["rows", "length", "gap", "quay"] ffp _ := ⟨PySem.W.mg_of X G afp, kfp, bfp⟩
  have Bmv : Fns K mg "moved_up" ["rows", "gap"] fmv _ := ⟨PySem.W.mg_of X G amv, kmv, bmv⟩
  have Bpb : Fns K mg "piece_bound" [] fpb _ := ⟨PySem.W.mg_of X G apb, kpb, bpb⟩
  have Btx : Fns K mg "text_of" ["number"] ftx _ := ⟨PySem.W.mg_of X G atx, ktx, btx⟩
  have Bsg : Fns K mg "without_sign" ["word"] fsg _ := ⟨PySem.W.mg_of X G asg, ksg, bsg⟩
  have Bpc : Fns K mg "pieces_of" ["digits"] fpc _ := ⟨PySem.W.mg_of X G apc, kpc, bpc⟩
  have Bpn : Fns K mg "piece_number" ["piece"] fpn _ := ⟨PySem.W.mg_of X G apn, kpn, bpn⟩
  have Bnu : Fns K mg "number_of" ["word"] fnu _ := ⟨PySem.W.mg_of X G anu, knu, bnu⟩
  have Bme : Fns K mg "metres" ["word"] fme _ := ⟨PySem.W.mg_of X G ame, kme, bme⟩
  have Bdo : Fns K mg "done" ["quay", "words"] fdo _ := ⟨PySem.W.mg_of X G ado, kdo, bdo⟩
  have Ban : Fns K mg "answer" ["quay", "row"] fan _ := ⟨PySem.W.mg_of X G aan, kan, ban⟩
  have Bbe : Fns K mg "berths" ["length", "gap", "rows"] fbe _ := ⟨PySem.W.mg_of X G abe, kbe, bbe⟩
  have B2 : Fns K mg "_law_whole" ["_law_found"] f2 _ := ⟨PySem.W.mg_of X G a2, k2, b2⟩
  have B3 : Fns K mg "_law_cell_at" ["_law_script", "_law_k"] f3 _ := ⟨PySem.W.mg_of X G a3, k3, b3⟩
  have B4 : Fns K mg "_law_day" ["_law_cells"] f4 _ := ⟨PySem.W.mg_of X G a4, k4, b4⟩
  have B7 : Fns K mg "_law_rows_told" ["_law_found"] f7 _ := ⟨PySem.W.mg_of X G a7, k7, b7⟩
  have B8 : Fns K mg "_law_mixed" ["_law_script"] f8 _ := ⟨PySem.W.mg_of X G a8, k8, b8⟩
  refine ⟨PySem.W.fnOf "law" "law" (defArgs sLaw) (defBody sLaw) (defScope sLaw) .none kVL dcL pmL anL cdL ctL, cc, fun s v => .of_eq rfl, hC, hK, fun base kb nb bb => ?_⟩
  have EX : Exs mg base cS cT cR := ⟨own_mk kb nb eS gS, own_mk kb nb eT gT, own_mk kb nb eR gR⟩
  have LT : LamT K mg base PT cc := ⟨hC, bb, n4⟩
  have Gc : FnOk l.prog w K mg base (CX1 l.prog w) 2 fqc _ ["self", "name", "length"] (spComeQ C PT cS cT cR) := ok_comeQ Fqc rfl TQ EX LT Fth Bth Fpl Bpl Ffp Bfp
  have Gl : FnOk l.prog w K mg base (CX1 l.prog w) 2 fql _ ["self", "name"] (spLeaveQ C cS) := ok_leaveQ Fql TQ EX Fth Bth
  have Gu : FnOk l.prog w K mg base CX0 2 fqu _ ["self"] (spUpQ C) := ok_upQ Fqu TQ Fpl Bpl Fmv Bmv
  have TN : TxN mg := ⟨⟨tW, PySem.W.mg_of X G aW⟩, PySem.W.mg_none_of X G z14, PySem.W.mg_none_of X G z15⟩
  have Gpb : FnOk l.prog w K mg base CX0 1 fpb _ [] spBound := ok_bound Fpb T TN
  have Gtx : FnOk l.prog w K mg base CX0 2 ftx _ ["number"] spText := ok_text Ftx T TN Gpb Bpb
  have Gnu : FnOk l.prog w K mg base CX0 2 fnu _ ["word"] spNumber := ok_number Fnu T TN Gpb Bpb (ok_sign Fsg) Bsg (ok_pieces Fpc T TN) Bpc (ok_pieceN Fpn T) Bpn
  have Gme : FnOk l.prog w K mg base CX0 3 fme _ ["word"] spNumber := ok_metres Fme Gnu Bnu
  have Gd : FnOk l.prog w K mg base (CX1 l.prog w) 4 fdo _ ["quay", "words"] (spDone C PT cS cT cR) := ok_done Fdo T TQ Gc ⟨aqc, iqc, kqc⟩ bqc Gl ⟨aql, iql, kql⟩ bql Gu ⟨aqu, iqu, kqu⟩ bqu Gme Bme Gtx Btx
  have Ga : FnOk l.prog w K mg base CX0 5 fan _ ["quay", "row"] (spAnswer C PT) := ok_answer Fan (PySem.W.mg_of X G eQ) xS xT xR Gd Bdo
  have Gb : FnOk l.prog w K mg base CX0 6 fbe _ ["length", "gap", "rows"] (spT PT labQ spBerP) := ok_berthsP Fbe TQ ⟨mk, aqi, iqi, kc⟩ (PySem.W.mg_of X G aC) Fqi bqi Ga Ban
  exact ok_law (n := 6) (by decide) FL T (PySem.W.mg_none_of X G z12) Gb Bbe F2 B2 F3 B3 F4 B4 F7 B7 F8 B8
end Bl
open PySem PySem.W PyProof.Rows
set_option maxRecDepth 100000 in
set_option maxHeartbeats 0 in
theorem PySem.Challenge.cw_berthline_k04_whole_no_two_meet_holds : PySem.Challenge.rw_berthline_k04_whole_no_two_meet.Holds := by
  w_on; o_law; k_head; (case hw => w_witness2)
  k_fill
  refine Bl.walkT (l := PySem.Challenge.rw_berthline_k04_whole_no_two_meet) (k := 7) (lab := Bl.labQ) rfl rfl ⟨rfl, by decide, by decide⟩ (fun w h Y => PySem.W.km_in_of Y) (fun w h Y => PySem.W.km_tabs_of Y _ (.head _)) ?F
  case F =>
    intro w mg fa h KX G hmg
    refine' Bl.all_mk KX G hmg ?aL ?lL ?cL ?kL ?ath ?lth ?cth ?kth ?apl ?lpl ?cpl ?kpl ?afp ?lfp ?cfp ?kfp ?amv ?lmv ?cmv ?kmv ?apb ?lpb ?cpb ?kpb ?atx ?ltx ?ctx ?ktx ?asg ?lsg ?csg ?ksg ?apc ?lpc ?cpc ?kpc ?apn ?lpn ?cpn ?kpn ?anu ?lnu ?cnu ?knu ?ame ?lme ?cme ?kme ?ado ?ldo ?cdo ?kdo ?aan ?lan ?can ?kan ?abe ?lbe ?cbe ?kbe ?a2 ?l2 ?c2 ?k2 ?a3 ?l3 ?c3 ?k3 ?a4 ?l4 ?c4 ?k4 ?a7 ?l7 ?c7 ?k7 ?a8 ?l8 ?c8 ?k8 ?aW ?aC ?aqi ?iqi ?lqi ?cqi ?kqi ?aqc ?iqc ?lqc ?cqc ?kqc ?aql ?iql ?lql ?cql ?kql ?aqu ?iqu ?lqu ?cqu ?kqu ?pg ?hd ?po ?sa ?nl ?ng ?ns ?mk ?kc ?eQ ?eS ?eT ?eR ?z1 ?z2 ?z3 ?z4 ?z5 ?z6 ?z7 ?z8 ?z9 ?z10 ?z11 ?z12 ?z13 ?z14 ?z15 ?gS ?gT ?gR ?xS ?xT ?xR ?hC ?hK ?n4
    (case aL => k_is)
    (case lL => k_is)
    (case cL => k_is)
    (case kL => k_is)
    (case ath => k_is)
    (case lth => k_is)
    (case cth => k_is)
    (case kth => k_is)
    (case apl => k_is)
    (case lpl => k_is)
    (case cpl => k_is)
    (case kpl => k_is)
    (case afp => k_is)
    (case lfp => k_is)
    (case cfp => k_is)
    (case kfp => k_is)
    (case amv => k_is)
    (case lmv => k_is)
    (case cmv => k_is)
    (case kmv => k_is)
    (case apb => k_is)
    (case lpb => k_is)
    (case cpb => k_is)
    (case kpb => k_is)
    (case atx => k_is)
    (case ltx => k_is)
    (case ctx => k_is)
    (case ktx => k_is)
    (case asg => k_is)
    (case lsg => k_is)
    (case csg => k_is)
    (case ksg => k_is)
    (case apc => k_is)
    (case lpc => k_is)
    (case cpc => k_is)
    (case kpc => k_is)
    (case apn => k_is)
    (case lpn => k_is)
    (case cpn => k_is)
    (case kpn => k_is)
    (case anu => k_is)
    (case lnu => k_is)
    (case cnu => k_is)
    (case knu => k_is)
    (case ame => k_is)
    (case lme => k_is)
    (case cme => k_is)
    (case kme => k_is)
    (case ado => k_is)
    (case ldo => k_is)
    (case cdo => k_is)
    (case kdo => k_is)
    (case aan => k_is)
    (case lan => k_is)
    (case can => k_is)
    (case kan => k_is)
    (case abe => k_is)
    (case lbe => k_is)
    (case cbe => k_is)
    (case kbe => k_is)
    (case a2 => k_is)
    (case l2 => k_is)
    (case c2 => k_is)
    (case k2 => k_is)
    (case a3 => k_is)
    (case l3 => k_is)
    (case c3 => k_is)
    (case k3 => k_is)
    (case a4 => k_is)
    (case l4 => k_is)
    (case c4 => k_is)
    (case k4 => k_is)
    (case a7 => k_is)
    (case l7 => k_is)
    (case c7 => k_is)
    (case k7 => k_is)
    (case a8 => k_is)
    (case l8 => k_is)
    (case c8 => k_is)
    (case k8 => k_is)
    (case aW => k_is)
    (case aC => k_is)
    (case aqi => k_is)
    (case iqi => k_is)
    (case lqi => k_is)
    (case cqi => k_is)
    (case kqi => k_is)
    (case aqc => k_is)
    (case iqc => k_is)
    (case lqc => k_is)
    (case cqc => k_is)
    (case kqc => k_is)
    (case aql => k_is)
    (case iql => k_is)
    (case lql => k_is)
    (case cql => k_is)
    (case kql => k_is)
    (case aqu => k_is)
    (case iqu => k_is)
    (case lqu => k_is)
    (case cqu => k_is)
    (case kqu => k_is)
    (case pg => k_is)
    (case hd => k_is)
    (case po => k_is)
    (case sa => k_is)
    (case nl => k_is)
    (case ng => k_is)
    (case ns => k_is)
    (case mk => k_is)
    (case kc => k_is)
    (case eQ => k_is)
    (case eS => k_is)
    (case eT => k_is)
    (case eR => k_is)
    (case z1 => k_is)
    (case z2 => k_is)
    (case z3 => k_is)
    (case z4 => k_is)
    (case z5 => k_is)
    (case z6 => k_is)
    (case z7 => k_is)
    (case z8 => k_is)
    (case z9 => k_is)
    (case z10 => k_is)
    (case z11 => k_is)
    (case z12 => k_is)
    (case z13 => k_is)
    (case z14 => k_is)
    (case z15 => k_is)
    (case gS => kernel_rfl)
    (case gT => kernel_rfl)
    (case gR => kernel_rfl)
    (case xS => kernel_rfl)
    (case xT => kernel_rfl)
    (case xR => kernel_rfl)
    (case hC => kernel_rfl)
    (case hK => kernel_rfl)
    (case n4 => decide)
