import PyProof.Rows.All
import Wide.All
import OpenK.AllK
import Wide.FinOn
import Lean
import PyProof.EqAt
import PyProof.EqKinds
import PyProof.TupleCall
import PyProof.ExcAttrAll.ValueError
import PySem.Challenge.RW_rerunyard_k24_queues_known
set_option Elab.async false
set_option linter.all false
set_option maxRecDepth 100000
/-! THE HAND LAYER, for ints, bools, texts, own classes, LISTS and tuples (index, slices, in, append, pop ..), calls, loops. Paste it whole ahead of your own text; what your proof does not reach may be deleted. -/
namespace L2
open PySem PySem.Spec PyProof.Rows

abbrev Key := Sum Int Str
def keyIs : Key → Value → Bool
  | .inl k, v => Value.isInt k v
  | .inr x, v => Value.isStrOf x v
def keyH (w : World) : Key → Int
  | .inl k => hashInt k
  | .inr x => hashStr w x
theorem keyIs_shape : ∀ {k : Key} {v : Value}, keyIs k v = true → (∃ i t, k = Sum.inl i ∧ v = Value.int i t) ∨ (∃ x t, k = Sum.inr x ∧ v = Value.str x t)
  | .inl i, v, h => by
    obtain ⟨t, e⟩ := Value.isInt_shape (k := i) (v := v) h
    exact .inl ⟨i, t, rfl, e⟩
  | .inr x, v, h => by
    obtain ⟨t, e⟩ := Value.isStrOf_shape (x := x) (v := v) h
    exact .inr ⟨x, t, rfl, e⟩
theorem keyIs_int (i : Int) (t : Tok) : keyIs (.inl i) (.int i t) = true := by simp [keyIs, Value.isInt]
theorem keyIs_str (x : Str) (t : Tok) : keyIs (.inr x) (.str x t) = true := by simp [keyIs, Value.isStrOf]
theorem key_ll (a b : Int) : decide ((Sum.inl a : Key) = Sum.inl b) = (a == b) := by
  by_cases e : a = b
  · subst e; simp
  · have h : ¬ (Sum.inl a : Key) = Sum.inl b := fun q => e (Sum.inl.inj q)
    rw [decide_eq_false h]
    exact (beq_eq_false_iff_ne.mpr e).symm
theorem key_rr (a b : Str) : decide ((Sum.inr a : Key) = Sum.inr b) = decide (a = b) := by
  by_cases e : a = b
  · subst e; simp
  · have h : ¬ (Sum.inr a : Key) = Sum.inr b := fun q => e (Sum.inr.inj q)
    rw [decide_eq_false h, decide_eq_false e]
theorem key_lr (a : Int) (b : Str) : decide ((Sum.inl a : Key) = Sum.inr b) = false := decide_eq_false (fun q => nomatch q)
theorem key_rl (a : Str) (b : Int) : decide ((Sum.inr a : Key) = Sum.inl b) = false := decide_eq_false (fun q => nomatch q)

def mixKind (prog : Program) (w : World) : PySem.KeyKind prog w Key where
  is := keyIs
  hash := keyH w
  inj := fun v a b ha hb => by
    rcases keyIs_shape ha with ⟨i, t, rfl, rfl⟩ | ⟨x, t, rfl, rfl⟩
    · rcases keyIs_shape hb with ⟨j, u, rfl, e⟩ | ⟨y, u, rfl, e⟩
      · injection e with e1 _; rw [e1]
      · exact nomatch e
    · rcases keyIs_shape hb with ⟨j, u, rfl, e⟩ | ⟨y, u, rfl, e⟩
      · exact nomatch e
      · injection e with e1 _; rw [e1]
  byValue := fun k v h => by
    rcases keyIs_shape h with ⟨i, t, rfl, rfl⟩ | ⟨x, t, rfl, rfl⟩ <;> rfl
  pyHash := fun hv h => by
    rcases keyIs_shape hv with ⟨i, t, rfl, rfl⟩ | ⟨x, t, rfl, rfl⟩
    · exact wpAny_pyHash_int h
    · exact wpAny_pyHash_str h
  eqBool := fun hu hv h => by
    rcases keyIs_shape hu with ⟨i, t, rfl, rfl⟩ | ⟨x, t, rfl, rfl⟩
    · rcases keyIs_shape hv with ⟨j, u, rfl, rfl⟩ | ⟨y, u, rfl, rfl⟩
      · rw [key_ll] at h; exact wpAny_eqBool_int h
      · rw [key_lr] at h; exact SeqAt.EqAt.int_str i t y u _ _ _ _ h
    · rcases keyIs_shape hv with ⟨j, u, rfl, rfl⟩ | ⟨y, u, rfl, rfl⟩
      · rw [key_rl] at h; exact SeqAt.EqAt.str_int x t j u _ _ _ _ h
      · rw [key_rr] at h; exact wpAny_eqBool_str h
  «strs» := fun k x t v h => by
    rcases keyIs_shape h with ⟨i, u, rfl, e⟩ | ⟨y, u, rfl, e⟩
    · exact nomatch e
    · injection e with e1 _
      subst e1
      cases v <;> rfl

theorem mixKind_int (prog : Program) (w : World) (i : Int) (t : Tok) : (mixKind prog w).is (.inl i) (.int i t) = true := keyIs_int i t
theorem mixKind_str (prog : Program) (w : World) (x : Str) (t : Tok) : (mixKind prog w).is (.inr x) (.str x t) = true := keyIs_str x t
end L2

namespace L2
open PySem PySem.Spec PyProof.Rows

inductive V where
  | non | bl (b : Bool) | int (i : Int) | str (x : Str) | byt (b : Array UInt8) | flt (b : UInt64) | ref (a : Addr) | ty (n : String)
  deriving DecidableEq

def RelV : V → Value → Prop
  | .non, u => u = Value.none
  | .bl b, u => u = Value.bool b
  | .int i, u => ∃ t, u = Value.int i t
  | .str x, u => ∃ t, u = Value.str x t
  | .byt b, u => ∃ t, u = Value.bytes b t
  | .flt b, u => ∃ t, u = Value.float b t
  | .ref a, u => u = Value.ref a
  | .ty n, u => u = Value.type n

abbrev Vals : List V → List Value → Prop := Paired RelV
theorem Vals.length {xs : List V} {us : List Value} (r : Vals xs us) : xs.length = us.length := Paired.length r
theorem Vals.get : ∀ {xs : List V} {us : List Value} {i : Nat} {x : V}, Vals xs us → xs[i]? = some x → ∃ u, us[i]? = some u ∧ RelV x u
  | _, _, _, _, .nil, e => by simp at e
  | _, _, 0, _, .cons r _, e => by simp at e; subst e; exact ⟨_, rfl, r⟩
  | _, _, i + 1, x, .cons _ t, e => by
    obtain ⟨u, h1, h2⟩ := Vals.get (i := i) (x := x) t (by simpa using e)
    exact ⟨u, by simpa using h1, h2⟩
theorem Vals.set {x : V} {u : Value} (r : RelV x u) : ∀ {xs : List V} {us : List Value} (i : Nat), Vals xs us → Vals (xs.set i x) (us.set i u)
  | _, _, _, .nil => .nil
  | _, _, 0, .cons _ t => .cons r t
  | _, _, i + 1, .cons q t => .cons q (Vals.set r i t)
theorem Vals.append : ∀ {xs ys : List V} {us ws : List Value}, Vals xs us → Vals ys ws → Vals (xs ++ ys) (us ++ ws)
  | _, _, _, _, .nil, s => s
  | _, _, _, _, .cons r t, s => .cons r (Vals.append t s)
theorem Vals.take : ∀ {xs : List V} {us : List Value} (n : Nat), Vals xs us → Vals (xs.take n) (us.take n)
  | _, _, 0, _ => .nil
  | _, _, _ + 1, .nil => .nil
  | _, _, n + 1, .cons r t => .cons r (Vals.take n t)
theorem Vals.drop : ∀ {xs : List V} {us : List Value} (n : Nat), Vals xs us → Vals (xs.drop n) (us.drop n)
  | _, _, 0, r => r
  | _, _, _ + 1, .nil => .nil
  | _, _, n + 1, .cons _ t => Vals.drop n t
theorem Vals.none_of : ∀ {xs : List V} {us : List Value} {i : Nat}, Vals xs us → xs[i]? = none → us[i]? = none := fun {xs us i} r e => by
  have h1 := r.length
  have h2 : xs.length ≤ i := List.getElem?_eq_none_iff.mp e
  exact List.getElem?_eq_none_iff.mpr (by omega)

def RelO : Option V → Option Value → Prop
  | some v, some u => RelV v u
  | none, none => True
  | _, _ => False
def KV {κ : Type} : List (κ × V) → List (κ × Value) → Prop := Paired fun (p : κ × V) (q : κ × Value) => p.1 = q.1 ∧ RelV p.2 q.2

def kV : Key → V
  | .inl i => .int i
  | .inr x => .str x

inductive HO where
  /-- a list -/
  | lst (xs : List V)
  /-- a tuple (never changes) -/
  | tup (xs : List V)
  /-- a dict whose keys are ints and texts; one whose keys are tuples of ints and texts (the empty one is both) -/
  | dK (kvs : List (Key × V)) | dT (kvs : List (List Key × V))
  /-- a set of ints: its members, its size -/
  | set (S : Int → Bool) (n : Nat)
  /-- an instance of the class at C, its dict at dx, its attributes -/
  | ins (C dx : Addr) (fs : List (Str × V))
  /-- the dict of the instance at x -/
  | own (x : Addr)
  /-- the dict of an exception -/
  | xd (fs : List (Str × V))
  /-- a bound method, f of x -/
  | met (f x : Addr)
  /-- a range object lo, lo + 1, .. below hi -/
  | rng (lo hi : Int)
  /-- a thing that is known to the object (the script; a dict while a loop walks it): read, never written while it is so -/
  | frz (o : Obj) (u : HO)
  /-- a code object's table -/
  | tbl (ps : Array Value)
  /-- any other thing, by what is true of its one object (a def of one's own: SetO a S n := HO.ext fun h => ..) -/
  | ext (φ : Heap → Prop)

abbrev Hp := Addr → Option HO
def upd (H : Hp) (a : Addr) (o : HO) : Hp := fun b => if b = a then some o else H b
theorem upd_same {H : Hp} {a : Addr} {o : HO} : upd H a o a = some o := by unfold upd; rw [if_pos rfl]
theorem upd_ne {H : Hp} {a b : Addr} {o : HO} (h : b ≠ a) : upd H a o b = H b := by unfold upd; rw [if_neg h]
theorem ne_of {H : Hp} {a b : Addr} {o u : HO} (h : H a = some o) (h' : H b = some u) (d : o ≠ u) : a ≠ b := by
  intro e; subst e; rw [h] at h'; exact d (Option.some.inj h')
theorem ne_of_none {H : Hp} {a b : Addr} {o : HO} (h : H a = some o) (h' : H b = none) : a ≠ b := by
  intro e; subst e; rw [h] at h'; cases h'

section
variable (P : Program) (w : World)
def ObjOk (H : Hp) (h : Heap) (a : Addr) : HO → Prop
  | .lst xs => xs.length ≤ sizeLine ∧ ∃ (its : List Value) (n : Nat), Vals xs its ∧ h.get? a = some { cls := .type "list", data := .seq its.toArray n }
  | .tup xs => xs.length ≤ sizeLine ∧ ∃ its : List Value, Vals xs its ∧ IsTup h a its.toArray
  | .dK kvs => kvs.length ≤ sizeLine ∧ (a == sysModules) = false ∧ ∃ vs, KV kvs vs ∧ h.DictOf (mixKind P w) a vs
  | .dT kvs => kvs.length ≤ sizeLine ∧ (a == sysModules) = false ∧ ∃ xs : List (List Key × Addr × Value),
      Paired (fun (p : List Key × V) (q : List Key × Addr × Value) => p.1 = q.1 ∧ H q.2.1 = some (.tup (p.1.map kV)) ∧ RelV p.2 q.2.2) kvs xs ∧
      ∃ o es ep, h.get? a = some o ∧ o.ExactDict ∧ o.data = .dict es ep ∧ es.toList = xs.map (entryOfKey (tupleKind (mixKind P w))) ∧ (xs.map (·.1)).Nodup
  | .set S n => h.SetOf (intKind P w) a S n
  | .ins C dx fs => H dx = some (.own a) ∧ fs.length ≤ 1000 ∧ dx ≠ a ∧ h.get? a = some (PySem.W.instObj C dx) ∧
      ∃ mA, h.Ns1 dx mA ∧ (∀ f, RelO (fs.lookup f) (mA f)) ∧ PySem.Within mA (fs.map (·.1))
  | .own _ => ∃ o, h.get? a = some o
  | .xd fs => ∃ mA, h.Ns1 a mA ∧ ∀ f, RelO (fs.lookup f) (mA f)
  | .rng lo hi => ∃ t u v, h.get? a = some { cls := .type "range", data := .fields #[.int lo t, .int hi u, .int 1 v] }
  | .frz o u => h.get? a = some o ∧ ObjOk H h a u
  | .tbl ps => h.get? a = some { cls := .none, data := .fields ps }
  | .met f x => h.get? a = some (PySem.W.methodObj (.ref f) (.ref x))
  | .ext φ => φ h ∧ (∃ o, h.get? a = some o) ∧ ∀ h1 h2 : Heap, φ h1 → (∀ o, h1.get? a = some o → h2.get? a = some o) → φ h2
def HOk (H : Hp) (h : Heap) : Prop := ∀ a o, H a = some o → ObjOk P w H h a o
end

section
variable {P : Program} {w : World} {H H' : Hp} {h h' : Heap} {a : Addr} {o : HO}
theorem ObjOk.lt (x : ObjOk P w H h a o) : a < h.objs.size := by
  cases o with
  | lst xs => obtain ⟨_, _, _, _, e⟩ := x; exact Heap.lt_size e
  | tup xs => obtain ⟨_, _, _, p⟩ := x; exact p.lt
  | dK kvs => obtain ⟨_, _, _, _, o, _, _, e, _⟩ := x; exact Heap.lt_size e
  | dT kvs => obtain ⟨_, _, _, _, o, _, _, e, _⟩ := x; exact Heap.lt_size e
  | set S n => obtain ⟨o, _, _, _, e, _⟩ := x; exact Heap.lt_size e
  | ins C dx fs => obtain ⟨_, _, _, e, _⟩ := x; exact Heap.lt_size e
  | own y => obtain ⟨_, e⟩ := x; exact Heap.lt_size e
  | xd fs => obtain ⟨_, ⟨_, _, _, e, _⟩, _⟩ := x; exact Heap.lt_size e
  | rng lo hi => obtain ⟨_, _, _, e⟩ := x; exact Heap.lt_size e
  | frz ob u => obtain ⟨e, _⟩ := x; exact Heap.lt_size e
  | tbl ps => exact Heap.lt_size (show h.get? a = some _ from x)
  | met f y => exact Heap.lt_size (show h.get? a = some _ from x)
  | ext φ => obtain ⟨_, ⟨_, e⟩, _⟩ := x; exact Heap.lt_size e
theorem Paired.mapP {α β : Type} {F G : α → β → Prop} : ∀ {l₁ : List α} {l₂ : List β}, Paired F l₁ l₂ → (∀ a b, F a b → G a b) → Paired G l₁ l₂
  | _, _, .nil, _ => .nil
  | _, _, .cons r t, f => .cons (f _ _ r) (Paired.mapP t f)
theorem ObjOk.stay (x : ObjOk P w H h a o) (k : ∀ b u, (b = a ∨ H b = some (.own a)) → h.get? b = some u → h'.get? b = some u)
    (ho : ∀ b, H b = some (.own a) → H' b = some (.own a)) (ht : ∀ b xs, H b = some (.tup xs) → H' b = some (.tup xs)) : ObjOk P w H' h' a o := by
  induction o with
  | lst xs => obtain ⟨z, its, n, r, e⟩ := x; exact ⟨z, its, n, r, k _ _ (.inl rfl) e⟩
  | tup xs => obtain ⟨z, its, r, ob, e, c⟩ := x; exact ⟨z, its, r, ob, k _ _ (.inl rfl) e, c⟩
  | dK kvs => obtain ⟨z, y, vs, r, ob, es, ep, e, c⟩ := x; exact ⟨z, y, vs, r, ob, es, ep, k _ _ (.inl rfl) e, c⟩
  | dT kvs =>
    obtain ⟨z, y, xs, r, ob, es, ep, e, c⟩ := x
    exact ⟨z, y, xs, Paired.mapP r fun p q z => ⟨z.1, ht _ _ z.2.1, z.2.2⟩, ob, es, ep, k _ _ (.inl rfl) e, c⟩
  | set S n => obtain ⟨ob, es, ep, t, e, c⟩ := x; exact ⟨ob, es, ep, t, k _ _ (.inl rfl) e, c⟩
  | ins C dx fs =>
    obtain ⟨d, z, ne, e, mA, ⟨od, es, ep, e2, c⟩, r⟩ := x
    exact ⟨ho _ d, z, ne, k _ _ (.inl rfl) e, mA, ⟨od, es, ep, k _ _ (.inr d) e2, c⟩, r⟩
  | own y => obtain ⟨ob, e⟩ := x; exact ⟨ob, k _ _ (.inl rfl) e⟩
  | xd fs => obtain ⟨mA, ⟨od, es, ep, e, c⟩, r⟩ := x; exact ⟨mA, ⟨od, es, ep, k _ _ (.inl rfl) e, c⟩, r⟩
  | rng lo hi => obtain ⟨t, u, v, e⟩ := x; exact ⟨t, u, v, k _ _ (.inl rfl) e⟩
  | frz ob u ih => obtain ⟨e, q⟩ := x; exact ⟨k _ _ (.inl rfl) e, ih q⟩
  | tbl ps =>
    have e : h.get? a = some { cls := .none, data := .fields ps } := x
    show h'.get? a = some { cls := .none, data := .fields ps }
    exact k a _ (.inl rfl) e
  | met f y =>
    have e : h.get? a = some (PySem.W.methodObj (.ref f) (.ref y)) := x
    show h'.get? a = some (PySem.W.methodObj (.ref f) (.ref y))
    exact k a _ (.inl rfl) e
  | ext φ => obtain ⟨p, ⟨o, e⟩, st⟩ := x; exact ⟨st _ _ p fun o q => k _ _ (.inl rfl) q, ⟨o, k _ _ (.inl rfl) e⟩, st⟩
theorem HOk.lt (x : HOk P w H h) (e : H a = some o) : a < h.objs.size := (x a o e).lt
theorem HOk.fresh (x : HOk P w H h) (e : h.objs.size ≤ a) : H a = none := by
  cases q : H a with
  | none => rfl
  | some u => exact absurd (Nat.lt_of_lt_of_le (x.lt q) e) (Nat.lt_irrefl _)
theorem HOk.kept (x : HOk P w H h) (k : ∀ b u, h.get? b = some u → h'.get? b = some u) : HOk P w H h' := fun a o e =>
  (x a o e).stay (fun b u _ q => k b u q) (fun _ q => q) fun _ _ q => q
theorem HOk.laid (x : HOk P w H h) (k : ∀ b u, h.get? b = some u → h'.get? b = some u) (hp : h.objs.size ≤ a) (new : ObjOk P w (upd H a o) h' a o) : HOk P w (upd H a o) h' := fun b u e => by
  have hn := x.fresh hp
  by_cases hb : b = a
  · subst hb; rw [upd_same] at e; cases e; exact new
  · rw [upd_ne hb] at e
    exact (x b u e).stay (fun c v _ q => k c v q) (fun c q => by rw [upd_ne (ne_of_none q hn)]; exact q) fun c xs q => by rw [upd_ne (ne_of_none q hn)]; exact q
end

def Rd (H : Hp) (a : Addr) (u : HO) : Prop := H a = some u ∨ ∃ o, H a = some (.frz o u)
theorem Rd.of {H : Hp} {a : Addr} {u : HO} (h : H a = some u) : Rd H a u := .inl h
theorem Rd.ok {P : Program} {w : World} {H : Hp} {h : Heap} {a : Addr} {u : HO} (r : Rd H a u) (x : HOk P w H h) : ObjOk P w H h a u := by
  rcases r with r | ⟨o, r⟩
  · exact x a u r
  · obtain ⟨_, q⟩ := x a _ r
    exact q
def Mut : Option HO → Prop
  | some (.lst _) => True
  | some (.dK _) => True
  | some (.dT _) => True
  | some (.set _ _) => True
  | some (.ins _ _ _) => True
  | some (.ext _) => True
  | _ => False
section
variable {P : Program} {w : World} {H : Hp} {h h' : Heap} {x e : Addr} {o' : HO}
theorem HOk.write (ok : HOk P w H h) (mu : Mut (H x)) (he : e = x ∨ H e = some (.own x)) (k : ∀ b u, b ≠ e → h.get? b = some u → h'.get? b = some u) (heo : ∃ u, h'.get? e = some u)
    (new : ObjOk P w (upd H x o') h' x o') : HOk P w (upd H x o') h' := fun b u q => by
  have nown : ∀ c y, H c = some (.own y) → c ≠ x := fun c y r z => by subst z; rw [r] at mu; exact mu
  have ntup : ∀ c xs, H c = some (.tup xs) → c ≠ x := fun c xs r z => by subst z; rw [r] at mu; exact mu
  by_cases hb : b = x
  · subst hb; rw [upd_same] at q; cases q; exact new
  · rw [upd_ne hb] at q
    by_cases hbe : b = e
    · have q' : H b = some (.own x) := by
        rcases he with z | z
        · exact absurd (hbe.trans z) hb
        · rw [hbe]; exact z
      rw [q] at q'; cases q'
      obtain ⟨v, hv⟩ := heo
      exact ⟨v, by rw [hbe]; exact hv⟩
    · refine (ok b u q).stay (fun c v hc r => k c v ?_ r) (fun c r => by rw [upd_ne (nown c b r)]; exact r) fun c xs r => by rw [upd_ne (ntup c xs r)]; exact r
      rcases hc with rfl | hc
      · exact hbe
      · rintro rfl
        rcases he with z | z
        · exact nown c b hc z
        · rw [hc] at z; cases z; exact hb rfl
end

/-! ### kept unless tracked; of the frames at fs (the callers') the slots may change (an exception that passes writes there); of the records at ex (iterators) nothing is said -/
structure Un (fs ex : List Addr) (H H' : Hp) (h h' : Heap) : Prop where
  keep : ∀ b o, h.get? b = some o → H b = none → b ∉ fs → b ∉ ex → h'.get? b = some o
  slot : ∀ b o, h.get? b = some o → H b = none → b ∈ fs → b ∉ ex → ∃ sl, h'.get? b = some { o with slots := sl }
  free : ∀ b o, h.get? b = some o → H b = none → b ∉ ex → H' b = none
  there : ∀ b o, h.get? b = some o → b ∉ ex → ∃ o', h'.get? b = some o'
  tups : ∀ b xs, H b = some (.tup xs) → H' b = some (.tup xs)
  frzs : ∀ b o u, H b = some (.frz o u) → H' b = some (.frz o u)
  tbls : ∀ b ps, H b = some (.tbl ps) → ∃ more, H' b = some (.tbl (ps ++ more))
section
variable {fs fs' ex ex' : List Addr} {H H1 H2 : Hp} {h h1 h2 h' : Heap} {a x e : Addr} {o : HO}
theorem Un.any (u : Un fs ex H H1 h h1) {b : Addr} {ob : Obj} (q : h.get? b = some ob) (n : H b = none) (hx : b ∉ ex) : ∃ sl, h1.get? b = some { ob with slots := sl } := by
  by_cases hb : b ∈ fs
  · exact u.slot b ob q n hb hx
  · exact ⟨ob.slots, u.keep b ob q n hb hx⟩
theorem Un.trans (a : Un fs ex H H1 h h1) (b : Un fs ex H1 H2 h1 h2) : Un fs ex H H2 h h2 where
  keep := fun c ob q n hc hx => b.keep c ob (a.keep c ob q n hc hx) (a.free c ob q n hx) hc hx
  slot := fun c ob q n hc hx => by
    obtain ⟨sl, e1⟩ := a.slot c ob q n hc hx
    obtain ⟨sl', e2⟩ := b.slot c _ e1 (a.free c ob q n hx) hc hx
    exact ⟨sl', e2⟩
  free := fun c ob q n hx => by
    obtain ⟨o', e1⟩ := a.there c ob q hx
    exact b.free c o' e1 (a.free c ob q n hx) hx
  there := fun c ob q hx => by
    obtain ⟨o', e1⟩ := a.there c ob q hx
    exact b.there c o' e1 hx
  tups := fun c xs q => b.tups c xs (a.tups c xs q)
  frzs := fun c ob xs q => b.frzs c ob xs (a.frzs c ob xs q)
  tbls := fun c ps q => by
    obtain ⟨m1, e1⟩ := a.tbls c ps q
    obtain ⟨m2, e2⟩ := b.tbls c _ e1
    exact ⟨m1 ++ m2, by rw [e2, Array.append_assoc]⟩
theorem Un.kept (k : ∀ b u, h.get? b = some u → h'.get? b = some u) : Un fs ex H H h h' :=
  ⟨fun b ob q _ _ _ => k b ob q, fun b ob q _ _ _ => ⟨ob.slots, k b ob q⟩, fun _ _ _ n _ => n, fun b ob q _ => ⟨ob, k b ob q⟩, fun _ _ q => q, fun _ _ _ q => q, fun _ ps q => ⟨#[], by rw [q]; simp⟩⟩
theorem Un.refl : Un fs ex H H h h := Un.kept fun _ _ q => q
theorem Un.laid (k : ∀ b u, h.get? b = some u → h'.get? b = some u) (hp : h.objs.size ≤ a) (hn : H a = none) : Un fs ex H (upd H a o) h h' where
  keep := fun b u q _ _ _ => k b u q
  slot := fun b u q _ _ _ => ⟨u.slots, k b u q⟩
  free := fun b u q n _ => by rw [upd_ne (Nat.ne_of_lt (Nat.lt_of_lt_of_le (Heap.lt_size q) hp))]; exact n
  there := fun b u q _ => ⟨u, k b u q⟩
  tups := fun b xs q => by rw [upd_ne (ne_of_none q hn)]; exact q
  frzs := fun b u xs q => by rw [upd_ne (ne_of_none q hn)]; exact q
  tbls := fun b ps q => ⟨#[], by rw [upd_ne (ne_of_none q hn), q]; simp⟩
theorem Un.write (mu : Mut (H x)) (he : e = x ∨ H e = some (.own x)) (k : ∀ b u, b ≠ e → h.get? b = some u → h'.get? b = some u) (heo : ∃ u, h'.get? e = some u) : Un fs ex H (upd H x o) h h' := by
  have hx : ∀ b, H b = none → b ≠ x := fun b n z => by subst z; rw [n] at mu; exact mu
  have hb : ∀ b, H b = none → b ≠ e := fun b n z => by
    subst z
    rcases he with r | r
    · exact hx b n r
    · rw [n] at r; cases r
  have hm : ∀ b u, H b = some u → ¬ Mut (some u) → b ≠ x := fun b u q nm z => by subst z; rw [q] at mu; exact nm mu
  refine ⟨fun b u q n _ _ => k b u (hb b n) q, fun b u q n _ _ => ⟨u.slots, k b u (hb b n) q⟩, fun b u q n _ => by rw [upd_ne (hx b n)]; exact n, fun b u q _ => ?_,
    fun b xs q => by rw [upd_ne (hm b _ q fun z => z)]; exact q, fun b u xs q => by rw [upd_ne (hm b _ q fun z => z)]; exact q, fun b ps q => ⟨#[], by rw [upd_ne (hm b _ q fun z => z), q]; simp⟩⟩
  by_cases hbe : b = e
  · subst hbe; exact heo
  · exact ⟨u, k b u hbe q⟩
theorem Un.mono (u : Un fs ex H H1 h h1) (hs : ∀ b ∈ fs, b ∈ fs') (hx : ∀ b ∈ ex, b ∈ ex') : Un fs' ex' H H1 h h1 :=
  ⟨fun b ob q n hb he => u.keep b ob q n (fun z => hb (hs b z)) fun z => he (hx b z), fun _ _ q n _ he => u.any q n fun z => he (hx _ z), fun b ob q n he => u.free b ob q n fun z => he (hx b z), fun b ob q he => u.there b ob q fun z => he (hx b z), u.tups, u.frzs, u.tbls⟩
end

/-! ### the heap without what is tracked -/
def trk (h : Heap) (H : Hp) : List Addr := (List.range h.objs.size).filter fun a => (H a).isSome
def hidT (h : Heap) (H : Hp) : Heap := PySem.W.hideAll h (trk h H)
theorem hidT_size (h : Heap) (H : Hp) : (hidT h H).objs.size = h.objs.size := PySem.W.hideAll_size _ _
theorem hidT_get {h : Heap} {H : Hp} {b : Addr} {o : Obj} (e : h.get? b = some o) (n : H b = none) : (hidT h H).get? b = some o :=
  PySem.W.hideAll_get _ e fun hm => by
    have q : (H b).isSome = true := (List.mem_filter.mp hm).2
    rw [n] at q; simp at q
theorem of_hidT {h : Heap} {H : Hp} {b : Addr} {o : Obj} (e : (hidT h H).get? b = some o) : h.get? b = some o ∧ H b = none := by
  have e' : h.get? b = some o := PySem.W.of_hideAll (trk h H) e
  refine ⟨e', ?_⟩
  cases q : H b with
  | none => rfl
  | some x =>
    have hm : b ∈ trk h H := List.mem_filter.mpr ⟨List.mem_range.mpr (Heap.lt_size e'), by simp [q]⟩
    have z : (hidT h H).get? b = none := PySem.W.hideAll_none (trk h H) hm
    rw [z] at e; cases e

/-! ### OpenK's ledger, filled with every new object but one -/
def allNews (g h : Heap) (L : Addr) : List (Addr × Obj) := (List.range h.objs.size).filterMap fun a => if a = L ∨ (g.get? a).isSome = true then none else (h.get? a).map fun o => (a, o)
def rest (g h : Heap) (L d : Addr) : List (Addr × Obj) := (allNews g h L).filter fun p => decide (p.1 ≠ d)
end L2

namespace L2
open PySem PySem.Spec PyProof.Rows

structure Mod (K : PySem.W.Frag) (mg : Str → Option Value) (base : Heap) : Prop where
  kin : K.In base
  glob : base.Ns mainGlobals mg
  blt : ∃ mb, base.Ns builtinsNs mb ∧ ∀ x : Str, x ≠ "__name__" → mb x = bootBuiltins x
  nolimit : base.NoLimit

structure Cx where
  prog : Program
  w : World
  K : PySem.W.Frag
  mg : Str → Option Value
  base : Heap
  A : Around
  N : List Str
  s₀ : Shared
  H₀ : Hp
  env : Env
  outer : List Env
  stack : List Env
  ex : List Addr
  fn : Str → Bool
  calm : Bool
  pn : List (Addr × Obj)
  xe : Value → Shared → Prop
def frs (l : List Env) : List Addr := l.filterMap (·.frame)
abbrev Cx.fs (X : Cx) : List Addr := frs X.outer

def Vis (sc : Scope) (x : Str) : Prop := sc.names.lookup x = some .local ∨ sc.names.lookup x = some .cell ∨ sc.names.lookup x = some .free
def Loc (sc : Scope) (x : Str) : Prop := sc.names.lookup x = some .local ∨ sc.names.lookup x = some .cell
def Look (env : Env) (h : Heap) (m : Str → Option Value) (x : Str) (u : Value) : Prop :=
  (env.kindOf x = some .local ∧ m x = some u) ∨ ((env.kindOf x = some .cell ∨ env.kindOf x = some .free) ∧ ∃ c, env.cells.lookup x = some c ∧ h.IsCell c (some u))

structure Cx.Ok (X : Cx) : Prop where
  mod : Mod X.K X.mg X.base
  kind : X.env.scope.kind = .function
  glob : X.env.globals = mainGlobals
  blt : X.env.builtins = builtinsNs
  above : X.s₀.heap.objs.size ≤ X.env.locals
  inj : ∀ x y c, X.env.cells.lookup x = some c → X.env.cells.lookup y = some c → x = y
  has : ∀ x, (X.env.kindOf x = some .cell ∨ X.env.kindOf x = some .free) → ∃ c, X.env.cells.lookup x = some c
  cab : ∀ x c, X.fn x = true → X.env.cells.lookup x = some c → X.s₀.heap.objs.size ≤ c
  hd : X.calm = true → X.A.handled = none
  frames : X.A.frames = some X.stack
  stk : X.stack = X.outer ∨ (X.stack = X.env :: X.outer ∧ X.env.frame = some X.env.locals)
  exf : ∀ b ∈ X.ex, b ≠ X.env.locals ∧ ∀ x c, X.env.cells.lookup x = some c → c ≠ b
  bs : ∀ b o, X.base.get? b = some o → X.s₀.heap.get? b = some o ∧ X.H₀ b = none
  bsz : X.base.objs.size ≤ X.s₀.heap.objs.size
  noex : ∀ b o, X.base.get? b = some o → b ∉ X.ex
  exfs : ∀ b ∈ X.ex, b ∉ X.fs
  funs : X.s₀.heap.FunFrames X.base X.outer
  frf : ∀ b ∈ X.fs, X.H₀ b = none

structure Inv (X : Cx) (pins : List (Addr × Obj)) (σ : List (Option V)) (H : Hp) (s : Shared) : Prop where
  ok : X.Ok
  os : s.os = X.s₀.os
  bare : AllBare s.gens
  base : Un X.fs X.ex X.H₀ H X.s₀.heap s.heap
  loc : ∃ m, s.heap.Ns X.env.locals m ∧ ∀ (i : Nat) (x : Str) (v : V), X.N[i]? = some x → σ[i]? = some (some v) → Vis X.env.scope x → ∃ u, RelV v u ∧ Look X.env s.heap m x u
  cell : ∀ x c, X.env.cells.lookup x = some c → ∃ v, s.heap.IsCell c v
  free : H X.env.locals = none
  freeC : ∀ x c, X.env.cells.lookup x = some c → H c = none
  pin : ∀ p ∈ X.pn ++ pins, s.heap.get? p.1 = some p.2 ∧ H p.1 = none ∧ p.1 ≠ X.env.locals ∧ p.1 ∉ X.fs ∧ ∀ v, p.2.data ≠ .cell v
  hok : HOk X.prog X.w H s.heap
  len : σ.length = X.N.length

section
variable {X : Cx} {pins : List (Addr × Obj)} {σ : List (Option V)} {H H' : Hp} {s : Shared} {h' : Heap}

theorem Cx.Ok.nofr (ok : X.Ok) {b : Addr} {o : Obj} (e : X.base.get? b = some o) : b ∉ X.fs := fun hb => by
  have := (ok.funs.mem hb).1
  rw [e] at this; cases this
theorem Inv.bs (I : Inv X pins σ H s) : ∀ b o, X.base.get? b = some o → s.heap.get? b = some o ∧ H b = none := fun b o e =>
  ⟨I.base.keep b o (I.ok.bs b o e).1 (I.ok.bs b o e).2 (I.ok.nofr e) (I.ok.noex b o e), I.base.free b o (I.ok.bs b o e).1 (I.ok.bs b o e).2 (I.ok.noex b o e)⟩
theorem Inv.bk (I : Inv X pins σ H s) : ∀ b o, X.base.get? b = some o → s.heap.get? b = some o := fun b o e => (I.bs b o e).1
theorem Inv.mod (I : Inv X pins σ H s) : Mod X.K X.mg X.base := I.ok.mod
theorem Inv.kIn (I : Inv X pins σ H s) : X.K.In s.heap := I.ok.mod.kin.keeps I.bk
theorem Inv.nolimit (I : Inv X pins σ H s) : s.heap.NoLimit := I.ok.mod.nolimit.keeps I.bk
theorem Inv.fr (I : Inv X pins σ H s) : ∃ m, Fr X.base X.env.locals s.heap m :=
  let ⟨m, hn, _⟩ := I.loc
  ⟨m, hn, I.bk, Nat.le_trans I.ok.bsz I.ok.above⟩
theorem Inv.lt (I : Inv X pins σ H s) : X.env.locals < s.heap.objs.size := let ⟨_, hn, _⟩ := I.loc; hn.lt
theorem Inv.sz (I : Inv X pins σ H s) : X.s₀.heap.objs.size ≤ s.heap.objs.size := Nat.le_trans I.ok.above (Nat.le_of_lt I.lt)
theorem Inv.nofs (I : Inv X pins σ H s) {a : Addr} (h : s.heap.objs.size ≤ a) : a ∉ X.fs := fun hb => by
  obtain ⟨_, o, ho, _⟩ := I.ok.funs.mem hb
  exact absurd (Nat.lt_of_lt_of_le (Heap.lt_size ho) (Nat.le_trans I.sz h)) (Nat.lt_irrefl _)
theorem Inv.cne (I : Inv X pins σ H s) : ∀ x c, X.env.cells.lookup x = some c → c ≠ X.env.locals := fun x c e z => by
  obtain ⟨v, o, ho, hd⟩ := I.cell x c e
  obtain ⟨m, ⟨o', es, ep, ho', hd', _⟩, _⟩ := I.loc
  rw [z, ho'] at ho; cases ho; rw [hd'] at hd; cases hd
theorem Inv.funs (I : Inv X pins σ H s) : s.heap.FunFrames X.base X.outer := by
  have all : ∀ (l : List Env), (∀ b ∈ frs l, b ∈ X.fs) → X.s₀.heap.FunFrames X.base l → s.heap.FunFrames X.base l := by
    intro l
    induction l with
    | nil => intro _ _; trivial
    | cons env r ih =>
      intro hs hl
      obtain ⟨hk, ⟨L, o, hf, hn, ho, hd⟩, hr⟩ := hl
      have hL : L ∈ X.fs := hs L (by unfold frs; rw [List.filterMap_cons, hf]; exact List.mem_cons_self)
      obtain ⟨sl, e⟩ := I.base.slot L o ho (I.ok.frf L hL) hL fun z => I.ok.exfs L z hL
      exact ⟨hk, ⟨L, _, hf, hn, e, hd⟩, ih (fun b hb => hs b (by unfold frs; rw [List.filterMap_cons, hf]; exact List.mem_cons_of_mem _ hb)) hr⟩
  exact all X.outer (fun _ hb => hb) I.ok.funs

theorem Inv.stack (I : Inv X pins σ H s) : s.heap.FunFrames X.base X.stack := by
  rcases I.ok.stk with e | ⟨e, hf⟩
  · rw [e]; exact I.funs
  · rw [e]
    obtain ⟨m, hn, _⟩ := I.loc
    refine .cons (by rw [I.ok.kind]; decide) hf hn ?_ I.funs
    exact Heap.get?_none_of_le (Nat.le_trans I.ok.bsz I.ok.above)
theorem Inv.stkSub (I : Inv X pins σ H s) : ∀ b ∈ frs X.stack, b ∈ X.env.locals :: X.fs := fun b hb => by
  rcases I.ok.stk with e | ⟨e, hf⟩
  · rw [e] at hb; exact List.mem_cons_of_mem _ hb
  · rw [e] at hb
    unfold frs at hb
    rw [List.filterMap_cons, hf] at hb
    exact hb
theorem Inv.stkFree (I : Inv X pins σ H s) : ∀ b ∈ frs X.stack, H b = none := fun b hb => by
  rcases List.mem_cons.mp (I.stkSub b hb) with e | hb
  · rw [e]; exact I.free
  · obtain ⟨_, o, ho, _⟩ := I.ok.funs.mem hb
    exact I.base.free b o ho (I.ok.frf b hb) fun z => I.ok.exfs b z hb

theorem Inv.step {g' : Array GenState} {t' : Nat} {d' : Drawn} {ch : List Addr} (I : Inv X pins σ H s)
    (hch : ∀ b ∈ ch, (b ∈ X.ex ∨ X.s₀.heap.objs.size ≤ b) ∧ b ≠ X.env.locals ∧ (∀ x c, X.env.cells.lookup x = some c → c ≠ b) ∧ ∀ p ∈ X.pn ++ pins, p.1 ≠ b)
    (keep : ∀ b o, b ≠ X.env.locals → b ∉ X.fs → b ∉ ch → s.heap.get? b = some o → H b = none → h'.get? b = some o)
    (slot : ∀ b o, b ≠ X.env.locals → b ∈ X.fs → b ∉ ch → s.heap.get? b = some o → H b = none → ∃ sl, h'.get? b = some { o with slots := sl }) (free : ∀ b o, b ∉ ch → s.heap.get? b = some o → H b = none → H' b = none)
    (there : ∀ b o, b ∉ ch → s.heap.get? b = some o → ∃ o', h'.get? b = some o')
    (tups : ∀ b xs, H b = some (.tup xs) → H' b = some (.tup xs)) (frzs : ∀ b o u, H b = some (.frz o u) → H' b = some (.frz o u)) (tbls : ∀ b ps, H b = some (.tbl ps) → ∃ more, H' b = some (.tbl (ps ++ more)))
    (ns : ∀ m, s.heap.Ns X.env.locals m → h'.Ns X.env.locals m) (hok : HOk X.prog X.w H' h') (hg : AllBare g') :
    Inv X pins σ H' { s with heap := h', gens := g', drawn := d', toks := t' } := by
  have neL : ∀ b o, X.s₀.heap.get? b = some o → b ≠ X.env.locals := fun b o e => Nat.ne_of_lt (Nat.lt_of_lt_of_le (Heap.lt_size e) I.ok.above)
  have neC : ∀ b o, X.s₀.heap.get? b = some o → b ∉ X.ex → b ∉ ch := fun b o e hx hb => by
    rcases (hch b hb).1 with z | z
    · exact hx z
    · exact absurd (Nat.lt_of_lt_of_le (Heap.lt_size e) z) (Nat.lt_irrefl _)
  have cellK : ∀ x c, X.env.cells.lookup x = some c → ∀ v, s.heap.IsCell c v → h'.IsCell c v := fun x c e v ⟨o, ho, hd⟩ => by
    have nch : c ∉ ch := fun z => (hch c z).2.2.1 x c e rfl
    by_cases hc : c ∈ X.fs
    · obtain ⟨sl, q⟩ := slot c o (I.cne x c e) hc nch ho (I.freeC x c e)
      exact ⟨_, q, hd⟩
    · exact ⟨o, keep c o (I.cne x c e) hc nch ho (I.freeC x c e), hd⟩
  refine ⟨I.ok, I.os, hg, ⟨fun b o e n hb hx => ?_, fun b o e n hb hx => ?_, fun b o e n hx => ?_, fun b o e hx => ?_, fun b xs e => tups b xs (I.base.tups b xs e), fun b o xs e => frzs b o xs (I.base.frzs b o xs e), fun b ps e => ?_⟩, ?_, fun x c e => ?_, ?_, fun x c e => ?_, fun p hp => ?_, hok, I.len⟩
  · exact keep b o (neL b o e) hb (neC b o e hx) (I.base.keep b o e n hb hx) (I.base.free b o e n hx)
  · obtain ⟨sl, e1⟩ := I.base.slot b o e n hb hx
    obtain ⟨sl', e2⟩ := slot b _ (neL b o e) hb (neC b o e hx) e1 (I.base.free b o e n hx)
    exact ⟨sl', e2⟩
  · obtain ⟨o', e1⟩ := I.base.there b o e hx
    exact free b o' (neC b o e hx) e1 (I.base.free b o e n hx)
  · obtain ⟨o', e1⟩ := I.base.there b o e hx
    exact there b o' (neC b o e hx) e1
  · obtain ⟨m1, e1⟩ := I.base.tbls b ps e
    obtain ⟨m2, e2⟩ := tbls b _ e1
    exact ⟨m1 ++ m2, by rw [e2, Array.append_assoc]⟩
  · obtain ⟨m, hn, hl⟩ := I.loc
    refine ⟨m, ns m hn, fun i x v e1 e2 e3 => ?_⟩
    obtain ⟨u, r, l⟩ := hl i x v e1 e2 e3
    refine ⟨u, r, ?_⟩
    rcases l with l | ⟨k, c, e, z⟩
    · exact .inl l
    · exact .inr ⟨k, c, e, cellK x c e _ z⟩
  · obtain ⟨v, z⟩ := I.cell x c e
    exact ⟨v, cellK x c e v z⟩
  · obtain ⟨m, ⟨o, _, _, ho, _⟩, _⟩ := I.loc
    exact free _ o (fun z => (hch _ z).2.1 rfl) ho I.free
  · obtain ⟨v, o, ho, hd⟩ := I.cell x c e
    exact free c o (fun z => (hch c z).2.2.1 x c e rfl) ho (I.freeC x c e)
  · obtain ⟨e, n, ne, nf, d⟩ := I.pin p hp
    have nch : p.1 ∉ ch := fun z => (hch p.1 z).2.2.2 p hp rfl
    exact ⟨keep p.1 p.2 ne nf nch e n, free p.1 p.2 nch e n, ne, nf, d⟩
theorem Inv.un {t' : Nat} (I : Inv X pins σ H s) (u : Un X.fs [] H H' s.heap h') (hok : HOk X.prog X.w H' h') : Inv X pins σ H' { s with heap := h', toks := t' } := by
  obtain ⟨m, ⟨o, es, ep, ho, r⟩, _⟩ := id I.loc
  obtain ⟨sl, hL⟩ := u.any ho I.free (by simp)
  exact I.step (g' := s.gens) (d' := s.drawn) (ch := []) (fun _ z => nomatch z) (fun b o _ hb _ e n => u.keep b o e n hb (by simp)) (fun b o _ hb _ e n => u.slot b o e n hb (by simp)) (fun b o _ e n => u.free b o e n (by simp)) (fun b o _ e => u.there b o e (by simp)) u.tups u.frzs u.tbls (fun m' hm => by
    obtain ⟨o', es', ep', ho', r'⟩ := hm
    rw [ho] at ho'; cases ho'
    exact ⟨_, es', ep', hL, r'⟩) hok I.bare
theorem Inv.call {g' : Array GenState} {t' : Nat} {d' : Drawn} {ch : List Addr} (I : Inv X pins σ H s) (u : Un (frs X.stack) ch H H' s.heap h') (hok : HOk X.prog X.w H' h') (hg : AllBare g')
    (hch : ∀ b ∈ ch, (b ∈ X.ex ∨ X.s₀.heap.objs.size ≤ b) ∧ b ≠ X.env.locals ∧ (∀ x c, X.env.cells.lookup x = some c → c ≠ b) ∧ ∀ p ∈ X.pn ++ pins, p.1 ≠ b) :
    Inv X pins σ H' { s with heap := h', gens := g', drawn := d', toks := t' } := by
  obtain ⟨m, ⟨o, es, ep, ho, r⟩, _⟩ := id I.loc
  obtain ⟨sl, hL⟩ := u.any ho I.free fun z => (hch _ z).2.1 rfl
  exact I.step (ch := ch) hch (fun b o hL hb hc e n => u.keep b o e n (fun z => (List.mem_cons.mp (I.stkSub b z)).elim hL hb) hc) (fun b o _ _ hc e n => u.any e n hc) (fun b o hc e n => u.free b o e n hc) (fun b o hc e => u.there b o e hc) u.tups u.frzs u.tbls (fun m' hm => by
    obtain ⟨o', es', ep', ho', r'⟩ := hm
    rw [ho] at ho'; cases ho'
    exact ⟨_, es', ep', hL, r'⟩) hok hg
theorem Inv.turned {t' : Nat} {it : Addr} (I : Inv X pins σ H s) (k : ∀ b o, b ≠ it → s.heap.get? b = some o → h'.get? b = some o) (hn : H it = none) (hL : it ≠ X.env.locals)
    (h1 : it ∈ X.ex ∨ X.s₀.heap.objs.size ≤ it) (h2 : ∀ x c, X.env.cells.lookup x = some c → c ≠ it) (h3 : ∀ p ∈ X.pn ++ pins, p.1 ≠ it) : Inv X pins σ H { s with heap := h', toks := t' } := by
  have nit : ∀ b u, H b = some u → b ≠ it := fun b u e z => by rw [z, hn] at e; cases e
  refine I.step (g' := s.gens) (d' := s.drawn) (ch := [it]) (fun b hb => ?_) (fun b o _ _ hc e _ => k b o (fun z => hc (by simp [z])) e) (fun b o _ _ hc e _ => ⟨o.slots, k b o (fun z => hc (by simp [z])) e⟩) (fun _ _ _ _ n => n)
    (fun b o hc e => ⟨o, k b o (fun z => hc (by simp [z])) e⟩) (fun _ _ e => e) (fun _ _ _ e => e) (fun b ps e => ⟨#[], by rw [e]; simp⟩) (fun m hm => ?_) (fun b u e => ?_) I.bare
  · have e : b = it := by simpa using hb
    subst e
    exact ⟨h1, hL, h2, h3⟩
  · obtain ⟨o, es, ep, ho, r⟩ := hm
    exact ⟨o, es, ep, k _ o (Ne.symm hL) ho, r⟩
  · refine (I.hok b u e).stay (fun c v hc q => k c v ?_ q) (fun _ q => q) fun _ _ q => q
    rcases hc with z | z
    · rw [z]; exact nit b u e
    · exact nit c _ z
theorem Inv.tok (I : Inv X pins σ H s) (t : Nat) : Inv X pins σ H { s with toks := t } := I.un (h' := s.heap) (t' := t) Un.refl I.hok
theorem Inv.kept {t' : Nat} (I : Inv X pins σ H s) (k : ∀ b u, s.heap.get? b = some u → h'.get? b = some u) : Inv X pins σ H { s with heap := h', toks := t' } := I.un (Un.kept k) (I.hok.kept k)
theorem Inv.laid {a : Addr} {o : HO} {t' : Nat} (I : Inv X pins σ H s) (k : ∀ b u, s.heap.get? b = some u → h'.get? b = some u) (hp : s.heap.objs.size ≤ a) (new : ObjOk X.prog X.w (upd H a o) h' a o) :
    Inv X pins σ (upd H a o) { s with heap := h', toks := t' } := I.un (Un.laid k hp (I.hok.fresh hp)) (I.hok.laid k hp new)
theorem Inv.write {x e : Addr} {o : HO} {t' : Nat} (I : Inv X pins σ H s) (mu : Mut (H x)) (he : e = x ∨ H e = some (.own x)) (k : ∀ b u, b ≠ e → s.heap.get? b = some u → h'.get? b = some u) (heo : ∃ u, h'.get? e = some u)
    (new : ObjOk X.prog X.w (upd H x o) h' x o) : Inv X pins σ (upd H x o) { s with heap := h', toks := t' } := I.un (Un.write mu he k heo) (I.hok.write mu he k heo new)
theorem Inv.pins_of {pins' : List (Addr × Obj)} (I : Inv X pins σ H s) (h : ∀ p ∈ pins', s.heap.get? p.1 = some p.2 ∧ H p.1 = none ∧ p.1 ≠ X.env.locals ∧ p.1 ∉ X.fs ∧ ∀ v, p.2.data ≠ .cell v) : Inv X pins' σ H s :=
  ⟨I.ok, I.os, I.bare, I.base, I.loc, I.cell, I.free, I.freeC, fun p hp => (List.mem_append.mp hp).elim (fun z => I.pin p (List.mem_append_left _ z)) (h p), I.hok, I.len⟩

theorem nodup_ix {N : List Str} (hN : N.Nodup) {i j : Nat} {x : Str} (a : N[i]? = some x) (b : N[j]? = some x) : i = j := by
  obtain ⟨h1, e1⟩ := List.getElem?_eq_some_iff.mp a
  obtain ⟨h2, e2⟩ := List.getElem?_eq_some_iff.mp b
  exact (List.getElem_inj hN).mp (e1.trans e2.symm)

theorem store_ok2 {M : Model} {A : Around} {E : Value → Shared → Prop} {i : Nat} {x : Str} {v : V} {u : Value} {Q : Unit → Shared → Prop} (I : Inv X pins σ H s) (hN : X.N.Nodup) (hi : X.N[i]? = some x) (hx : Loc X.env.scope x) (r : RelV v u)
    (h : ∀ s', Inv X pins (σ.set i (some v)) H s' → (∃ a, Heap.SameBut a s.heap s'.heap ∧ (a = X.env.locals ∨ X.env.cells.lookup x = some a)) → Q () s') (hf : X.fn x = true ∨ X.env.scope.names.lookup x = some .local := by first | exact .inl rfl | exact .inr rfl | assumption) : wpAny M A (storeName X.env x u) Q E s := by
  obtain ⟨m, hn, hl⟩ := id I.loc
  have hcls : (X.env.scope.kind == .class || (X.env.scope.kind == .module && X.env.locals != X.env.globals)) = false := by rw [I.ok.kind]; rfl
  have hiσ : i < σ.length := by rw [I.len]; exact (List.getElem?_eq_some_iff.mp hi).1
  have cne := I.cne
  have tracked : ∀ {a : Addr} {h' : Heap}, (∃ o, s.heap.get? a = some o ∧ H a = none) → Heap.SameBut a s.heap h' → HOk X.prog X.w H h' := fun {a h'} ha hs b ob e => by
    obtain ⟨_, _, hfree⟩ := ha
    refine (I.hok b ob e).stay (fun c w' hc q => (hs.2 c ?_).trans q) (fun _ q => q) fun _ _ q => q
    rintro rfl
    rcases hc with rfl | hc
    · rw [hfree] at e; cases e
    · rw [hfree] at hc; cases hc
  rcases hx with hk | hk
  · refine wpAny_storeName_local hk hn (fun h' hn' hs => ?_) hcls
    obtain ⟨oL, _, _, hoL, _⟩ := id hn
    refine h _ ⟨I.ok, I.os, I.bare, ⟨fun b o e n hb hx => ?_, fun b o e n hb hx => ?_, I.base.free, fun b o e hx => ?_, I.base.tups, I.base.frzs, I.base.tbls⟩, ⟨_, hn', fun j y v' e1 e2 e3 => ?_⟩, fun y c e => ?_, I.free, I.freeC, fun p hp => ?_, tracked ⟨oL, hoL, I.free⟩ hs, by simpa using I.len⟩ ⟨_, hs, .inl rfl⟩
    · exact (hs.2 b (Nat.ne_of_lt (Nat.lt_of_lt_of_le (Heap.lt_size e) I.ok.above))).trans (I.base.keep b o e n hb hx)
    · obtain ⟨sl, e1⟩ := I.base.slot b o e n hb hx
      exact ⟨sl, (hs.2 b (Nat.ne_of_lt (Nat.lt_of_lt_of_le (Heap.lt_size e) I.ok.above))).trans e1⟩
    · obtain ⟨o', e1⟩ := I.base.there b o e hx
      exact ⟨o', (hs.2 b (Nat.ne_of_lt (Nat.lt_of_lt_of_le (Heap.lt_size e) I.ok.above))).trans e1⟩
    · by_cases hj : j = i
      · subst hj
        rw [hi] at e1; cases e1
        rw [List.getElem?_set_self hiσ] at e2
        cases e2
        exact ⟨u, r, .inl ⟨hk, by simp⟩⟩
      · rw [List.getElem?_set_ne (Ne.symm hj)] at e2
        obtain ⟨u', r', q⟩ := hl j y v' e1 e2 e3
        refine ⟨u', r', ?_⟩
        rcases q with ⟨k, e⟩ | ⟨k, c, e, z⟩
        · refine .inl ⟨k, ?_⟩
          have : y ≠ x := fun e => hj (nodup_ix hN e1 (e ▸ hi))
          simp [this, e]
        · exact .inr ⟨k, c, e, z.sameBut hs (cne y c e)⟩
    · obtain ⟨w', z⟩ := I.cell y c e
      exact ⟨w', z.sameBut hs (cne y c e)⟩
    · obtain ⟨e, n, ne, nf, d⟩ := I.pin p hp
      exact ⟨(hs.2 p.1 ne).trans e, n, ne, nf, d⟩
  · have hfn : X.fn x = true := by
      rcases hf with z | z
      · exact z
      · rw [z] at hk; cases hk
    obtain ⟨c, hc⟩ := I.ok.has x (.inl hk)
    obtain ⟨w', z⟩ := I.cell x c hc
    refine wpAny_storeName_cell I.ok.kind hk hc z (fun h' hc' hs => ?_)
    obtain ⟨oc, hoc, hocd⟩ := id z
    refine h { s with heap := h' } ⟨I.ok, I.os, I.bare, ⟨fun b o e n hb hx => ?_, fun b o e n hb hx => ?_, I.base.free, fun b o e hx => ?_, I.base.tups, I.base.frzs, I.base.tbls⟩, ⟨m, hn.sameBut hs (Ne.symm (cne x c hc)), fun j y v' e1 e2 e3 => ?_⟩, fun y c' e => ?_, I.free, I.freeC, fun p hp => ?_, tracked ⟨oc, hoc, I.freeC x c hc⟩ hs, by simpa using I.len⟩ ⟨c, hs, .inr hc⟩
    · exact (hs.2 b (Nat.ne_of_lt (Nat.lt_of_lt_of_le (Heap.lt_size e) (I.ok.cab x c hfn hc)))).trans (I.base.keep b o e n hb hx)
    · obtain ⟨sl, e1⟩ := I.base.slot b o e n hb hx
      exact ⟨sl, (hs.2 b (Nat.ne_of_lt (Nat.lt_of_lt_of_le (Heap.lt_size e) (I.ok.cab x c hfn hc)))).trans e1⟩
    · obtain ⟨o', e1⟩ := I.base.there b o e hx
      exact ⟨o', (hs.2 b (Nat.ne_of_lt (Nat.lt_of_lt_of_le (Heap.lt_size e) (I.ok.cab x c hfn hc)))).trans e1⟩
    · by_cases hj : j = i
      · subst hj
        rw [hi] at e1; cases e1
        rw [List.getElem?_set_self hiσ] at e2
        cases e2
        exact ⟨u, r, .inr ⟨.inl hk, c, hc, hc'⟩⟩
      · rw [List.getElem?_set_ne (Ne.symm hj)] at e2
        obtain ⟨u', r', q⟩ := hl j y v' e1 e2 e3
        refine ⟨u', r', ?_⟩
        rcases q with q | ⟨k, c', e, z'⟩
        · exact .inl q
        · refine .inr ⟨k, c', e, z'.sameBut hs ?_⟩
          rintro rfl
          exact hj (nodup_ix hN e1 (I.ok.inj _ _ _ e hc ▸ hi))
    · by_cases hcc : c' = c
      · subst hcc; exact ⟨_, hc'⟩
      · obtain ⟨w2, z2⟩ := I.cell y c' e
        exact ⟨w2, z2.sameBut hs hcc⟩
    · obtain ⟨e, n, ne, nf, d⟩ := I.pin p hp
      refine ⟨(hs.2 p.1 ?_).trans e, n, ne, nf, d⟩
      intro q
      rw [q, hoc] at e
      have q' : oc = p.2 := Option.some.inj e
      exact d w' (by rw [← q']; exact hocd)
theorem store_ok {M : Model} {A : Around} {E : Value → Shared → Prop} {i : Nat} {x : Str} {v : V} {u : Value} {Q : Unit → Shared → Prop} (I : Inv X pins σ H s) (hN : X.N.Nodup) (hi : X.N[i]? = some x) (hx : Loc X.env.scope x) (r : RelV v u)
    (h : ∀ s', Inv X pins (σ.set i (some v)) H s' → Q () s') (hf : X.fn x = true ∨ X.env.scope.names.lookup x = some .local := by first | exact .inl rfl | exact .inr rfl | assumption) : wpAny M A (storeName X.env x u) Q E s :=
  store_ok2 I hN hi hx r (fun s' I' _ => h s' I') hf
theorem Inv.call' {s' : Shared} {ch : List Addr} (I : Inv X pins σ H s) (ho : s'.os = s.os) (u : Un (frs X.stack) ch H H' s.heap s'.heap) (hok : HOk X.prog X.w H' s'.heap) (hg : AllBare s'.gens)
    (hch : ∀ b ∈ ch, (b ∈ X.ex ∨ X.s₀.heap.objs.size ≤ b) ∧ b ≠ X.env.locals ∧ (∀ x c, X.env.cells.lookup x = some c → c ≠ b) ∧ ∀ p ∈ X.pn ++ pins, p.1 ≠ b) : Inv X pins σ H' s' := by
  obtain ⟨h', g', d', t', o'⟩ := s'
  have e : o' = s.os := ho
  subst e
  exact I.call (g' := g') (t' := t') (d' := d') u hok hg hch
end

/-! ### the judgements -/
abbrev XK := Value → Option Addr → Hp → Prop
abbrev St := List (Option V)
abbrev VK := V → Hp → Prop
abbrev TE := St → Hp → VK → Prop
abbrev TT := St → Hp → (Bool → Hp → Prop) → Prop
abbrev TA := St → Hp → (List V → Hp → Prop) → Prop
structure Ends where
  nx : St → Hp → Prop
  rt : VK
  bk : St → Hp → Prop := fun _ _ => False
  ct : St → Hp → Prop := fun _ _ => False
abbrev TS := Ends → St → Hp → Prop

def EP (X : Cx) (pins : List (Addr × Obj)) (σ : St) (Q : VK) (u : Value) (s' : Shared) : Prop := ∃ v H', Inv X pins σ H' s' ∧ RelV v u ∧ Q v H'
def TP (X : Cx) (pins : List (Addr × Obj)) (σ : St) (Q : Bool → Hp → Prop) (b : Bool) (s' : Shared) : Prop := ∃ H', Inv X pins σ H' s' ∧ Q b H'
def AP (X : Cx) (pins : List (Addr × Obj)) (σ : St) (Q : List V → Hp → Prop) (us : List Value) (s' : Shared) : Prop := ∃ vs H', Inv X pins σ H' s' ∧ Vals vs us ∧ Q vs H'
def SP (X : Cx) (pins : List (Addr × Obj)) (D : Ends) (f : Flow) (s' : Shared) : Prop :=
  match f with
  | .next => ∃ σ' H', Inv X pins σ' H' s' ∧ D.nx σ' H'
  | .brk => ∃ σ' H', Inv X pins σ' H' s' ∧ D.bk σ' H'
  | .cont => ∃ σ' H', Inv X pins σ' H' s' ∧ D.ct σ' H'
  | .ret u => ∃ v σ' H', Inv X pins σ' H' s' ∧ RelV v u ∧ D.rt v H'

def PE (X : Cx) (e : Expr) (t : TE) : Prop :=
  ∀ (pins : List (Addr × Obj)) (s : Shared) (σ : St) (H : Hp) (Q : VK), Inv X pins σ H s → t σ H Q → wpAny (model X.prog X.w) X.A (eval e X.env) (EP X pins σ Q) X.xe s
def PT (X : Cx) (e : Expr) (t : TT) : Prop :=
  ∀ (pins : List (Addr × Obj)) (s : Shared) (σ : St) (H : Hp) (Q : Bool → Hp → Prop), Inv X pins σ H s → t σ H Q → wpAny (model X.prog X.w) X.A (isTrue e X.env (eval e X.env)) (TP X pins σ Q) X.xe s
def PW (X : Cx) (e : Expr) (t : TT) : Prop :=
  ∀ (whole : Sem Value) (pins : List (Addr × Obj)) (s : Shared) (σ : St) (H : Hp) (Q : Bool → Hp → Prop), Inv X pins σ H s → t σ H Q → wpAny (model X.prog X.w) X.A (isTrue e X.env whole) (TP X pins σ Q) X.xe s
theorem PW.pt {X : Cx} {e : Expr} {t : TT} (h : PW X e t) : PT X e t := h _
def PA (X : Cx) (es : List Expr) (t : TA) : Prop :=
  ∀ (pos : Pos) (pins : List (Addr × Obj)) (s : Shared) (σ : St) (H : Hp) (Q : List V → Hp → Prop), Inv X pins σ H s → t σ H Q → wpAny (model X.prog X.w) X.A (spliced (backTo pos (starEach es X.env))) (AP X pins σ Q) X.xe s
def PS (X : Cx) (st : Stmt) (t : TS) : Prop :=
  ∀ (pins : List (Addr × Obj)) (s : Shared) (σ : St) (H : Hp) (D : Ends), Inv X pins σ H s → t D σ H → wpAny (model X.prog X.w) X.A (exec st X.env) (SP X pins D) X.xe s
def PSs (X : Cx) (st : List Stmt) (t : TS) : Prop :=
  ∀ (pins : List (Addr × Obj)) (s : Shared) (σ : St) (H : Hp) (D : Ends), Inv X pins σ H s → t D σ H → wpAny (model X.prog X.w) X.A (execs st X.env) (SP X pins D) X.xe s
theorem thn {α : Type} {t : Sem α} {Q Q' : α → Shared → Prop} {M : Model} {A : Around} {E : Value → Shared → Prop} {s : Shared} (h : wpAny M A t Q E s) (hQ : ∀ a s, Q a s → Q' a s) : wpAny M A t Q' E s := wpAny_mono h hQ fun _ _ x => x
end L2

namespace L2
open PySem PySem.Spec PyProof.Rows
section
variable {X : Cx}

theorem bin {a b : Expr} {ta tb : TE} (ha : PE X a ta) (hb : PE X b tb) {pins : List (Addr × Obj)} {s : Shared} {σ : St} {H : Hp} {R : V → V → Hp → Prop} (I : Inv X pins σ H s) (h : ta σ H fun x H1 => tb σ H1 fun y H2 => R x y H2)
    {α : Type} {Q : α → Shared → Prop} {f : Value → Value → Sem α}
    (hf : ∀ v u s2 x y H2, Inv X pins σ H2 s2 → RelV x v → RelV y u → R x y H2 → wpAny (model X.prog X.w) X.A (f v u) Q X.xe s2) :
    wpAny (model X.prog X.w) X.A (eval a X.env) (fun v s₁ => wpAny (model X.prog X.w) X.A (eval b X.env) (fun u s₂ => wpAny (model X.prog X.w) X.A (f v u) Q X.xe s₂) X.xe s₁) X.xe s := by
  refine thn (ha pins s σ H _ I h) fun v s1 ⟨x, H1, I1, r1, q1⟩ => ?_
  refine thn (hb pins s1 σ H1 _ I1 q1) fun u s2 ⟨y, H2, I2, r2, q2⟩ => ?_
  exact hf v u s2 x y H2 I2 r1 r2 q2

/-! ### names and constants -/
def tVar (i : Nat) : TE := fun σ H Q => ∃ v, σ[i]? = some (some v) ∧ Q v H
def tC (v : V) : TE := fun _ H Q => Q v H
theorem pe_var {i : Nat} {x : Str} {pos : Pos} (hN : X.N[i]? = some x) (hv : Vis X.env.scope x) (hd : (x == ("__debug__" : Str)) = false := by decide) (hcd : (x == ("__classdict__" : Str)) = false := by decide) : PE X (.Name x pos) (tVar i) := by
  intro pins s σ H Q I h
  obtain ⟨v, e, h⟩ := h
  obtain ⟨m, hn, hl⟩ := I.loc
  obtain ⟨u, r, l⟩ := hl i x v hN e hv
  have fin : EP X pins σ Q u s := ⟨v, H, I, r, h⟩
  rcases l with ⟨hk, hm⟩ | ⟨hk, c, hc, hcell⟩
  · exact wpAny_Name (wpAny_loadName_local I.ok.kind hk hn hm fin) hd
  · rcases hk with hk | hk
    · exact wpAny_Name (wpAny_loadName_cell I.ok.kind hk hc hcell fin) hd
    · exact wpAny_Name (wpAny_loadName_free I.ok.kind hk hc hcell fin hcd) hd
theorem pe_int {i j pos} : PE X (.Constant (.int i) j pos) (tC (.int i)) := fun _ _ _ H _ I h => wpAny_Constant_int ⟨.int i, H, I.tok _, ⟨_, rfl⟩, h⟩
theorem pe_bl {b j pos} : PE X (.Constant (.bool b) j pos) (tC (.bl b)) := fun _ _ _ H _ I h => Constant_bool ⟨.bl b, H, I, rfl, h⟩
theorem pe_str {x j pos} : PE X (.Constant (.str x) j pos) (tC (.str x)) := fun _ _ _ H _ I h => Calls.Constant_str ⟨.str x, H, I.tok _, ⟨_, rfl⟩, h⟩

def Gl (X : Cx) (x : Str) : Prop := X.env.kindOf x = some .globalImplicit
theorem ld_glob {E : Value → Shared → Prop} {pins : List (Addr × Obj)} {s : Shared} {σ : St} {H : Hp} {x : Str} {u : Value} {pos : Pos} {Q : Value → Shared → Prop} (I : Inv X pins σ H s) (hg : Gl X x) (hm : X.mg x = some u) (h : Q u s)
    (hd : (x == ("__debug__" : Str)) = false := by decide) : wpAny (model X.prog X.w) X.A (eval (.Name x pos) X.env) Q E s :=
  Calls.Name_function_global I.ok.kind hg (Calls.loadGlobal_global (by rw [I.ok.glob]; exact I.mod.glob.keeps I.bk) hm h) hd
theorem ld_blt {E : Value → Shared → Prop} {pins : List (Addr × Obj)} {s : Shared} {σ : St} {H : Hp} {x : Str} {u : Value} {pos : Pos} {Q : Value → Shared → Prop} (I : Inv X pins σ H s) (hg : Gl X x) (hm : X.mg x = none) (hv : bootBuiltins x = some u) (h : Q u s)
    (hn : x ≠ "__name__" := by decide) (hd : (x == ("__debug__" : Str)) = false := by decide) : wpAny (model X.prog X.w) X.A (eval (.Name x pos) X.env) Q E s := by
  obtain ⟨mb, h1, h2⟩ := I.mod.blt
  exact Calls.Name_function_global I.ok.kind hg (Calls.loadGlobal_builtin (by rw [I.ok.glob]; exact I.mod.glob.keeps I.bk) hm (by rw [I.ok.blt]; exact h1.keeps I.bk) ((h2 x hn).trans hv) h) hd
/-! ### arithmetic -/
variable {a b : Expr} {ta tb : TE} {pos : Pos}
/-! ### comparisons -/
def PC (X : Cx) (op : CmpOp) (a b : Expr) (t : TE) : Prop :=
  ∀ (pins : List (Addr × Obj)) (s : Shared) (σ : St) (H : Hp) (Q : VK), Inv X pins σ H s → t σ H Q →
    wpAny (model X.prog X.w) X.A (eval a X.env) (fun v s₁ => wpAny (model X.prog X.w) X.A (eval b X.env) (fun u s₂ => wpAny (model X.prog X.w) X.A (compareOp op v u) (EP X pins σ Q) X.xe s₂) X.xe s₁) X.xe s
def tB (t : TE) : TT := fun σ H Q => t σ H fun x H1 => ∃ c, x = .bl c ∧ Q c H1
theorem pt_val {e : Expr} {t : TE} (h : PE X e t) (he : ∀ whole, isTrue e X.env whole = (do let v ← whole; standAt e.pos; holding [v] (truthy v)) := by intro _; rfl) : PT X e (tB t) := by
  intro pins s σ H Q I hw
  refine isTrue_plain (thn (h pins s σ H _ I hw) fun v s1 ⟨x, H1, I1, r1, q1⟩ => ?_) (he _)
  obtain ⟨d, rfl, q⟩ := q1
  cases r1
  exact wpAny_truthy_bool ⟨H1, I1, q⟩

/-! ### and, or, not -/
variable {tA tB' : TT} {rest : List Expr}
def tAnd (t u : TT) : TT := fun σ H Q => t σ H fun c H1 => if c = true then u σ H1 Q else Q false H1
def tOr (t u : TT) : TT := fun σ H Q => t σ H fun c H1 => if c = true then Q true H1 else u σ H1 Q
def tNot (t : TT) : TT := fun σ H Q => t σ H fun c H1 => Q (!c) H1
theorem pw_and1 (ha : PT X a tA) : PW X (.BoolOp .And [a] pos) tA := by
  intro wh pins s σ H Q I h
  refine isTrue_and (thn (ha pins s σ H Q I h) fun c s1 e => ?_)
  cases c with
  | true => exact isTrue_and_nil e
  | false => exact e
theorem pw_or1 (ha : PT X a tA) : PW X (.BoolOp .Or [a] pos) tA := by
  intro wh pins s σ H Q I h
  refine isTrue_or (thn (ha pins s σ H Q I h) fun c s1 e => ?_)
  cases c with
  | false => exact isTrue_or_nil e
  | true => exact e
theorem pw_and (ha : PT X a tA) (hb : PW X (.BoolOp .And (b :: rest) pos) tB') : PW X (.BoolOp .And (a :: b :: rest) pos) (tAnd tA tB') := by
  intro wh pins s σ H Q I h
  refine isTrue_and (thn (ha pins s σ H _ I h) fun c s1 ⟨H1, I1, q1⟩ => ?_)
  cases c with
  | true => exact hb wh pins s1 σ H1 Q I1 q1
  | false => exact ⟨H1, I1, q1⟩
theorem pw_or (ha : PT X a tA) (hb : PW X (.BoolOp .Or (b :: rest) pos) tB') : PW X (.BoolOp .Or (a :: b :: rest) pos) (tOr tA tB') := by
  intro wh pins s σ H Q I h
  refine isTrue_or (thn (ha pins s σ H _ I h) fun c s1 ⟨H1, I1, q1⟩ => ?_)
  cases c with
  | true => exact ⟨H1, I1, q1⟩
  | false => exact hb wh pins s1 σ H1 Q I1 q1
theorem pt_not (ha : PT X a tA) : PT X (.UnaryOp .Not a pos) (tNot tA) := by
  intro pins s σ H Q I h
  exact isTrue_not (ha pins s σ H (fun c H1 => Q (!c) H1) I h)
def tAndV (ta tb : TE) : TE := fun σ H Q => ta σ H fun x H1 => ∃ c, x = .bl c ∧ if c = true then tb σ H1 Q else Q (.bl false) H1
def tOrV (ta tb : TE) : TE := fun σ H Q => ta σ H fun x H1 => ∃ c, x = .bl c ∧ if c = true then Q (.bl true) H1 else tb σ H1 Q
def tNotV (ta : TE) : TE := fun σ H Q => ta σ H fun x H1 => ∃ c, x = .bl c ∧ Q (.bl (!c)) H1
def tIf (t : TT) (ta tb : TE) : TE := fun σ H Q => t σ H fun c H1 => if c = true then ta σ H1 Q else tb σ H1 Q
end
end L2

namespace L2
open PySem PySem.Spec PyProof.Rows

/-! ### a list, a tuple that is read: tracked, frozen, or an object of the module -/
def SqL (K : PySem.W.Frag) (H : Hp) (a : Addr) (xs : List V) : Prop :=
  Rd H a (.lst xs) ∨
    ∃ (o : Obj) (its : Array Value) (n : Nat), K.lookup a = some o ∧ o.cls = .type "list" ∧ o.dict = none ∧ o.data = .seq its n ∧ its.size ≤ sizeLine ∧ Vals xs its.toList
def SqT (K : PySem.W.Frag) (H : Hp) (a : Addr) (xs : List V) : Prop :=
  Rd H a (.tup xs) ∨
    ∃ (o : Obj) (its : Array Value) (n : Nat), K.lookup a = some o ∧ o.cls = .type "tuple" ∧ o.data = .seq its n ∧ its.size ≤ sizeLine ∧ Vals xs its.toList
def absV : Value → Option V
  | .none => some .non
  | .bool b => some (.bl b)
  | .int i _ => some (.int i)
  | .str x _ => some (.str x)
  | .bytes b _ => some (.byt b)
  | .float b _ => some (.flt b)
  | .ref a => some (.ref a)
  | .type n => some (.ty n)
  | _ => none
theorem RelV.abs {x : V} {u : Value} (r : RelV x u) : absV u = some x := by
  cases x with
  | non => cases r; rfl
  | bl _ => cases r; rfl
  | int _ => obtain ⟨t, rfl⟩ := r; rfl
  | str _ => obtain ⟨t, rfl⟩ := r; rfl
  | byt _ => obtain ⟨t, rfl⟩ := r; rfl
  | flt _ => obtain ⟨t, rfl⟩ := r; rfl
  | ref _ => cases r; rfl
  | ty _ => cases r; rfl
theorem RelV.inj {x y : V} {u : Value} (r : RelV x u) (q : RelV y u) : x = y := Option.some.inj (r.abs.symm.trans q.abs)
theorem Vals.inj : ∀ {xs ys : List V} {us : List Value}, Vals xs us → Vals ys us → xs = ys
  | _, _, _, .nil, .nil => rfl
  | _, _, _, .cons r t, .cons r' t' => by rw [r.inj r', Vals.inj t t']
section
variable {X : Cx} {pins : List (Addr × Obj)} {σ : St} {H : Hp} {s : Shared} {a : Addr} {xs ys : List V}
theorem SqL.of {K : PySem.W.Frag} (h : H a = some (.lst xs)) : SqL K H a xs := .inl (.inl h)
theorem SqT.of {K : PySem.W.Frag} (h : H a = some (.tup xs)) : SqT K H a xs := .inl (.inl h)
theorem Inv.list (I : Inv X pins σ H s) (h : SqL X.K H a xs) : ∃ its : List Value, Vals xs its ∧ PlainL s.heap a its.toArray ∧ xs.length ≤ sizeLine := by
  rcases h with h | ⟨o, its, n, hk, hc, hd, hs, hz, r⟩
  · obtain ⟨z, its, n, r, e⟩ := h.ok I.hok
    exact ⟨its, r, ⟨_, n, e, rfl, rfl, rfl⟩, z⟩
  · refine ⟨its.toList, r, ⟨o, n, I.kIn a o hk, hc, hd, by simpa using hs⟩, ?_⟩
    have e := r.length
    simp only [Array.length_toList] at e
    omega
theorem Inv.tuple (I : Inv X pins σ H s) (h : SqT X.K H a xs) : ∃ its : List Value, Vals xs its ∧ IsTup s.heap a its.toArray ∧ xs.length ≤ sizeLine := by
  rcases h with h | ⟨o, its, n, hk, hc, hs, hz, r⟩
  · obtain ⟨z, its, r, p⟩ := h.ok I.hok
    exact ⟨its, r, p, z⟩
  · refine ⟨its.toList, r, ⟨o, I.kIn a o hk, hc, n, by simpa using hs⟩, ?_⟩
    have e := r.length
    simp only [Array.length_toList] at e
    omega
theorem Inv.list_inj (I : Inv X pins σ H s) (h : SqL X.K H a xs) (h' : SqL X.K H a ys) : xs = ys := by
  obtain ⟨its, r, ⟨o, n, e, _, _, d⟩, _⟩ := I.list h
  obtain ⟨its', r', ⟨o', n', e', _, _, d'⟩, _⟩ := I.list h'
  rw [e] at e'; cases e'
  rw [d] at d'
  injection d' with d1 _
  have : its = its' := by simpa using congrArg Array.toList d1
  subst this
  exact r.inj r'
end

/-! ### another wish about exceptions -/
abbrev Cx.wish (X : Cx) (E : Value → Shared → Prop) : Cx := { X with xe := E }
abbrev Cx.nox (X : Cx) : Cx := X.wish fun _ _ => False
theorem Cx.Ok.wish {X : Cx} (ok : X.Ok) (E : Value → Shared → Prop) : (X.wish E).Ok :=
  ⟨ok.mod, ok.kind, ok.glob, ok.blt, ok.above, ok.inj, ok.has, ok.cab, ok.hd, ok.frames, ok.stk, ok.exf, ok.bs, ok.bsz, ok.noex, ok.exfs, ok.funs, ok.frf⟩
theorem Cx.Ok.unwish {X : Cx} {E : Value → Shared → Prop} (ok : (X.wish E).Ok) : X.Ok :=
  ⟨ok.mod, ok.kind, ok.glob, ok.blt, ok.above, ok.inj, ok.has, ok.cab, ok.hd, ok.frames, ok.stk, ok.exf, ok.bs, ok.bsz, ok.noex, ok.exfs, ok.funs, ok.frf⟩
section
variable {X : Cx} {pins : List (Addr × Obj)} {σ : St} {H : Hp} {s : Shared} {E : Value → Shared → Prop}
theorem Inv.wish (I : Inv X pins σ H s) (E : Value → Shared → Prop) : Inv (X.wish E) pins σ H s := ⟨I.ok.wish E, I.os, I.bare, I.base, I.loc, I.cell, I.free, I.freeC, I.pin, I.hok, I.len⟩
theorem Inv.unwish (I : Inv (X.wish E) pins σ H s) : Inv X pins σ H s := ⟨I.ok.unwish, I.os, I.bare, I.base, I.loc, I.cell, I.free, I.freeC, I.pin, I.hok, I.len⟩
theorem SP.unwish {D : Ends} {f : Flow} {s' : Shared} (h : SP (X.wish E) pins D f s') : SP X pins D f s' := by
  cases f with
  | next => obtain ⟨σ', H', I, q⟩ := h; exact ⟨σ', H', I.unwish, q⟩
  | brk => obtain ⟨σ', H', I, q⟩ := h; exact ⟨σ', H', I.unwish, q⟩
  | cont => obtain ⟨σ', H', I, q⟩ := h; exact ⟨σ', H', I.unwish, q⟩
  | ret u => obtain ⟨v, σ', H', I, r, q⟩ := h; exact ⟨v, σ', H', I.unwish, r, q⟩
theorem PE.nox {e : Expr} {t : TE} (h : PE X.nox e t) : PE X e t := fun pins s σ H Q I hw =>
  wpAny_mono (h pins s σ H Q (I.wish _) hw) (fun _ _ ⟨v, H', I', r, q⟩ => ⟨v, H', I'.unwish, r, q⟩) fun _ _ z => False.elim z
theorem PT.nox {e : Expr} {t : TT} (h : PT X.nox e t) : PT X e t := fun pins s σ H Q I hw =>
  wpAny_mono (h pins s σ H Q (I.wish _) hw) (fun _ _ ⟨H', I', q⟩ => ⟨H', I'.unwish, q⟩) fun _ _ z => False.elim z
theorem PSs.nox {st : List Stmt} {t : TS} (h : PSs X.nox st t) : PSs X st t := fun pins s σ H D I hw =>
  wpAny_mono (h pins s σ H D (I.wish _) hw) (fun _ _ q => q.unwish) fun _ _ z => False.elim z
end

/-! ### blocks and small statements -/
section
variable {X : Cx} {st : Stmt} {rest : List Stmt} {t u : TS} {e : Expr} {te : TE} {pos : Pos}
def tNext : TS := fun D σ H => D.nx σ H
def tSeq (t u : TS) : TS := fun D σ H => t { D with nx := u D } σ H
theorem pss_nil : PSs X [] tNext := fun _ _ σ H _ I h => wpAny_execs_nil ⟨σ, H, I, h⟩
theorem pss_cons (h1 : PS X st t) (h2 : PSs X rest u) : PSs X (st :: rest) (tSeq t u) := by
  intro pins s σ H D I h
  refine wpAny_execs_cons (thn (h1 pins s σ H { D with nx := u D } I h) fun f s1 q => ?_)
  cases f with
  | next =>
    obtain ⟨σ', H', I', q⟩ := q
    exact h2 pins s1 σ' H' D I' q
  | ret v => exact q
  | brk => exact q
  | cont => exact q
theorem pss_one (h1 : PS X st t) : PSs X [st] t := by
  intro pins s σ H D I h
  refine wpAny_execs_cons (thn (h1 pins s σ H D I h) fun f s1 q => ?_)
  cases f with
  | next => exact wpAny_execs_nil q
  | ret v => exact q
  | brk => exact q
  | cont => exact q
def tBreak : TS := fun D σ H => D.bk σ H
def tCont : TS := fun D σ H => D.ct σ H
theorem ps_continue : PS X (.Continue pos) tCont := fun _ _ σ H _ I h => wpAny_Continue ⟨σ, H, I, h⟩
theorem Inv.quiet {pins : List (Addr × Obj)} {σ : St} {H : Hp} {s : Shared} (I : Inv X pins σ H s) : interactive X.env = false := by simp [interactive, I.ok.kind]
def tDrop (te : TE) : TS := fun D σ H => te σ H fun _ H1 => D.nx σ H1
theorem ps_expr (he : PE X e te) (hs : swapsWith e none pos.line X.env = pure false := by rfl) : PS X (.Expr e pos) (tDrop te) := by
  intro pins s σ H D I h
  exact wpAny_Expr_any (thn (he pins s σ H _ I h) fun v s1 ⟨x, H1, I1, r1, q1⟩ => ⟨σ, H1, I1, q1⟩) I.quiet hs
def tRet (te : TE) : TS := fun D σ H => te σ H D.rt
theorem ps_ret (he : PE X e te) : PS X (.Return (some e) pos) (tRet te) := by
  intro pins s σ H D I h
  exact wpAny_Return_some (thn (he pins s σ H _ I h) fun v s1 ⟨x, H1, I1, r1, q1⟩ => ⟨x, σ, H1, I1, r1, q1⟩)
def tRetN : TS := fun D _ H => D.rt .non H
def tIfS (c : TT) (t u : TS) : TS := fun D σ H => c σ H fun b H1 => if b = true then t D σ H1 else u D σ H1
theorem ps_if {c : Expr} {a b : List Stmt} {tc : TT} (hc : PT X c tc) (ha : PSs X a t) (hb : PSs X b u) : PS X (.If c a b pos) (tIfS tc t u) := by
  intro pins s σ H D I h
  refine wpAny_If (thn (hc pins s σ H _ I h) fun d s1 ⟨H1, I1, q1⟩ => ?_)
  cases d with
  | true => exact ha pins s1 σ H1 D I1 q1
  | false => exact hb pins s1 σ H1 D I1 q1
end

/-! ### targets -/
abbrev TG := V → St → Hp → (St → Hp → Prop) → Prop
abbrev TGs := List V → St → Hp → (St → Hp → Prop) → Prop
def PG (X : Cx) (target : Expr) (t : TG) : Prop :=
  ∀ (pins : List (Addr × Obj)) (s : Shared) (σ : St) (H : Hp) (v : V) (u : Value) (Q : St → Hp → Prop), Inv X pins σ H s → RelV v u → t v σ H Q →
    wpAny (model X.prog X.w) X.A (assign target X.env u) (fun _ s' => ∃ σ' H', Inv X pins σ' H' s' ∧ Q σ' H') X.xe s
def PGs (X : Cx) (ts : List Expr) (t : TGs) : Prop :=
  ∀ (pins : List (Addr × Obj)) (s : Shared) (σ : St) (H : Hp) (vs : List V) (us : List Value) (Q : St → Hp → Prop), Inv X pins σ H s → Vals vs us → t vs σ H Q →
    wpAny (model X.prog X.w) X.A (assignInOrder ((assignEach ts X.env).map (·.2)) us) (fun _ s' => ∃ σ' H', Inv X pins σ' H' s' ∧ Q σ' H') X.xe s
abbrev TSet := V → V → V → Hp → (Hp → Prop) → Prop
def PSet (X : Cx) (t : TSet) : Prop :=
  ∀ (pins : List (Addr × Obj)) (s : Shared) (σ : St) (H : Hp) (o i v : V) (ov iv u : Value) (Q : Hp → Prop), Inv X pins σ H s → RelV o ov → RelV i iv → RelV v u → t o i v H Q →
    wpAny (model X.prog X.w) X.A (setItem ov iv u) (fun _ s' => ∃ H', Inv X pins σ H' s' ∧ Q H') X.xe s
section
variable {X : Cx} {pos : Pos}
def gName (i : Nat) : TG := fun v σ H Q => Q (σ.set i (some v)) H
theorem pg_name {i : Nat} {x : Str} (hN : X.N.Nodup) (hi : X.N[i]? = some x) (hx : Loc X.env.scope x) (hf : X.fn x = true ∨ X.env.scope.names.lookup x = some .local := by first | exact .inl rfl | exact .inr rfl | assumption) : PG X (.Name x pos) (gName i) := by
  intro pins s σ H v u Q I r h
  exact wpAny_assign_Name (store_ok I hN hi hx r (fun s' I' => ⟨_, H, I', h⟩) hf)
def gNil : TGs := fun vs σ H Q => vs = [] ∧ Q σ H
def gCons (t : TG) (u : TGs) : TGs := fun vs σ H Q => ∃ v r, vs = v :: r ∧ t v σ H fun σ' H' => u r σ' H' Q
theorem pgs_nil : PGs X [] gNil := by
  intro pins s σ H vs us Q I r h
  obtain ⟨e, h⟩ := h
  subst e
  cases r
  exact assignInOrder_nil ⟨σ, H, I, h⟩
theorem pgs_cons {e : Expr} {es : List Expr} {t : TG} {u : TGs} (h1 : PG X e t) (h2 : PGs X es u)
    (hs : (assignEach (e :: es) X.env).map (·.2) = assign e X.env :: (assignEach es X.env).map (·.2) := by rfl) : PGs X (e :: es) (gCons t u) := by
  intro pins s σ H vs us Q I r h
  obtain ⟨v, vr, e1, h⟩ := h
  subst e1
  cases r with
  | cons r rr =>
    rw [hs]
    refine assignInOrder_cons (thn (h1 pins s σ H _ _ _ I r h) fun _ s1 ⟨σ1, H1, I1, q1⟩ => ?_)
    exact h2 pins s1 σ1 H1 _ _ Q I1 rr q1
def gTup (K : PySem.W.Frag) (n : Nat) (t : TGs) : TG := fun v σ H Q => ∃ a xs, v = .ref a ∧ SqT K H a xs ∧ xs.length = n ∧ t xs σ H Q
theorem pg_tup {es : List Expr} {k : Nat} {t : TGs} {n : Nat} (hc : X.calm = true) (h : PGs X es t)
    (hn : (assignEach es X.env).length = n := by rfl) (hst : (assignEach es X.env).findIdx? (·.1) = none := by rfl) : PG X (.Tuple es k pos) (gTup X.K n t) := by
  intro pins s σ H v u Q I r hw
  obtain ⟨a, xs, e1, hq, hl, hw⟩ := hw
  subst e1
  cases r
  obtain ⟨its, rv, ht, hz⟩ := I.tuple hq
  refine assign_Tuple_tuple (I.ok.hd hc) ht (by simp [hn, ← hl, rv.length]) hst fun h' hx => ?_
  have I1 : Inv X pins σ H { s with heap := h' } := I.kept (t' := s.toks) fun b o e => hx b o (Nat.ne_of_lt (Heap.lt_size e)) e
  exact h pins _ σ H xs _ Q I1 (by simpa using rv) hw
def gSub (to ti : TE) (t : TSet) : TG := fun v σ H Q => to σ H fun o H1 => ti σ H1 fun i H2 => t o i v H2 fun H3 => Q σ H3
def tAsg (te : TE) (g : TG) : TS := fun D σ H => te σ H fun x H1 => g x σ H1 D.nx
theorem ps_asg {tg e : Expr} {te : TE} {g : TG} (he : PE X e te) (hg : PG X tg g) (hs : swapsWithSole [tg] e pos.line X.env = pure false := by rfl) (hw : swappedStores [tg] e X.env = pure none := by rfl)
    (h1 : (assignEach [tg] X.env).map (·.2) = [assign tg X.env] := by rfl) : PS X (.Assign [tg] e pos) (tAsg te g) := by
  intro pins s σ H D I h
  refine wpAny_Assign_stores (thn (he pins s σ H _ I h) fun v s1 ⟨x, H1, I1, r1, q1⟩ => ?_) hs hw
  rw [h1]
  exact thn (hg pins s1 σ H1 x v _ I1 r1 q1) fun _ s2 q => q
theorem ps_set {i : Nat} {x : Str} {e : Expr} {te : TE} {pos' : Pos} (hN : X.N.Nodup) (hi : X.N[i]? = some x) (hx : Loc X.env.scope x) (he : PE X e te) (hs : swapsWith e (some (.Name x pos')) pos.line X.env = pure false := by rfl) (hf : X.fn x = true ∨ X.env.scope.names.lookup x = some .local := by first | exact .inl rfl | exact .inr rfl | assumption) :
    PS X (.Assign [.Name x pos'] e pos) (tAsg te (gName i)) := by
  intro pins s σ H D I h
  refine wpAny_Assign_Name (thn (he pins s σ H _ I h) fun v s1 ⟨y, H1, I1, r1, q1⟩ => ?_) hs
  exact store_ok I1 hN hi hx r1 (fun s2 I2 => ⟨_, H1, I2, q1⟩) hf
end

/-! ### while -/
section
variable {X : Cx} {pos : Pos}
def tWhile (c : TT) (tb : TS) : TS := fun D σ H => ∃ W : Nat → St → Hp → Prop, (∃ m, W m σ H) ∧ ∀ m σ H, W m σ H →
  c σ H fun b H1 => if b = true then ∃ N : St → Hp → Prop, (∀ σ' H', N σ' H' → ∃ m', m' < m ∧ W m' σ' H') ∧ tb { D with nx := N, ct := N, bk := D.nx } σ H1 else D.nx σ H1
theorem ps_while {c : Expr} {body : List Stmt} {tc : TT} {tb : TS} (hp : PassesOwn (model X.prog X.w) X.A X.env X.xe) (hc : PT X c tc) (hb : PSs X body tb) : PS X (.While c body [] pos) (tWhile tc tb) := by
  intro pins s σ H D I h
  obtain ⟨W, ⟨m0, w0⟩, turn⟩ := h
  refine wpAny_While (codeAny_whileLoop (fun n s' => ∃ σ' H', Inv X pins σ' H' s' ∧ W n σ' H') ?_ m0 ⟨σ, H, I, w0⟩)
  rintro n s1 ⟨σ1, H1, I1, w1⟩
  refine wpAny_passesOwn hp (thn (hc pins s1 σ1 H1 _ I1 (turn n σ1 H1 w1)) fun b s2 ⟨H2, I2, q2⟩ => ?_)
  cases b with
  | true =>
    obtain ⟨N, hN, q2⟩ := q2
    rw [if_pos rfl]
    refine wpAny_passesOwn hp (thn (hb pins s2 σ1 H2 _ I2 q2) fun f s3 q3 => ?_)
    cases f with
    | next =>
      obtain ⟨σ3, H3, I3, n3⟩ := q3
      obtain ⟨m', hm, w3⟩ := hN σ3 H3 n3
      exact ⟨m', hm, σ3, H3, I3, w3⟩
    | cont =>
      obtain ⟨σ3, H3, I3, n3⟩ := q3
      obtain ⟨m', hm, w3⟩ := hN σ3 H3 n3
      exact ⟨m', hm, σ3, H3, I3, w3⟩
    | brk => exact q3
    | ret v => exact q3
  | false =>
    rw [if_neg Bool.false_ne_true]
    exact wpAny_execs_nil ⟨σ1, H2, I2, q2⟩
end

/-! ### what a loop or a comprehension walks -/
structure It where
  go : Nat → Hp → Prop
  yld : Nat → Hp → V → Hp → Prop
  stop : Nat → Hp → Prop
def FpOk (X : Cx) (pins : List (Addr × Obj)) (H : Hp) (b : Addr) : Prop :=
  H b = none ∧ b ≠ X.env.locals ∧ b ∉ X.fs ∧ (b ∈ X.ex ∨ X.s₀.heap.objs.size ≤ b) ∧ (∀ x c, X.env.cells.lookup x = some c → c ≠ b) ∧ ∀ p ∈ X.pn ++ pins, p.1 ≠ b
theorem Inv.fpOk {X : Cx} {pins : List (Addr × Obj)} {σ : St} {H H' : Hp} {s : Shared} {b : Addr} (I : Inv X pins σ H s) (hb : s.heap.objs.size ≤ b) (hn : H' b = none) : FpOk X pins H' b := by
  refine ⟨hn, Nat.ne_of_gt (Nat.lt_of_lt_of_le I.lt hb), I.nofs hb, .inr (Nat.le_trans I.sz hb), fun x c e z => ?_, fun p hp z => ?_⟩
  · obtain ⟨v, q⟩ := I.cell x c e
    exact absurd (Nat.lt_of_lt_of_le q.lt (by rw [z]; exact hb)) (Nat.lt_irrefl _)
  · exact absurd (Nat.lt_of_lt_of_le (Heap.lt_size (I.pin p hp).1) (by rw [z]; exact hb)) (Nat.lt_irrefl _)
structure Turn (P : Program) (w : World) (K : PySem.W.Frag) (tg : Expr) (J : It) (fp : List Addr) (it : Addr) (tn : Nat → Heap → Prop) : Prop where
  mem : it ∈ fp
  obj : ∀ i h, tn i h → ∀ b ∈ fp, ∃ o, h.get? b = some o ∧ ∀ v, o.data ≠ .cell v
  keep : ∀ i h h', tn i h → (∀ b ∈ fp, ∀ o, h.get? b = some o → h'.get? b = some o) → tn i h'
  item : ∀ (X : Cx), X.prog = P → X.w = w → X.K = K → X.calm = true → ∀ (i : Nat) (pins : List (Addr × Obj)) (s : Shared) (σ : St) (H : Hp) (E : Value → Shared → Prop), Inv X pins σ H s → (∀ b ∈ fp, FpOk X pins H b) → tn i s.heap → J.go i H →
    wpAny (model P w) X.A (pyNext (.ref it)) (fun r s1 => ∃ u, r = some u ∧
      wpAny (model P w) X.A (letOwnedTupleGo tg (.ref it) u) (fun _ s2 => ∃ x H', Inv X pins σ H' s2 ∧ RelV x u ∧ J.yld i H x H' ∧ tn (i + 1) s2.heap ∧ ∀ b ∈ fp, H' b = none) E s1) E s
  done : ∀ (X : Cx), X.prog = P → X.w = w → X.K = K → X.calm = true → ∀ (i : Nat) (pins : List (Addr × Obj)) (s : Shared) (σ : St) (H : Hp) (E : Value → Shared → Prop), Inv X pins σ H s → (∀ b ∈ fp, FpOk X pins H b) → tn i s.heap → J.stop i H →
    wpAny (model P w) X.A (pyNext (.ref it)) (fun r s1 => r = none ∧ Inv X pins σ H s1) E s
  self : ∀ (A : Around) (i : Nat) (s : Shared) (Q : Value → Shared → Prop) (E : Value → Shared → Prop), tn i s.heap → Q (.ref it) s → wpAny (model P w) A (pyIter (.ref it)) Q E s
abbrev TI := St → Hp → (It → Hp → Prop) → Prop
def PIE (X : Cx) (pins : List (Addr × Obj)) (σ : St) (tg : Expr) (R : It → Hp → Prop) (itv : Value) (s2 : Shared) : Prop :=
  ∃ (it : Addr) (fp : List Addr) (tn : Nat → Heap → Prop) (J : It) (H' : Hp), itv = .ref it ∧ Inv X pins σ H' s2 ∧ Turn X.prog X.w X.K tg J fp it tn ∧ tn 0 s2.heap ∧ (∀ b ∈ fp, FpOk X pins H' b) ∧ R J H'
def PI (X : Cx) (tg iter : Expr) (wi : TI) : Prop :=
  ∀ (pins : List (Addr × Obj)) (s : Shared) (σ : St) (H : Hp) (R : It → Hp → Prop), Inv X pins σ H s → wi σ H R →
    wpAny (model X.prog X.w) X.A (eval iter X.env) (fun v s1 => wpAny (model X.prog X.w) X.A (pyIter v) (PIE X pins σ tg R) X.xe s1) X.xe s

theorem go_of {M : Model} {A : Around} {E : Value → Shared → Prop} {s : Shared} {tg : Expr} {it : Addr} {u : Value} {o : Obj} {n : String} {vs : Array Value} {Q : Unit → Shared → Prop} (ho : s.heap.get? it = some o) (hc : o.cls = .type n) (hd : o.data = .fields vs)
    (hn : ["enumerate", "zip", "dict_itemiterator", "dict_reverseitemiterator", "odict_iterator", "itertools.zip_longest", "itertools.pairwise"].contains n = false) (hQ : Q () s) : wpAny M A (letOwnedTupleGo tg (.ref it) u) Q E s := by
  unfold letOwnedTupleGo
  cases tg <;> first
    | exact wpAny_pure hQ
    | (cases u <;> first
        | exact wpAny_pure hQ
        | (refine wpAny_bind (wpAny_load ho ?_)
           rw [hc, hd]
           show wpAny M A (if (["enumerate", "zip", "dict_itemiterator", "dict_reverseitemiterator", "odict_iterator", "itertools.zip_longest", "itertools.pairwise"].contains n && vs[0]? == some (rawInt _)) = true then _ else _) Q E s
           rw [if_neg (by intro h; rw [hn, Bool.false_and] at h; cases h)]
           exact wpAny_pure hQ))

def Itl (K : PySem.W.Frag) (a : Addr) : It :=
  ⟨fun i H => ∃ xs x, SqL K H a xs ∧ xs[i]? = some x, fun i H x H' => H' = H ∧ ∀ xs, SqL K H a xs → xs[i]? = some x, fun i H => ∃ xs, SqL K H a xs ∧ xs.length ≤ i⟩
def Itr (lo : Int) (n : Nat) : It := ⟨fun i _ => i < n, fun i H x H' => H' = H ∧ x = .int (lo + i), fun i _ => n ≤ i⟩
theorem turn_list {P : Program} {w : World} {K : PySem.W.Frag} {tg : Expr} (a it : Addr) : Turn P w K tg (Itl K a) [it] it (fun i h => h.IsListIter it a i) where
  mem := by simp
  obj := fun i h st b hb => by
    have e : b = it := by simpa using hb
    subst e
    obtain ⟨o, e, c, d⟩ := st
    exact ⟨o, e, fun v z => by rw [d] at z; cases z⟩
  keep := fun i h h' st k => st.at fun o e => k it (by simp) o e
  item := by
    intro X hP hw hK hc i pins s σ H E I hf st hg
    subst hP hw hK
    obtain ⟨xs, x, hq, hx⟩ := hg
    obtain ⟨its, rv, p, hz⟩ := I.list hq
    obtain ⟨u, hu, ru⟩ := rv.get hx
    obtain ⟨f0, f1, f2, f3, f4, f5⟩ := hf it (by simp)
    refine wpAny_pyNext_list_item st p.isList (x := u) (by simpa using hu) fun h' st' sb => ?_
    have I1 : Inv X pins σ H { s with heap := h' } := I.turned (t' := s.toks) (fun b o hb e => (sb.2 b hb).trans e) f0 f1 f3 f4 f5
    obtain ⟨o, e, c, d⟩ := id st'
    exact ⟨u, rfl, go_of (s := { s with heap := h' }) e c d (by decide) ⟨x, H, I1, ru, ⟨rfl, fun ys hy => by rw [I.list_inj hy hq]; exact hx⟩, st', fun b hb => (hf b hb).1⟩⟩
  done := by
    intro X hP hw hK hc i pins s σ H E I hf st hg
    subst hP hw hK
    obtain ⟨xs, hq, hx⟩ := hg
    obtain ⟨its, rv, p, hz⟩ := I.list hq
    obtain ⟨f0, f1, f2, f3, f4, f5⟩ := hf it (by simp)
    have hl := rv.length
    exact wpAny_pyNext_list_end (I.ok.hd hc) st p.isList (by simp; omega) fun h' eb => ⟨rfl, I.turned (t' := s.toks) (fun b o hb e => eb b o hb e) f0 f1 f3 f4 f5⟩
  self := fun _ _ _ _ _ st h => wpAny_pyIter_listiter st h
theorem turn_range {P : Program} {w : World} {K : PySem.W.Frag} {tg : Expr} (it : Addr) (lo : Int) (n : Nat) : Turn P w K tg (Itr lo n) [it] it (fun i h => IsRangeIter h it (lo + (i : Nat) * 1) ((n : Int) - (i : Nat)) 1) where
  mem := by simp
  obj := fun i h st b hb => by
    have e : b = it := by simpa using hb
    subst e
    exact ⟨_, st, fun v z => by
      have z' : Data.fields _ = Data.cell v := z
      cases z'⟩
  keep := fun i h h' st k => k it (by simp) _ st
  item := by
    intro X hP hw hK hc i pins s σ H E I hf st hg
    subst hP hw hK
    obtain ⟨f0, f1, f2, f3, f4, f5⟩ := hf it (by simp)
    have W := Walks.range (prog := X.prog) (w := X.w) (I.ok.hd hc) it lo 1 n
    refine W.item i s _ _ hg st fun v h' tk hv st' kk => ?_
    obtain ⟨t, rfl⟩ := hv
    have I1 : Inv X pins σ H { s with heap := h', toks := tk } := I.turned (fun b o hb e => kk b o (by simpa using hb) e) f0 f1 f3 f4 f5
    refine ⟨_, rfl, go_of (s := { s with heap := h', toks := tk }) (n := "range_iterator") st' rfl rfl (by decide) ⟨.int (lo + i), H, I1, ⟨t, ?_⟩, ⟨rfl, rfl⟩, st', fun b hb => (hf b hb).1⟩⟩
    rw [Int.mul_one]
  done := by
    intro X hP hw hK hc i pins s σ H E I hf st hg
    subst hP hw hK
    obtain ⟨f0, f1, f2, f3, f4, f5⟩ := hf it (by simp)
    exact wpAny_pyNext_range_end (I.ok.hd hc) st (by have : n ≤ i := hg; omega) fun h' eb => ⟨rfl, I.turned (t' := s.toks) (fun b o hb e => eb b o hb e) f0 f1 f3 f4 f5⟩
  self := fun _ _ _ _ _ st h => wpAny_pyIter_rangeiter st h
end L2

namespace L2
open PySem PySem.Spec PyProof.Rows
section
variable {X : Cx} {tg : Expr}
def iList (K : PySem.W.Frag) (tl : TE) : TI := fun σ H R => tl σ H fun x H1 => ∃ a, x = .ref a ∧ (∃ xs, SqL K H1 a xs) ∧ R (Itl K a) H1
theorem pi_list {l : Expr} {tl : TE} (hl : PE X l tl) : PI X tg l (iList X.K tl) := by
  intro pins s σ H R I h
  refine thn (hl pins s σ H _ I h) fun v s1 ⟨x, H1, I1, r1, q1⟩ => ?_
  obtain ⟨a, e, ⟨xs, hq⟩, q⟩ := q1
  subst e
  cases r1
  obtain ⟨its, rv, p, hz⟩ := I1.list hq
  refine wpAny_pyIter_list p.isList ?_
  refine ⟨s1.heap.objs.size, [s1.heap.objs.size], _, _, H1, rfl, I1.kept (t' := s1.toks) fun b o e => Heap.get?_push_of_some _ e, turn_list a _, ⟨_, Heap.get?_push_size _ rfl, rfl, rfl⟩, fun b hb => ?_, q⟩
  have e : b = s1.heap.objs.size := by simpa using hb
  subst e
  exact I1.fpOk (Nat.le_refl _) (I1.hok.fresh (Nat.le_refl _))
theorem range_it {pins : List (Addr × Obj)} {σ : St} {H : Hp} {s : Shared} {R : It → Hp → Prop} {E : Value → Shared → Prop} {lo hi : Int} {t u v : Tok} {tk : Nat} (I : Inv X pins σ H s) (h1 : -(2 ^ 62) ≤ lo) (h2 : lo < 2 ^ 62) (h3 : -(2 ^ 62) ≤ hi) (h4 : hi < 2 ^ 62)
    (q : R (Itr lo (hi - lo).toNat) H) : wpAny (model X.prog X.w) X.A (pyIter (.ref s.heap.objs.size)) (PIE X pins σ tg R) E { s with heap := s.heap.push { cls := .type "range", data := .fields #[.int lo t, .int hi u, .int 1 v] }, toks := tk } := by
  refine wpAny_pyIter_range (IsRange.new ..) (small_one h1 h2 h3 h4) ?_
  have I1 : Inv X pins σ H { s with heap := s.heap.push { cls := .type "range", data := .fields #[.int lo t, .int hi u, .int 1 v] }, toks := tk } := I.kept fun b o e => Heap.get?_push_of_some _ e
  refine ⟨(s.heap.push { cls := .type "range", data := .fields #[.int lo t, .int hi u, .int 1 v] }).objs.size, [(s.heap.push { cls := .type "range", data := .fields #[.int lo t, .int hi u, .int 1 v] }).objs.size], _, _, H, rfl,
    I1.kept (t' := tk) fun b o e => Heap.get?_push_of_some _ e, turn_range _ lo (hi - lo).toNat, ?_, fun b hb => ?_, q⟩
  · have e1 : lo + ((0 : Nat) : Int) * 1 = lo := by simp
    have e2 : (((hi - lo).toNat : Nat) : Int) - ((0 : Nat) : Int) = Builtin.Range.rangeSize lo hi 1 := by rw [rangeSize_one]; split <;> omega
    show IsRangeIter _ _ (lo + ((0 : Nat) : Int) * 1) ((((hi - lo).toNat : Nat) : Int) - ((0 : Nat) : Int)) 1
    rw [e1, e2]
    exact Heap.get?_push_size _ rfl
  · have e : b = (s.heap.push { cls := .type "range", data := .fields #[.int lo t, .int hi u, .int 1 v] }).objs.size := by simpa using hb
    subst e
    exact I1.fpOk (Nat.le_refl _) (I1.hok.fresh (Nat.le_refl _))
def iRng1 (ta : TA) : TI := fun σ H R => ta σ H fun vs H1 => ∃ j : Int, vs = [.int j] ∧ -(2 ^ 62) ≤ j ∧ j < 2 ^ 62 ∧ R (Itr 0 j.toNat) H1
theorem pi_range1 {a : Expr} {ta : TA} {p pos : Pos} (hg : Gl X "range") (hm : X.mg "range" = none) (ha : PA X [a] ta) (hs : starEach [a] X.env = [(false, eval a X.env)] := by rfl) : PI X tg (.Call (.Name "range" p) [a] [] pos) (iRng1 ta) := by
  intro pins s σ H R I h
  refine Call_ (ld_blt I hg hm boot_range (PyProof.Rows.callWith_type1 (thn (ha pos pins s σ H _ I h) fun us s1 ⟨vs, H1, I1, r1, q1⟩ => ?_) hs rfl))
  obtain ⟨j, e, q1, q2, q⟩ := q1
  subst e
  cases r1 with
  | cons r rr =>
    cases rr
    obtain ⟨t, rfl⟩ := r
    exact call_range_1 (range_it I1 (by omega) (by omega) q1 q2 (by simpa using q))
/-! ### for -/
def tFor (wi : TI) (g : TG) (tb : TS) : TS := fun D σ H => wi σ H fun J H1 => ∃ W : Nat → Nat → St → Hp → Prop, (∃ m, W 0 m σ H1) ∧ ∀ i m σ H, W i m σ H →
  (J.stop i H ∧ D.nx σ H) ∨ (J.go i H ∧ ∃ N : St → Hp → Prop, (∀ σ' H', N σ' H' → ∃ m', m' < m ∧ W (i + 1) m' σ' H') ∧ ∀ x H', J.yld i H x H' → g x σ H' fun σ2 H2 => tb { D with nx := N, ct := N, bk := D.nx } σ2 H2)
def pinsAt (fp : List Addr) (h : Heap) : List (Addr × Obj) := fp.filterMap fun b => (h.get? b).map fun o => (b, o)
theorem mem_pinsAt {fp : List Addr} {h : Heap} {b : Addr} {o : Obj} (hb : b ∈ fp) (e : h.get? b = some o) : (b, o) ∈ pinsAt fp h := List.mem_filterMap.mpr ⟨b, hb, by rw [e]; rfl⟩
theorem of_pinsAt {fp : List Addr} {h : Heap} {p : Addr × Obj} (hp : p ∈ pinsAt fp h) : p.1 ∈ fp ∧ h.get? p.1 = some p.2 := by
  obtain ⟨b, hb, e⟩ := List.mem_filterMap.mp hp
  cases q : h.get? b with
  | none => rw [q] at e; cases e
  | some o =>
    rw [q] at e
    have e' : (b, o) = p := Option.some.inj e
    subst e'
    exact ⟨hb, q⟩
theorem Inv.pinned {pins : List (Addr × Obj)} {σ : St} {H : Hp} {s : Shared} {fp : List Addr} (I : Inv X pins σ H s) (hf : ∀ b ∈ fp, FpOk X pins H b) (ho : ∀ b ∈ fp, ∃ o, s.heap.get? b = some o ∧ ∀ v, o.data ≠ .cell v) : Inv X (pins ++ pinsAt fp s.heap) σ H s :=
  I.pins_of fun p hp => (List.mem_append.mp hp).elim (fun z => I.pin p (List.mem_append_right _ z)) fun z => by
    obtain ⟨hb, e⟩ := of_pinsAt z
    obtain ⟨f0, f1, f2, _⟩ := hf p.1 hb
    obtain ⟨o, e', d⟩ := ho p.1 hb
    rw [e] at e'; cases e'
    exact ⟨e, f0, f1, f2, d⟩
theorem Inv.unpinned {pins pl : List (Addr × Obj)} {σ : St} {H : Hp} {s : Shared} (I : Inv X (pins ++ pl) σ H s) : Inv X pins σ H s := I.pins_of fun p hp => I.pin p (List.mem_append_right _ (List.mem_append_left _ hp))
theorem ps_for {iter : Expr} {body : List Stmt} {wi : TI} {g : TG} {tb : TS} {pos : Pos} (hp : PassesOwn (model X.prog X.w) X.A X.env X.xe) (hc : X.calm = true) (hi : PI X tg iter wi) (hg : PG X tg g) (hb : PSs X body tb)
    (hs : ∀ x, foldedSetIterable iter X.env x = pure x := by intro _; rfl) : PS X (.For tg iter body [] pos) (tFor wi g tb) := by
  intro pins s σ H D I h
  refine wpAny_For (thn (hi pins s σ H _ I h) fun v s1 h1 => thn h1 fun itv s2 h2 => ?_) hs
  obtain ⟨it, fp, tn, J, H2, e, I2, T, st2, f2, W, ⟨m0, w0⟩, turn⟩ := h2
  subst e
  -- what stays true of the iterator's objects through the loop
  have stat : ∀ {H' : Hp}, (∀ b ∈ fp, H' b = none) → ∀ b ∈ fp, FpOk X pins H' b := fun hn b hb => ⟨hn b hb, (f2 b hb).2⟩
  refine codeAny_forLoop_any (fun n s' => ∃ i σ' H', Inv X pins σ' H' s' ∧ tn i s'.heap ∧ (∀ b ∈ fp, H' b = none) ∧ W i n σ' H') ?_ m0 ⟨0, σ, H2, I2, st2, fun b hb => (f2 b hb).1, w0⟩
  rintro n s3 ⟨i, σ3, H3, I3, st3, fr3, w3⟩
  rcases turn i n σ3 H3 w3 with ⟨stop, qn⟩ | ⟨go, N, hN, step⟩
  · refine wpAny_passesOwn hp (thn (T.done X rfl rfl rfl hc i pins s3 σ3 H3 X.xe I3 (stat fr3) st3 stop) fun r s4 ⟨hr, I4⟩ => ?_)
    subst hr
    exact wpAny_execs_nil ⟨σ3, H3, I4, qn⟩
  · refine wpAny_passesOwn hp (thn (T.item X rfl rfl rfl hc i pins s3 σ3 H3 X.xe I3 (stat fr3) st3 go) fun r s4 ⟨u, hr, h4⟩ => ?_)
    subst hr
    refine wpAny_passesOwn hp (thn h4 fun _ s5 ⟨x, H5, I5, r5, y5, st5, fr5⟩ => ?_)
    have I5' := I5.pinned (stat fr5) (T.obj _ _ st5)
    refine wpAny_passesOwn hp (thn (hg _ s5 σ3 H5 x u _ I5' r5 (step x H5 y5)) fun _ s6 ⟨σ6, H6, I6, q6⟩ => ?_)
    refine wpAny_passesOwn hp (thn (hb _ s6 σ6 H6 _ I6 q6) fun f s7 q7 => ?_)
    have again : ∀ {σ7 : St} {H7 : Hp}, Inv X (pins ++ pinsAt fp s5.heap) σ7 H7 s7 → N σ7 H7 → ∃ m, m < n ∧ ∃ i σ' H', Inv X pins σ' H' s7 ∧ tn i s7.heap ∧ (∀ b ∈ fp, H' b = none) ∧ W i m σ' H' := fun {σ7 H7} I7 n7 => by
      obtain ⟨m', hm, w7⟩ := hN σ7 H7 n7
      refine ⟨m', hm, i + 1, σ7, H7, I7.unpinned, T.keep _ _ _ st5 fun b hb o e => (I7.pin (b, o) (List.mem_append_right _ (List.mem_append_right _ (mem_pinsAt hb e)))).1, fun b hb => ?_, w7⟩
      obtain ⟨o, e, d⟩ := T.obj _ _ st5 b hb
      exact (I7.pin (b, o) (List.mem_append_right _ (List.mem_append_right _ (mem_pinsAt hb e)))).2.1
    cases f with
    | next => obtain ⟨σ7, H7, I7, n7⟩ := q7; exact again I7 n7
    | cont => obtain ⟨σ7, H7, I7, n7⟩ := q7; exact again I7 n7
    | brk => obtain ⟨σ7, H7, I7, q7⟩ := q7; exact ⟨σ7, H7, I7.unpinned, q7⟩
    | ret v => obtain ⟨x7, σ7, H7, I7, r7, q7⟩ := q7; exact ⟨x7, σ7, H7, I7.unpinned, r7, q7⟩
end

/-! ### the forms one uses -/
theorem for_list {K : PySem.W.Frag} {a : Addr} {xs : List V} {g : TG} {tb : TS} {D : Ends} {σ : St} {H : Hp} (Pv : Nat → St → Hp → Prop) (h0 : Pv 0 σ H) (hl : ∀ i σ H, i ≤ xs.length → Pv i σ H → SqL K H a xs)
    (hs : ∀ i x σ H, xs[i]? = some x → Pv i σ H → g x σ H fun σ2 H2 => tb { D with nx := Pv (i + 1), ct := Pv (i + 1), bk := D.nx } σ2 H2) (hd : ∀ σ H, Pv xs.length σ H → D.nx σ H) :
    ∃ W : Nat → Nat → St → Hp → Prop, (∃ m, W 0 m σ H) ∧ ∀ i m σ H, W i m σ H →
      ((Itl K a).stop i H ∧ D.nx σ H) ∨ ((Itl K a).go i H ∧ ∃ N : St → Hp → Prop, (∀ σ' H', N σ' H' → ∃ m', m' < m ∧ W (i + 1) m' σ' H') ∧ ∀ x H', (Itl K a).yld i H x H' → g x σ H' fun σ2 H2 => tb { D with nx := N, ct := N, bk := D.nx } σ2 H2) := by
  refine ⟨fun i m σ H => m = xs.length - i ∧ i ≤ xs.length ∧ Pv i σ H, ⟨xs.length, by simp, Nat.zero_le _, h0⟩, ?_⟩
  rintro i m σ H ⟨rfl, hi, p⟩
  have q := hl i σ H hi p
  by_cases hlt : i < xs.length
  · refine .inr ⟨⟨xs, xs[i], q, by simp [hlt]⟩, Pv (i + 1), fun σ' H' p' => ⟨xs.length - (i + 1), by omega, rfl, hlt, p'⟩, fun x H' y => ?_⟩
    obtain ⟨e, y⟩ := y
    subst e
    exact hs i x σ _ (y xs q) p
  · have e : i = xs.length := by omega
    subst e
    exact .inl ⟨⟨xs, q, Nat.le_refl _⟩, hd σ H p⟩
theorem for_range {lo : Int} {n : Nat} {g : TG} {tb : TS} {D : Ends} {σ : St} {H : Hp} (Pv : Nat → St → Hp → Prop) (h0 : Pv 0 σ H)
    (hs : ∀ i σ H, i < n → Pv i σ H → g (.int (lo + i)) σ H fun σ2 H2 => tb { D with nx := Pv (i + 1), ct := Pv (i + 1), bk := D.nx } σ2 H2) (hd : ∀ σ H, Pv n σ H → D.nx σ H) :
    ∃ W : Nat → Nat → St → Hp → Prop, (∃ m, W 0 m σ H) ∧ ∀ i m σ H, W i m σ H →
      ((Itr lo n).stop i H ∧ D.nx σ H) ∨ ((Itr lo n).go i H ∧ ∃ N : St → Hp → Prop, (∀ σ' H', N σ' H' → ∃ m', m' < m ∧ W (i + 1) m' σ' H') ∧ ∀ x H', (Itr lo n).yld i H x H' → g x σ H' fun σ2 H2 => tb { D with nx := N, ct := N, bk := D.nx } σ2 H2) := by
  refine ⟨fun i m σ H => m = n - i ∧ i ≤ n ∧ Pv i σ H, ⟨n, by simp, Nat.zero_le _, h0⟩, ?_⟩
  rintro i m σ H ⟨rfl, hi, p⟩
  by_cases hlt : i < n
  · refine .inr ⟨hlt, Pv (i + 1), fun σ' H' p' => ⟨n - (i + 1), by omega, rfl, hlt, p'⟩, fun x H' y => ?_⟩
    obtain ⟨e, y⟩ := y
    subst e y
    exact hs i σ _ hlt p
  · have e : i = n := by omega
    subst e
    exact .inl ⟨Nat.le_refl _, hd σ H p⟩
end L2

namespace L2
open PySem PySem.Spec PyProof.Rows

abbrev R2 := V → V → Hp → VK → Prop
def OpR (X : Cx) (f : Value → Value → Sem Value) (r : R2) : Prop :=
  ∀ (pins : List (Addr × Obj)) (s : Shared) (σ : St) (H : Hp) (x y : V) (v u : Value) (Q : VK), Inv X pins σ H s → RelV x v → RelV y u → r x y H Q →
    wpAny (model X.prog X.w) X.A (f v u) (EP X pins σ Q) X.xe s
def UnR (X : Cx) (f : Value → Sem Value) (r : V → Hp → VK → Prop) : Prop :=
  ∀ (pins : List (Addr × Obj)) (s : Shared) (σ : St) (H : Hp) (x : V) (v : Value) (Q : VK), Inv X pins σ H s → RelV x v → r x H Q →
    wpAny (model X.prog X.w) X.A (f v) (EP X pins σ Q) X.xe s
def CallR (X : Cx) (f : Value) (r : List V → Hp → VK → Prop) : Prop :=
  ∀ (pins : List (Addr × Obj)) (s : Shared) (σ : St) (H : Hp) (xs : List V) (us : List Value) (Q : VK), Inv X pins σ H s → Vals xs us → r xs H Q →
    wpAny (model X.prog X.w) X.A (call f us) (EP X pins σ Q) X.xe s
def TruR (X : Cx) (r : V → Hp → (Bool → Hp → Prop) → Prop) : Prop :=
  ∀ (pins : List (Addr × Obj)) (s : Shared) (σ : St) (H : Hp) (x : V) (v : Value) (Q : Bool → Hp → Prop), Inv X pins σ H s → RelV x v → r x H Q →
    wpAny (model X.prog X.w) X.A (truthy v) (TP X pins σ Q) X.xe s

def tOp (r : R2) (ta tb : TE) : TE := fun σ H Q => ta σ H fun x H1 => tb σ H1 fun y H2 => r x y H2 Q
def tUn (r : V → Hp → VK → Prop) (ta : TE) : TE := fun σ H Q => ta σ H fun x H1 => r x H1 Q
def rI (C : Int → Int → Prop) (g : Int → Int → V) : R2 := fun x y H Q => ∃ i j, x = .int i ∧ y = .int j ∧ C i j ∧ Q (g i j) H
def rI0 (g : Int → Int → V) : R2 := fun x y H Q => ∃ i j, x = .int i ∧ y = .int j ∧ Q (g i j) H
def rU (g : Int → V) : V → Hp → VK → Prop := fun x H Q => ∃ i, x = .int i ∧ Q (g i) H

section
variable {X : Cx} {a b c : Expr} {ta tb tc : TE} {pos : Pos}

theorem binT (ha : PE X a ta) (hb : PE X b tb) {pins : List (Addr × Obj)} {s : Shared} {σ : St} {H : Hp} {R : V → V → Hp → Prop} (I : Inv X pins σ H s)
    (h : ta σ H fun x H1 => tb σ H1 fun y H2 => R x y H2) {Q : Value → Shared → Prop} {f : Value → Value → Sem Value}
    (hf : ∀ v u s2 x y H2, Inv X pins σ H2 s2 → RelV x v → RelV y u → R x y H2 → wpAny (model X.prog X.w) X.A (f v u) Q X.xe s2) :
    wpAny (model X.prog X.w) X.A (eval a X.env) (fun v s₁ => wpAny (model X.prog X.w) X.A (eval b X.env) (fun u s₂ => wpAny (model X.prog X.w) X.A (f v u) Q X.xe s₂) X.xe s₁) X.xe s := by
  refine thn (ha pins s σ H _ I h) fun v s1 ⟨x, H1, I1, r1, q1⟩ => ?_
  refine thn (hb pins s1 σ H1 _ I1 q1) fun u s2 ⟨y, H2, I2, r2, q2⟩ => ?_
  exact hf v u s2 x y H2 I2 r1 r2 q2

theorem pe_op {op : Operator} {r : R2} (ho : OpR X (binaryOp op) r) (ha : PE X a ta) (hb : PE X b tb) : PE X (.BinOp a op b pos) (tOp r ta tb) := by
  intro pins s σ H Q I h
  exact wpAny_BinOp (binT ha hb I h fun v u s2 x y H2 I2 rx ry q => ho pins s2 σ H2 x y v u Q I2 rx ry q)
theorem pe_un {op : UnaryOp} {r : V → Hp → VK → Prop} (ho : UnR X (unaryOp op) r) (ha : PE X a ta) : PE X (.UnaryOp op a pos) (tUn r ta) := by
  intro pins s σ H Q I h
  exact UnaryOp_ (thn (ha pins s σ H _ I h) fun v s1 ⟨x, H1, I1, r1, q1⟩ => ho pins s1 σ H1 x v Q I1 r1 q1)
/-! ### ints -/
theorem opI {f : Value → Value → Sem Value} {C : Int → Int → Prop} {g : Int → Int → Int}
    (rule : ∀ (i j : Int) (t u : Tok) (s : Shared) (Q : Value → Shared → Prop) (E : Value → Shared → Prop), C i j → Q (.int (g i j) s.toks) { s with toks := s.toks + 1 } → wpAny (model X.prog X.w) X.A (f (.int i t) (.int j u)) Q E s) :
    OpR X f (rI C fun i j => .int (g i j)) := by
  intro pins s σ H x y v u Q I rx ry h
  obtain ⟨i, j, rfl, rfl, hc, q⟩ := h
  obtain ⟨t, rfl⟩ := rx
  obtain ⟨t', rfl⟩ := ry
  exact rule i j t t' s _ _ hc ⟨.int (g i j), H, I.tok _, ⟨_, rfl⟩, q⟩
theorem opI0 {f : Value → Value → Sem Value} {g : Int → Int → Int}
    (rule : ∀ (i j : Int) (t u : Tok) (s : Shared) (Q : Value → Shared → Prop) (E : Value → Shared → Prop), Q (.int (g i j) s.toks) { s with toks := s.toks + 1 } → wpAny (model X.prog X.w) X.A (f (.int i t) (.int j u)) Q E s) :
    OpR X f (rI0 fun i j => .int (g i j)) := by
  intro pins s σ H x y v u Q I rx ry h
  obtain ⟨i, j, rfl, rfl, q⟩ := h
  obtain ⟨t, rfl⟩ := rx
  obtain ⟨t', rfl⟩ := ry
  exact rule i j t t' s _ _ ⟨.int (g i j), H, I.tok _, ⟨_, rfl⟩, q⟩
theorem opB0 {f : Value → Value → Sem Value} {g : Int → Int → Bool}
    (rule : ∀ (i j : Int) (t u : Tok) (s : Shared) (Q : Value → Shared → Prop) (E : Value → Shared → Prop), Q (.bool (g i j)) s → wpAny (model X.prog X.w) X.A (f (.int i t) (.int j u)) Q E s) :
    OpR X f (rI0 fun i j => .bl (g i j)) := by
  intro pins s σ H x y v u Q I rx ry h
  obtain ⟨i, j, rfl, rfl, q⟩ := h
  obtain ⟨t, rfl⟩ := rx
  obtain ⟨t', rfl⟩ := ry
  exact rule i j t t' s _ _ ⟨.bl (g i j), H, I, rfl, q⟩

def CDiv (i j : Int) : Prop := 0 < j ∧ j < 1073741824
def CPow (i j : Int) : Prop := 0 ≤ j ∧ j ≤ 1000000 ∧ i.natAbs < 2 ^ 64
def CMul (i j : Int) : Prop := (-(2 ^ 64) < i ∧ i < 2 ^ 64) ∨ (-(2 ^ 64) < j ∧ j < 2 ^ 64)
theorem CMul.ok {i j : Int} (h : CMul i j) : IntMulOk i j := by
  rcases h with ⟨h1, h2⟩ | ⟨h1, h2⟩
  · exact .of_left (intBits_le_64 h1 h2)
  · exact .of_right (intBits_le_64 h1 h2)
theorem op_add : OpR X (binaryOp .Add) (rI0 fun i j => .int (i + j)) := opI0 fun _ _ _ _ _ _ _ q => add_int q
theorem op_sub : OpR X (binaryOp .Sub) (rI0 fun i j => .int (i - j)) := opI0 fun _ _ _ _ _ _ _ q => sub_int q
theorem op_mul : OpR X (binaryOp .Mult) (rI CMul fun i j => .int (i * j)) := opI fun _ _ _ _ _ _ _ hc q => mul_int q hc.ok
theorem op_fdiv : OpR X (binaryOp .FloorDiv) (rI CDiv fun i j => .int (i / j)) := opI fun i j _ _ _ _ _ hc q => by
  have h1 : (0 : Int) < j := hc.1
  have h2 : j < 1073741824 := hc.2
  exact floordiv_int (by omega) (by rw [Int.fdiv_eq_ediv_of_nonneg i (by omega)]; exact q) (.inl (PyProof.noPylong_small (by omega)))
theorem op_mod : OpR X (binaryOp .Mod) (rI (fun _ j => 0 < j) fun i j => .int (i % j)) := opI fun i j _ _ _ _ _ hc q => by
  have h1 : (0 : Int) < j := hc
  exact mod_int' (by omega) (by rw [Int.fmod_eq_emod_of_nonneg i (by omega)]; exact q)
theorem op_pow : OpR X (binaryOp .Pow) (rI CPow fun i j => .int (i ^ j.toNat)) := opI fun _ _ _ _ _ _ _ hc q => pow_int_small hc.1 hc.2.1 hc.2.2 q
theorem unI {f : Value → Sem Value} {g : Int → Int}
    (rule : ∀ (i : Int) (t : Tok) (s : Shared) (Q : Value → Shared → Prop) (E : Value → Shared → Prop), Q (.int (g i) s.toks) { s with toks := s.toks + 1 } → wpAny (model X.prog X.w) X.A (f (.int i t)) Q E s) :
    UnR X f (rU fun i => .int (g i)) := by
  intro pins s σ H x v Q I rx h
  obtain ⟨i, rfl, q⟩ := h
  obtain ⟨t, rfl⟩ := rx
  exact rule i t s _ _ ⟨.int (g i), H, I.tok _, ⟨_, rfl⟩, q⟩
theorem un_neg : UnR X (unaryOp .USub) (rU fun i => .int (-i)) := unI fun _ _ _ _ _ q => neg_int q
/-! ### bools among ints: n += (a < b) -/
end

/-! ### comparisons -/
def scal : V → V → Bool
  | .non, .non => true | .non, .int _ => true | .int _, .non => true | .non, .bl _ => true | .bl _, .non => true | .non, .str _ => true | .str _, .non => true
  | .int _, .int _ => true | .bl _, .bl _ => true | .str _, .str _ => true | .byt _, .byt _ => true
  | .int _, .str _ => true | .str _, .int _ => true | .bl _, .str _ => true | .str _, .bl _ => true
  | _, _ => false
def rEq : R2 := fun x y H Q => scal x y = true ∧ Q (.bl (decide (x = y))) H
def rNe : R2 := fun x y H Q => scal x y = true ∧ Q (.bl (!decide (x = y))) H

theorem dec_int {i j : Int} : decide (V.int i = V.int j) = (i == j) := by
  rw [Bool.eq_iff_iff]
  simp
theorem dec_bl {i j : Bool} : decide (V.bl i = V.bl j) = (i == j) := by
  rw [Bool.eq_iff_iff]
  simp
theorem dec_str {i j : Str} : decide (V.str i = V.str j) = (i == j) := by
  rw [Bool.eq_iff_iff]
  simp
theorem dec_byt {i j : Array UInt8} : decide (V.byt i = V.byt j) = (i.toList == j.toList) := by
  rw [Bool.eq_iff_iff]
  cases i
  cases j
  simp

section
variable {X : Cx} {a b c : Expr} {ta tb tc : TE} {pos : Pos}
theorem fin_bl {pins : List (Addr × Obj)} {σ : St} {H : Hp} {s : Shared} {Q : VK} {k k' : Bool} (I : Inv X pins σ H s) (q : Q (.bl k) H) (e : k = k') : EP X pins σ Q (.bool k') s := by
  subst e
  exact ⟨.bl k, H, I, rfl, q⟩
theorem op_eq : OpR X (compareOp .Eq) rEq := by
  intro pins s σ H x y v u Q I rx ry h
  obtain ⟨hs, q⟩ := h
  cases x with
  | non =>
    cases rx
    cases y with
    | non => cases ry; exact PySem.EqNone.eq_none_none (fin_bl I q (by simp))
    | bl j => cases ry; exact PySem.EqNone.eq_none_bool (fin_bl I q (by simp))
    | int j => obtain ⟨t', rfl⟩ := ry; exact PySem.EqNone.eq_none_int (fin_bl I q (by simp))
    | str j => obtain ⟨t', rfl⟩ := ry; exact PySem.EqNone.eq_none_str (fin_bl I q (by simp))
    | _ => exact absurd (show false = true from hs) Bool.false_ne_true
  | bl i =>
    cases rx
    cases y with
    | non => cases ry; exact PySem.EqNone.eq_bool_none (fin_bl I q (by simp))
    | bl j => cases ry; exact eq_bool (fin_bl I q dec_bl)
    | str j => obtain ⟨t', rfl⟩ := ry; exact PySem.EqMixed.eq_bool_str (fin_bl I q (by simp))
    | _ => exact absurd (show false = true from hs) Bool.false_ne_true
  | int i =>
    obtain ⟨t, rfl⟩ := rx
    cases y with
    | non => cases ry; exact PySem.EqNone.eq_int_none (fin_bl I q (by simp))
    | int j => obtain ⟨t', rfl⟩ := ry; exact eq_int (fin_bl I q dec_int)
    | str j => obtain ⟨t', rfl⟩ := ry; exact PySem.EqMixed.eq_int_str (fin_bl I q (by simp))
    | _ => exact absurd (show false = true from hs) Bool.false_ne_true
  | str i =>
    obtain ⟨t, rfl⟩ := rx
    cases y with
    | non => cases ry; exact PySem.EqNone.eq_str_none (fin_bl I q (by simp))
    | bl j => cases ry; exact PySem.EqMixed.eq_str_bool (fin_bl I q (by simp))
    | int j => obtain ⟨t', rfl⟩ := ry; exact PySem.EqMixed.eq_str_int (fin_bl I q (by simp))
    | str j => obtain ⟨t', rfl⟩ := ry; exact eq_str (fin_bl I q dec_str)
    | _ => exact absurd (show false = true from hs) Bool.false_ne_true
  | byt i =>
    obtain ⟨t, rfl⟩ := rx
    cases y with
    | byt j => obtain ⟨t', rfl⟩ := ry; exact PySem.W.eq_bytes (fin_bl I q dec_byt)
    | _ => exact absurd (show false = true from hs) Bool.false_ne_true
  | _ => cases y <;> exact absurd (show false = true from hs) Bool.false_ne_true
theorem op_ne : OpR X (compareOp .NotEq) rNe := by
  intro pins s σ H x y v u Q I rx ry h
  obtain ⟨hs, q⟩ := h
  cases x with
  | non =>
    cases rx
    cases y with
    | non => cases ry; exact PySem.EqNone.ne_none_none (fin_bl I q (by simp))
    | bl j => cases ry; exact PySem.EqNone.ne_none_bool (fin_bl I q (by simp))
    | int j => obtain ⟨t', rfl⟩ := ry; exact PySem.EqNone.ne_none_int (fin_bl I q (by simp))
    | str j => obtain ⟨t', rfl⟩ := ry; exact PySem.EqNone.ne_none_str (fin_bl I q (by simp))
    | _ => exact absurd (show false = true from hs) Bool.false_ne_true
  | bl i =>
    cases rx
    cases y with
    | non => cases ry; exact PySem.EqNone.ne_bool_none (fin_bl I q (by simp))
    | bl j => cases ry; exact ne_bool (fin_bl I q (congrArg not dec_bl))
    | str j => obtain ⟨t', rfl⟩ := ry; exact PySem.EqMixed.ne_bool_str (fin_bl I q (by simp))
    | _ => exact absurd (show false = true from hs) Bool.false_ne_true
  | int i =>
    obtain ⟨t, rfl⟩ := rx
    cases y with
    | non => cases ry; exact PySem.EqNone.ne_int_none (fin_bl I q (by simp))
    | int j => obtain ⟨t', rfl⟩ := ry; exact ne_int (fin_bl I q (congrArg not dec_int))
    | str j => obtain ⟨t', rfl⟩ := ry; exact PySem.EqMixed.ne_int_str (fin_bl I q (by simp))
    | _ => exact absurd (show false = true from hs) Bool.false_ne_true
  | str i =>
    obtain ⟨t, rfl⟩ := rx
    cases y with
    | non => cases ry; exact PySem.EqNone.ne_str_none (fin_bl I q (by simp))
    | bl j => cases ry; exact PySem.EqMixed.ne_str_bool (fin_bl I q (by simp))
    | int j => obtain ⟨t', rfl⟩ := ry; exact PySem.EqMixed.ne_str_int (fin_bl I q (by simp))
    | str j => obtain ⟨t', rfl⟩ := ry; exact ne_str (fin_bl I q (congrArg not dec_str))
    | _ => exact absurd (show false = true from hs) Bool.false_ne_true
  | byt i =>
    obtain ⟨t, rfl⟩ := rx
    cases y with
    | byt j => obtain ⟨t', rfl⟩ := ry; exact PySem.W.ne_bytes (fin_bl I q (congrArg not dec_byt))
    | _ => exact absurd (show false = true from hs) Bool.false_ne_true
  | _ => cases y <;> exact absurd (show false = true from hs) Bool.false_ne_true

theorem op_lt : OpR X (compareOp .Lt) (rI0 fun i j => .bl (decide (i < j))) := opB0 fun _ _ _ _ _ _ _ q => lt_int q
theorem op_le : OpR X (compareOp .LtE) (rI0 fun i j => .bl (decide (i ≤ j))) := opB0 fun _ _ _ _ _ _ _ q => le_int q
theorem op_gt : OpR X (compareOp .Gt) (rI0 fun i j => .bl (decide (j < i))) := opB0 fun _ _ _ _ _ _ _ q => gt_int q
theorem op_ge : OpR X (compareOp .GtE) (rI0 fun i j => .bl (decide (j ≤ i))) := opB0 fun _ _ _ _ _ _ _ q => ge_int q
theorem nomark (b : Expr) {op : CmpOp} (h : op ≠ .In := by decide) (h2 : op ≠ .NotIn := by decide) : behindInMarks op b = false := by
  have e1 : (op == CmpOp.In) = false := by cases op <;> first | rfl | exact absurd rfl h
  have e2 : (op == CmpOp.NotIn) = false := by cases op <;> first | rfl | exact absurd rfl h2
  cases b <;> simp [behindInMarks, e1, e2]
theorem pe_cmpR {op : CmpOp} {r : R2} (ho : OpR X (compareOp op) r) (ha : PE X a ta) (hb : PE X b tb) (hm : behindInMarks op b = false) : PE X (.Compare a [op] [b] pos) (tOp r ta tb) := by
  intro pins s σ H Q I h
  exact wpAny_Compare1 (binT ha hb I h fun v u s2 x y H2 I2 rx ry q => ho pins s2 σ H2 x y v u Q I2 rx ry q) hm
def tTest (t : TE) : TT := fun σ H Q => t σ H fun x H' => ∃ k, x = .bl k ∧ Q k H'
theorem pt_cmpR {op : CmpOp} {r : R2} (ho : OpR X (compareOp op) r) (ha : PE X a ta) (hb : PE X b tb) (hm : behindInMarks op b = false) : PT X (.Compare a [op] [b] pos) (tTest (tOp r ta tb)) := by
  intro pins s σ H Q I h
  refine wpAny_isTrue_Compare1 (thn (ha pins s σ H _ I h) fun v s1 ⟨x, H1, I1, r1, q1⟩ => thn (hb pins s1 σ H1 _ I1 q1) fun u s2 ⟨y, H2, I2, r2, q2⟩ =>
    thn (ho pins s2 σ H2 x y v u _ I2 r1 r2 q2) fun c s3 ⟨z, H3, I3, r3, k, e, q3⟩ => ?_) hm
  subst e
  cases r3
  exact wpAny_truthy_bool ⟨H3, I3, q3⟩
def tChain (r r' : R2) (ta tb tc : TE) : TE := fun σ H Q => ta σ H fun x H1 => tb σ H1 fun y H2 => r x y H2 fun z H3 => ∃ k, z = .bl k ∧
  (if k = true then tc σ H3 fun w' H4 => r' y w' H4 Q else Q (.bl false) H3)
/-! ### truth -/
def TruV (K : PySem.W.Frag) (x : V) (H : Hp) (k : Bool) : Prop :=
  match x with
  | .non => k = false
  | .bl b => k = b
  | .int i => k = (i != 0)
  | .str y => y.length ≤ sizeLine ∧ k = ((y.length : Int) != 0)
  | .byt y => y.size ≤ sizeLine ∧ k = ((y.size : Int) != 0)
  | .ref p => (∃ xs, SqL K H p xs ∧ k = !xs.isEmpty) ∨ (∃ xs, SqT K H p xs ∧ k = !xs.isEmpty) ∨ ∃ kvs, H p = some (.dK kvs) ∧ k = !kvs.isEmpty
  | _ => False
theorem isEmpty_kv {κ : Type} {kvs : List (κ × V)} {vs : List (κ × Value)} (r : KV kvs vs) : (!vs.isEmpty) = !kvs.isEmpty := by
  cases r <;> rfl
theorem isEmpty_of {xs : List V} {its : List Value} (r : Vals xs its) : (!its.toArray.isEmpty) = !xs.isEmpty := by
  cases r <;> simp
theorem line63 : (sizeLine : Nat) < 2 ^ 63 := by rw [sizeLine_eq]; decide
theorem tru_ok : TruR X (fun x H Q => ∃ k, TruV X.K x H k ∧ Q k H) := by
  intro pins s σ H x v Q I rx h
  obtain ⟨k, e, q⟩ := h
  have hl := line63
  have hs : sizeLine = 16777216 := sizeLine_eq
  cases x with
  | non =>
    cases rx
    have e' : k = false := e
    subst e'
    exact truthy_none ⟨H, I, q⟩
  | bl b =>
    cases rx
    have e' : k = b := e
    subst e'
    exact wpAny_truthy_bool ⟨H, I, q⟩
  | int i =>
    obtain ⟨t, rfl⟩ := rx
    have e' : k = (i != 0) := e
    subst e'
    exact PySem.P.truthy_int ⟨H, I, q⟩
  | str y =>
    obtain ⟨t, rfl⟩ := rx
    obtain ⟨hy, e'⟩ : y.length ≤ sizeLine ∧ k = ((y.length : Int) != 0) := e
    subst e'
    exact PySem.P.truthy_str (by omega) ⟨H, I.tok _, q⟩
  | byt y =>
    obtain ⟨t, rfl⟩ := rx
    obtain ⟨hy, e'⟩ : y.size ≤ sizeLine ∧ k = ((y.size : Int) != 0) := e
    subst e'
    exact PySem.W.truthy_bytes (by omega) ⟨H, I.tok _, q⟩
  | ref p =>
    cases rx
    have e' : (∃ xs, SqL X.K H p xs ∧ k = !xs.isEmpty) ∨ (∃ xs, SqT X.K H p xs ∧ k = !xs.isEmpty) ∨ ∃ kvs, H p = some (.dK kvs) ∧ k = !kvs.isEmpty := e
    rcases e' with ⟨xs, hx, e'⟩ | ⟨xs, hx, e'⟩ | ⟨kvs, hx, e'⟩
    · subst e'
      obtain ⟨its, r, pl, hz⟩ := I.list hx
      have hlen := r.length
      exact wpAny_truthy_list pl.isList (by simp only [List.size_toArray]; omega) ⟨H, I.tok _, by rw [isEmpty_of r]; exact q⟩
    · subst e'
      obtain ⟨its, r, pl, hz⟩ := I.tuple hx
      have hlen := r.length
      exact truthy_tuple pl (by simp only [List.size_toArray]; omega) ⟨H, I.tok _, by rw [isEmpty_of r]; exact q⟩
    · subst e'
      obtain ⟨hz, hS, vs, r, m⟩ : kvs.length ≤ sizeLine ∧ (p == sysModules) = false ∧ ∃ vs, KV kvs vs ∧ s.heap.DictOf (mixKind X.prog X.w) p vs := I.hok p _ hx
      have hlen : kvs.length = vs.length := Paired.length r
      exact wpAny_truthy_dict hS m (by omega) ⟨H, I.tok _, by rw [isEmpty_kv r]; exact q⟩
  | _ => exact (show False from e).elim
theorem pt_truth (ha : PE X a ta) (he : ∀ whole, isTrue a X.env whole = (do let v ← whole; standAt a.pos; holding [v] (truthy v))) :
    PT X a (fun σ H Q => ta σ H fun x H' => ∃ k, TruV X.K x H' k ∧ Q k H') := by
  intro pins s σ H Q I h
  exact isTrue_plain (thn (ha pins s σ H _ I h) fun v s1 ⟨x, H1, I1, r1, q1⟩ => tru_ok pins s1 σ H1 x v Q I1 r1 q1) (he _)

/-! ### strs and bytes -/
theorem op_add_str : OpR X (binaryOp .Add) (fun x y H Q => ∃ i j, x = .str i ∧ y = .str j ∧ i.length + j.length ≤ sizeLine ∧ Q (.str (i ++ j)) H) := by
  intro pins s σ H x y v u Q I rx ry h
  obtain ⟨i, j, rfl, rfl, hz, q⟩ := h
  obtain ⟨t, rfl⟩ := rx
  obtain ⟨t', rfl⟩ := ry
  exact add_str (fun t' tk => ⟨.str (i ++ j), H, I.tok _, ⟨_, rfl⟩, q⟩) hz
/-! ### scalar builtins, by CallR -/
theorem vals1 {x : V} {us : List Value} (r : Vals [x] us) : ∃ u, us = [u] ∧ RelV x u := by
  cases r with
  | cons r1 r2 => cases r2; exact ⟨_, rfl, r1⟩
theorem vals2 {x y : V} {us : List Value} (r : Vals [x, y] us) : ∃ u w', us = [u, w'] ∧ RelV x u ∧ RelV y w' := by
  cases r with
  | cons r1 r2 =>
    cases r2 with
    | cons r3 r4 => cases r4; exact ⟨_, _, rfl, r1, r3⟩
theorem call_min2 (hc : X.calm = true) : CallR X (.builtin "min") (fun xs H Q => ∃ i j, xs = [.int i, .int j] ∧ Q (.int (if j < i then j else i)) H) := by
  intro pins s σ H xs us Q I r h
  obtain ⟨i, j, rfl, q⟩ := h
  obtain ⟨u, w', rfl, ⟨t, rfl⟩, ⟨t', rfl⟩⟩ := vals2 r
  refine min_two_ints (I.ok.hd hc) fun h' tk k => ⟨_, H, I.kept k, ?_, q⟩
  by_cases hj : j < i
  · rw [if_pos hj, if_pos hj]; exact ⟨_, rfl⟩
  · rw [if_neg hj, if_neg hj]; exact ⟨_, rfl⟩
theorem call_int1 : CallR X (.type "int") (fun xs H Q => (∃ i, xs = [.int i] ∧ Q (.int i) H) ∨ ∃ k, xs = [.bl k] ∧ Q (.int (if k then 1 else 0)) H) := by
  intro pins s σ H xs us Q I r h
  rcases h with ⟨i, rfl, q⟩ | ⟨k, rfl, q⟩
  · obtain ⟨u, rfl, t, rfl⟩ := vals1 r
    exact call_int_int ⟨.int i, H, I, ⟨_, rfl⟩, q⟩
  · obtain ⟨u, rfl, r1⟩ := vals1 r
    cases r1
    exact call_int_bool ⟨.int (if k then 1 else 0), H, I.tok _, ⟨_, rfl⟩, q⟩
end
end L2

namespace L2
open PySem PySem.Spec PyProof.Rows

/-! ### an instance, its attributes a map -/
structure ObjM (h : Heap) (x dx C : Addr) (mA : Str → Option Value) : Prop where
  obj : h.get? x = some (PySem.W.instObj C dx)
  ns : h.Ns1 dx mA
  ne : dx ≠ x

theorem lookIn_ns {h : Heap} {dx : Addr} {mA : Str → Option Value} (n : h.Ns1 dx mA) : ∃ od, h.get? dx = some od ∧ ∀ name, PySem.W.lookIn name od = some (mA name) := by
  obtain ⟨o, es, ep, ho, hd, hk, _, hm⟩ := n
  refine ⟨o, ho, fun name => ?_⟩
  have e := hm name
  unfold nsFind findBy at e
  rw [← Array.find?_toList] at e
  unfold PySem.W.lookIn
  rw [hd]
  dsimp only
  split
  · rename_i y q
    rw [q] at e
    exact congrArg some e
  · rename_i q
    rw [q] at e
    have a : es.toList.any (·.refKey) = false := by
      rw [List.any_eq_false]
      intro y hy
      obtain ⟨z, t, hkey⟩ := hk y (Array.mem_toList_iff.mp hy)
      simp [DictEntry.refKey, hkey]
    have a' : ¬ es.toList.any (·.refKey) = true := by rw [a]; exact Bool.false_ne_true
    rw [if_neg a']
    exact congrArg some e

theorem ObjM.look {h : Heap} {x dx C : Addr} {mA : Str → Option Value} (I : ObjM h x dx C mA) : ∃ od, PySem.W.InstAt h x (PySem.W.instObj C dx) C (some od) ∧ ∀ name, PySem.W.lookIn name od = some (mA name) :=
  let ⟨od, ho, hl⟩ := lookIn_ns I.ns
  ⟨od, ⟨I.obj, rfl, rfl, ho⟩, hl⟩

section
variable {prog : Program} {w : World} {A : Around} {E : Value → Shared → Prop} {s : Shared} {K : PySem.W.Frag} {x dx C f : Addr} {mA : Str → Option Value} {name : Str} {v : Value}

theorem get_map {expr : Bool} {Q : Value → Shared → Prop} (X : K.In s.heap) (I : ObjM s.heap x dx C mA) (hg : PySem.W.plainGet K C name = true) (hh : PySem.W.hasDictIn K C = true)
    (ha : PySem.W.findIn K (.ref C) name = some none) (hv : mA name = some v) (hv' : PySem.W.handedIn v = true) (h : Q v { s with toks := s.toks + 1 }) :
    wpAny (model prog w) A (getAttr (.ref x) name expr) Q E s := by
  obtain ⟨od, J, hl⟩ := I.look
  exact PySem.W.get_value X J (PySem.W.plainGet_of hg).1 (PySem.W.findObj_own hh ha rfl (by rw [hl, hv])) hv' h

theorem get_meth {pl : Sem Bool} {Q : Value × List Value → Shared → Prop} (X : K.In s.heap) (I : ObjM s.heap x dx C mA) (hg : PySem.W.plainGet K C name = true)
    (hf : PySem.W.findIn K (.ref C) name = some (some (.ref f))) (ht : PySem.W.isFn K (.ref f) = true) (hv : mA name = none) (h : Q (.ref f, [.ref x]) s) :
    wpAny (model prog w) A (getMethod (.ref x) name pl) Q E s := by
  obtain ⟨od, J, hl⟩ := I.look
  exact PySem.W.method_fn X J (PySem.W.plainGet_of hg).1 (PySem.W.plainGet_of hg).2 hf (beq_iff_eq.mp ht) (by show (PySem.W.lookIn name od).map (·.isSome) = some false; rw [hl, hv]; rfl) h

theorem set_map {ns : List Str} {Q : Unit → Shared → Prop} (X : K.In s.heap) (I : ObjM s.heap x dx C mA)
    (hs : PySem.W.findIn K (.ref C) "__setattr__" = some (some (.builtin "object.__setattr__"))) (hp : PySem.W.plainOver K C = true) (ht : PySem.W.takerIn K C name = some none) (hh : PySem.W.hasDictIn K C = true)
    (hw : PySem.Within mA ns) (hsz : ns.length ≤ sizeLine)
    (h : ∀ h', ObjM h' x dx C (fun y => if y = name then some v else mA y) → Heap.SameBut dx s.heap h' → Q () { s with heap := h', toks := s.toks + 2 }) :
    wpAny (model prog w) A (setAttr (.ref x) name v) Q E s := by
  obtain ⟨od, J, hl⟩ := I.look
  refine PySem.W.set_plain X J hs (PySem.W.osa_open (s := { s with toks := s.toks + 1 }) (r := none) X J hp ht fun b => ?_)
  obtain ⟨cd, hc, hd'⟩ := PySem.W.any_some hh
  have hx : s.heap.get? x = some ⟨.ref C, some dx, .plain, #[]⟩ := I.obj
  refine wpAny_bind (wpAny_pure (wpAny_bind (wpAny_bind (wpAny_loadPart hx (wpAny_bind (PySem.W.Looks.here (s := { s with toks := s.toks + 1 }) (PySem.W.looks_clsIn X hc) ?_))))))
  rw [hd']
  refine wpAny_pure (a := some dx) (wpAny_bind (wpAny_pure (wpAny_bind ?_)))
  refine wpAny_nsSet1 (s := { s with toks := s.toks + 1 }) I.ns fun h' hn2 hs2 => ?_
  obtain ⟨oD, esD, epD, hoD, hdD, hcD⟩ := hn2.count (PySem.Within.cons name v hw)
  refine wpAny_bind (wpAny_lookBehind hoD (by rw [hdD]; exact pastItsLine_dict (Nat.le_trans hcD (by rw [List.length_cons]; omega))) ?_)
  exact wpAny_pure (h _ ⟨(hs2.2 _ (Ne.symm I.ne)).trans I.obj, hn2, I.ne⟩ hs2)

theorem make_map {R : Result → Shared → Prop} {vs : List Value} {kw : List (Str × Value)} (X : K.In s.heap) (hm : PySem.W.makesIn K C = true)
    (hi : PySem.W.findIn K (.ref C) "__init__" = some (some (.ref f))) (hf : PySem.W.typeIn K (.ref f) = some (.type "function"))
    (h : codeAny (model prog w) (A.under (.builtin "type.__call__" ⟨.ref C :: vs, kw⟩)) (.call (.ref f) ⟨.ref (s.heap.objs.size + 1) :: vs, kw⟩) (PySem.W.InitBack (s.heap.objs.size + 1) R)
      { s with heap := (s.heap.push PySem.W.emptyDict).push (PySem.W.instObj C s.heap.objs.size) }) :
    codeAny (model prog w) A (.call (.ref C) ⟨vs, kw⟩) R s := by
  obtain ⟨hh, g, d, t, os⟩ := s
  exact PySem.W.make_core (PySem.W.makes_of X hm) (PySem.W.looks_findIn X hi) (fun self => PySem.W.bind_fn X self hf) (.inl rfl) h
end

/-! ### the attributes as a list of pairs -/
def putF (f : Str) (v : V) : List (Str × V) → List (Str × V)
  | [] => [(f, v)]
  | (g, x) :: r => if g = f then (g, v) :: r else (g, x) :: putF f v r
theorem lookup_putF (f g : Str) (v : V) : ∀ fs : List (Str × V), (putF f v fs).lookup g = if g = f then some v else fs.lookup g
  | [] => by
    show List.lookup g [(f, v)] = _
    by_cases h : g = f
    · have hb : (g == f) = true := beq_iff_eq.mpr h
      simp only [List.lookup, hb, if_pos h]
    · have hb : (g == f) = false := beq_eq_false_iff_ne.mpr h
      simp only [List.lookup, hb, if_neg h]
  | (k, x) :: r => by
    have ih := lookup_putF f g v r
    rw [show putF f v ((k, x) :: r) = (if k = f then (k, v) :: r else (k, x) :: putF f v r) from rfl]
    by_cases hk : k = f
    · rw [if_pos hk]
      by_cases h : g = k
      · have hb : (g == k) = true := beq_iff_eq.mpr h
        simp only [List.lookup, hb, if_pos (h.trans hk)]
      · have hb : (g == k) = false := beq_eq_false_iff_ne.mpr h
        simp only [List.lookup, hb, if_neg (fun e : g = f => h (e.trans hk.symm))]
    · rw [if_neg hk]
      by_cases h : g = k
      · have hb : (g == k) = true := beq_iff_eq.mpr h
        simp only [List.lookup, hb, if_neg (fun e : g = f => hk (h.symm.trans e))]
      · have hb : (g == k) = false := beq_eq_false_iff_ne.mpr h
        simp only [List.lookup, hb]
        exact ih
theorem keys_putF (f : Str) (v : V) : ∀ fs : List (Str × V), f ∈ (putF f v fs).map (·.1) ∧ ∀ g, g ∈ fs.map (·.1) → g ∈ (putF f v fs).map (·.1)
  | [] => ⟨by simp [putF], fun g h => by simp at h⟩
  | (k, x) :: r => by
    obtain ⟨i1, i2⟩ := keys_putF f v r
    rw [show putF f v ((k, x) :: r) = (if k = f then (k, v) :: r else (k, x) :: putF f v r) from rfl]
    by_cases hk : k = f
    · rw [if_pos hk]
      subst hk
      exact ⟨by simp, fun g h => by simpa using h⟩
    · rw [if_neg hk]
      refine ⟨?_, fun g h => ?_⟩
      · rw [List.map_cons]
        exact List.mem_cons_of_mem _ i1
      · rw [List.map_cons] at h ⊢
        rcases List.mem_cons.mp h with e | e
        · exact List.mem_cons.mpr (.inl e)
        · exact List.mem_cons_of_mem _ (i2 g e)
theorem length_putF (f : Str) (v : V) : ∀ fs : List (Str × V), (putF f v fs).length ≤ fs.length + 1
  | [] => by simp [putF]
  | (k, x) :: r => by
    have ih := length_putF f v r
    rw [show putF f v ((k, x) :: r) = (if k = f then (k, v) :: r else (k, x) :: putF f v r) from rfl]
    by_cases hk : k = f
    · rw [if_pos hk, List.length_cons, List.length_cons]; omega
    · rw [if_neg hk, List.length_cons, List.length_cons]; omega

theorem RelO.some_of {v : V} {o : Option Value} (r : RelO (some v) o) : ∃ u, o = some u ∧ RelV v u := by
  cases o with
  | none => exact (show False from r).elim
  | some u => exact ⟨u, rfl, r⟩
theorem RelO.none_of {o : Option Value} (r : RelO none o) : o = none := by
  cases o with
  | none => rfl
  | some u => exact (show False from r).elim
theorem handed_of {v : V} {u : Value} (r : RelV v u) : PySem.W.handedIn u = true := by
  cases v with
  | non => cases (show u = Value.none from r); rfl
  | bl b => cases (show u = Value.bool b from r); rfl
  | int i => obtain ⟨t, e⟩ := (show ∃ t, u = Value.int i t from r); cases e; rfl
  | str x => obtain ⟨t, e⟩ := (show ∃ t, u = Value.str x t from r); cases e; rfl
  | byt b => obtain ⟨t, e⟩ := (show ∃ t, u = Value.bytes b t from r); cases e; rfl
  | flt b => obtain ⟨t, e⟩ := (show ∃ t, u = Value.float b t from r); cases e; rfl
  | ref a => cases (show u = Value.ref a from r); rfl
  | ty n => cases (show u = Value.type n from r); rfl

section
variable {P : Program} {w : World} {H H' : Hp} {h h' : Heap} {a C dx : Addr} {fs fs' : List (Str × V)}
theorem ins_get (hok : HOk P w H h) (e : H a = some (.ins C dx fs)) : ∃ mA, ObjM h a dx C mA ∧ (∀ f, RelO (fs.lookup f) (mA f)) ∧ PySem.Within mA (fs.map (·.1)) ∧ fs.length ≤ 1000 ∧ H dx = some (.own a) := by
  obtain ⟨d, z, ne, ob, mA, n, r, q⟩ := (show ObjOk P w H h a (.ins C dx fs) from hok a _ e)
  exact ⟨mA, ⟨ob, n, ne⟩, r, q, z, d⟩
end

/-! ### what of the text a class must have -/
structure Cls (K : PySem.W.Frag) (C : Addr) : Prop where
  pg : PySem.W.plainGet K C Str.empty = true
  hd : PySem.W.hasDictIn K C = true
  po : PySem.W.plainOver K C = true
  sa : PySem.W.findIn K (.ref C) "__setattr__" = some (some (.builtin "object.__setattr__"))
theorem Cls.get {K : PySem.W.Frag} {C : Addr} (c : Cls K C) (f : Str) : PySem.W.plainGet K C f = true := c.pg
def NoAttr (K : PySem.W.Frag) (C : Addr) (f : Str) : Prop := PySem.W.findIn K (.ref C) f = some none
theorem NoAttr.taker {K : PySem.W.Frag} {C : Addr} {f : Str} (n : NoAttr K C f) : PySem.W.takerIn K C f = some none := by
  unfold PySem.W.takerIn
  rw [show PySem.W.findIn K (.ref C) f = some none from n]
  rfl
structure Con (K : PySem.W.Frag) (C : Addr) (f : Str) (v : V) (u : Value) : Prop where
  at_ : PySem.W.findIn K (.ref C) f = some (some u)
  rel : RelV v u
  get : PySem.W.specialIn K u "__get__" = some none
  cp : PySem.W.copiedNames.contains f = false
structure Meth (K : PySem.W.Frag) (C : Addr) (m : Str) (f : Addr) : Prop where
  at_ : PySem.W.findIn K (.ref C) m = some (some (.ref f))
  fn : PySem.W.isFn K (.ref f) = true
  kp : PySem.W.keepIn K (.ref f) = true

section
variable {X : Cx} {pins : List (Addr × Obj)} {σ : St} {H : Hp} {s : Shared} {a C dx : Addr} {fs : List (Str × V)} {f : Str} {v : V} {A : Around} {E : Value → Shared → Prop}

theorem getattr_ok {b : Bool} {Q : Value → Shared → Prop} (I : Inv X pins σ H s) (e : H a = some (.ins C dx fs)) (c : Cls X.K C) (n : NoAttr X.K C f) (l : fs.lookup f = some v)
    (h : ∀ u s', Inv X pins σ H s' → RelV v u → Q u s') : wpAny (model X.prog X.w) A (getAttr (.ref a) f b) Q E s := by
  obtain ⟨mA, O, r, _, _, _⟩ := ins_get I.hok e
  obtain ⟨u, hu, ru⟩ := RelO.some_of (v := v) (o := mA f) (by rw [← l]; exact r f)
  exact get_map I.kIn O (c.get f) c.hd n hu (handed_of ru) (h u _ (I.tok _) ru)

theorem getmeth_ok {m : Str} {g : Addr} {pl : Sem Bool} {Q : Value × List Value → Shared → Prop} (I : Inv X pins σ H s) (e : H a = some (.ins C dx fs)) (c : Cls X.K C) (k : Meth X.K C m g) (l : fs.lookup m = none)
    (h : Q (.ref g, [.ref a]) s) : wpAny (model X.prog X.w) A (getMethod (.ref a) m pl) Q E s := by
  obtain ⟨mA, O, r, _, _, _⟩ := ins_get I.hok e
  have hn : mA m = none := RelO.none_of (by rw [← l]; exact r m)
  exact get_meth I.kIn O (c.get m) k.at_ k.fn hn h

theorem setattr_ok {y : V} {u : Value} {Q : Unit → Shared → Prop} (I : Inv X pins σ H s) (e : H a = some (.ins C dx fs)) (c : Cls X.K C) (n : NoAttr X.K C f) (hl : fs.length < 1000) (ry : RelV y u)
    (h : ∀ s', Inv X pins σ (upd H a (.ins C dx (putF f y fs))) s' → Q () s') : wpAny (model X.prog X.w) A (setAttr (.ref a) f u) Q E s := by
  obtain ⟨mA, O, r, wi, _, ho⟩ := ins_get I.hok e
  have hz : (fs.map (·.1)).length ≤ sizeLine := by rw [List.length_map, sizeLine_eq]; omega
  refine set_map I.kIn O c.sa c.po n.taker c.hd wi hz fun h' O' sb => h _ ?_
  have hd : ∃ o, h'.get? dx = some o := let ⟨o, _, _, e', _⟩ := O'.ns; ⟨o, e'⟩
  refine I.write (x := a) (e := dx) (by rw [e]; exact True.intro) (.inr ho) (fun b q hb z => (sb.2 b hb).trans z) hd ?_
  refine ⟨by rw [upd_ne O.ne]; exact ho, ?_, O.ne, O'.obj, _, O'.ns, fun g => ?_, fun g hg => ?_⟩
  · have := length_putF f y fs; omega
  · show RelO ((putF f y fs).lookup g) (if g = f then some u else mA g)
    rw [lookup_putF]
    by_cases q : g = f
    · rw [if_pos q, if_pos q]; exact ry
    · rw [if_neg q, if_neg q]; exact r g
  · by_cases q : g = f
    · rw [q]; exact (keys_putF f y fs).1
    · refine (keys_putF f y fs).2 g (wi g fun z => hg ?_)
      show (if g = f then some u else mA g) = none
      rw [if_neg q]; exact z

theorem Inv.made (I : Inv X pins σ H s) : Inv X pins σ (upd (upd H s.heap.objs.size (.own (s.heap.objs.size + 1))) (s.heap.objs.size + 1) (.ins C s.heap.objs.size []))
    { s with heap := (s.heap.push PySem.W.emptyDict).push (PySem.W.instObj C s.heap.objs.size) } := by
  have e1 : (s.heap.push PySem.W.emptyDict).get? s.heap.objs.size = some PySem.W.emptyDict := Heap.get?_push_size s.heap rfl
  have e2 : ((s.heap.push PySem.W.emptyDict).push (PySem.W.instObj C s.heap.objs.size)).get? (s.heap.objs.size + 1) = some (PySem.W.instObj C s.heap.objs.size) := by
    have := Heap.get?_push_size (s.heap.push PySem.W.emptyDict) (o := PySem.W.instObj C s.heap.objs.size) rfl
    rwa [Heap.size_push] at this
  have e3 : (s.heap.push PySem.W.emptyDict).Ns s.heap.objs.size (fun _ => none) := ⟨PySem.W.emptyDict, #[], _, e1, rfl, (fun e he => absurd he (by simp)), fun _ => rfl⟩
  have I1 := I.laid (a := s.heap.objs.size) (o := .own (s.heap.objs.size + 1)) (h' := s.heap.push PySem.W.emptyDict) (t' := s.toks) (fun b u q => Heap.get?_push_of_some _ q) (Nat.le_refl _) ⟨_, e1⟩
  refine I1.laid (a := s.heap.objs.size + 1) (o := .ins C s.heap.objs.size []) (t' := s.toks) (fun b u q => Heap.get?_push_of_some _ q) (Nat.le_of_eq (Heap.size_push _ _)) ?_
  have ne : s.heap.objs.size ≠ s.heap.objs.size + 1 := Nat.ne_of_lt (Nat.lt_succ_self _)
  refine ⟨by rw [upd_ne ne, upd_same], Nat.zero_le _, ne, e2, fun _ => none, (Heap.Ns1.of_empty e3).at fun o q => Heap.get?_push_of_some _ q, fun _ => True.intro, fun y hy => absurd rfl hy⟩

theorem attr_of {prog : Program} {w : World} {env : Env} {e : Expr} {f : Str} {pos : Pos} {s : Shared} {Q : Value → Shared → Prop} (hb : attributeBase e f env (eval e env) = eval e env)
    (h : wpAny (model prog w) A (eval e env) (fun o s₁ => wpAny (model prog w) A (getAttr o f true) Q E s₁) E s) : wpAny (model prog w) A (eval (.Attribute e f pos) env) Q E s :=
  Attribute_any_ h (by rw [arm_eval_Attribute, hb])
end

/-! ### readings and rules -/
section
variable {X : Cx} {o e value : Expr} {f : Str} {pos pos' tpos : Pos} {ta tv : TE}
end

/-! ### isinstance -/
section
variable {X : Cx} {pins : List (Addr × Obj)} {σ : St} {H : Hp} {s : Shared} {A : Around} {E : Value → Shared → Prop} {Q : Value → Shared → Prop} {c : Value} {b : Bool}
inductive TyOf (K : PySem.W.Frag) (H : Hp) : V → Value → Prop where
  | non : TyOf K H .non (.type "NoneType")
  | bl (x : Bool) : TyOf K H (.bl x) (.type "bool")
  | int (i : Int) : TyOf K H (.int i) (.type "int")
  | str (x : Str) : TyOf K H (.str x) (.type "str")
  | flt (x : UInt64) : TyOf K H (.flt x) (.type "float")
  | lst {a : Addr} {xs : List V} (e : H a = some (.lst xs)) : TyOf K H (.ref a) (.type "list")
  | frz {a : Addr} {o : Obj} {xs : List V} (e : H a = some (.frz o (.lst xs))) : TyOf K H (.ref a) (.type "list")
  | tup {a : Addr} {xs : List V} (e : H a = some (.tup xs)) : TyOf K H (.ref a) (.type "tuple")
  | dK {a : Addr} {kvs : List (Key × V)} (e : H a = some (.dK kvs)) : TyOf K H (.ref a) (.type "dict")
  | dT {a : Addr} {kvs : List (List Key × V)} (e : H a = some (.dT kvs)) : TyOf K H (.ref a) (.type "dict")
  | ins {a C dx : Addr} {fs : List (Str × V)} (e : H a = some (.ins C dx fs)) (cl : Cls K C) (ha : PySem.W.findIn K (.ref C) "__class__" = some (some (.builtin "object.__class__")))
      (hn : PySem.W.specialIn K (.builtin "object.__class__") "__get__" = some (some (.builtin "getset_descriptor.__get__"))) (htk : PySem.W.takesIn K (.builtin "object.__class__") = some true)
      (hm : PySem.W.mroIn K C (.type "object") = some true) : TyOf K H (.ref a) (.ref C)
end
end L2

namespace L2
open PySem PySem.Spec PyProof.Rows

/-! ### room -/
structure Room (k : Nat) (A : Around) : Prop where
  hd : A.handled = none
  dp : A.depth + 3 * k + 5 < recursionLimit
  un : A.units + 16 * k + 200 < cLine
theorem Room.mono {j k : Nat} {A : Around} (r : Room k A) (h : j ≤ k) : Room j A := ⟨r.hd, by have := r.dp; omega, by have := r.un; omega⟩
theorem Room.deeper {k : Nat} {A : Around} (r : Room (k + 1) A) (env : Env) : Room k (A.deeper env) :=
  ⟨r.hd, by have := r.dp; show A.depth + 1 + 3 * k + 5 < _; omega, by have := r.un; show A.units + 3 + 16 * k + 200 < _; omega⟩
theorem Room.in1 {k : Nat} {A : Around} (r : Room (k + 1) A) : Room k A.in1 :=
  ⟨r.hd, by have := r.dp; show A.depth + 3 * k + 5 < _; omega, by have := r.un; show A.units + 1 + 16 * k + 200 < _; omega⟩
theorem make_depth {A : Around} {C : Addr} {us : List Value} {kw : List (Str × Value)} : (A.under (.builtin "type.__call__" ⟨.ref C :: us, kw⟩)).depth = A.depth + 1 := by
  first | rfl | simp [Around.under, Code.weight, Code.isCreation, Code.isGuard, Code.isCaller, Code.frames, Code.isFrame, guardIds]
theorem make_units {A : Around} {C : Addr} {us : List Value} {kw : List (Str × Value)} : (A.under (.builtin "type.__call__" ⟨.ref C :: us, kw⟩)).units = A.units + 1 := by
  first | rfl | simp [Around.under, Code.cUnits, Code.frames, Code.isFrame]
theorem Room.make {k : Nat} {A : Around} (r : Room (k + 1) A) (C : Addr) (us : List Value) (kw : List (Str × Value)) : Room k (A.under (.builtin "type.__call__" ⟨.ref C :: us, kw⟩)) :=
  ⟨r.hd, by have := r.dp; rw [make_depth]; omega, by have := r.un; rw [make_units]; omega⟩
theorem Room.depth {k : Nat} {A : Around} (r : Room k A) : A.depth < recursionLimit := by have := r.dp; omega
theorem Room.units {k : Nat} {A : Around} (r : Room k A) : A.units + 64 < cLine := by have := r.un; omega
/-! ### argument lists and displays -/
def tNil : TA := fun _ H Q => Q [] H
def tCons (ta : TE) (tr : TA) : TA := fun σ H Q => ta σ H fun x H1 => tr σ H1 fun xs H2 => Q (x :: xs) H2
section
variable {X : Cx} {e : Expr} {es : List Expr} {te : TE} {t : TA} {pos : Pos}
theorem pa_nil : PA X [] tNil := fun _ _ _ _ H Q I h => Calls.spliced_nil ⟨[], H, I, .nil, h⟩
theorem pa_cons (ha : PE X e te) (hr : PA X es t) (hs : starEach (e :: es) X.env = (false, eval e X.env) :: starEach es X.env := by rfl) : PA X (e :: es) (tCons te t) := by
  intro pos pins s σ H Q I h
  rw [hs]
  show wpAny _ _ (spliced ((false, eval e X.env) :: backTo pos (starEach es X.env))) _ _ s
  refine Calls.spliced_cons (thn (ha pins s σ H _ I h) fun u s1 ⟨x, H1, I1, r1, q1⟩ => ?_)
  exact thn (hr pos pins s1 σ H1 _ I1 q1) fun us s2 ⟨xs, H2, I2, r2, q2⟩ => ⟨x :: xs, H2, I2, .cons r1 r2, q2⟩

def tTup (t : TA) : TE := fun σ H Q => t σ H fun xs H1 => xs.length ≤ sizeLine ∧ ∀ p, H1 p = none → Q (.ref p) (upd H1 p (.tup xs))
def tLst (t : TA) : TE := fun σ H Q => t σ H fun xs H1 => xs.length ≤ sizeLine ∧ ∀ p, H1 p = none → Q (.ref p) (upd H1 p (.lst xs))
theorem pe_tup {x1} (h : PA X es t) : PE X (.Tuple es x1 pos) (tTup t) := by
  intro pins s σ H Q I hq
  refine wpAny_Tuple_spliced (thn (h pos pins s σ H _ I hq) fun us s1 ⟨xs, H1, I1, r, z, q⟩ => ⟨by rw [← r.length]; exact z, ?_⟩)
  have hf : H1 s1.heap.objs.size = none := I1.hok.fresh (Nat.le_refl _)
  refine ⟨.ref s1.heap.objs.size, upd H1 s1.heap.objs.size (.tup xs), I1.laid (t' := s1.toks) (fun b u e => Heap.get?_push_of_some _ e) (Nat.le_refl _) ?_, rfl, q _ hf⟩
  exact ⟨z, us, r, ⟨_, Heap.get?_push_size _ rfl, rfl, _, rfl⟩⟩
theorem pe_lst (h : PA X es t) : PE X (.List es pos) (tLst t) := by
  intro pins s σ H Q I hq
  refine wpAny_List_spliced (thn (h pos pins s σ H _ I hq) fun us s1 ⟨xs, H1, I1, r, z, q⟩ => ⟨by rw [← r.length]; exact z, ?_⟩)
  have hf : H1 s1.heap.objs.size = none := I1.hok.fresh (Nat.le_refl _)
  refine ⟨.ref s1.heap.objs.size, upd H1 s1.heap.objs.size (.lst xs), I1.laid (t' := s1.toks) (fun b u e => Heap.get?_push_of_some _ e) (Nat.le_refl _) ?_, rfl, q _ hf⟩
  exact ⟨z, us, 0, r, Heap.get?_push_size _ rfl⟩
end

/-! ### what a def promises -/
abbrev Sp := List V → Hp → VK → XK → Prop
abbrev CXT := List Env → Hp → Shared → XK → Value → Shared → Prop

structure Env0 (P : Program) (w : World) (K : PySem.W.Frag) (mg : Str → Option Value) (base : Heap) (A : Around) (outer : List Env) (s : Shared) (H : Hp) : Prop where
  frames : A.frames = some outer
  mod : Mod K mg base
  bs : ∀ b o, base.get? b = some o → s.heap.get? b = some o ∧ H b = none
  bsz : base.objs.size ≤ s.heap.objs.size
  funs : s.heap.FunFrames base outer
  frf : ∀ b ∈ frs outer, H b = none
  hok : HOk P w H s.heap
  bare : AllBare s.gens
def CE (outer : List Env) (P : Program) (w : World) (H : Hp) (s : Shared) (Q : VK) (u : Value) (s' : Shared) : Prop :=
  ∃ v H', s'.os = s.os ∧ AllBare s'.gens ∧ Un (frs outer) [] H H' s.heap s'.heap ∧ HOk P w H' s'.heap ∧ RelV v u ∧ Q v H'
def CR (CX : CXT) (outer : List Env) (P : Program) (w : World) (H : Hp) (s : Shared) (Q : VK) (E : XK) (r : Result) (s' : Shared) : Prop :=
  match r with
  | .ok (.ret u) => CE outer P w H s Q u s'
  | .ok _ => False
  | .error e => CX outer H s E e s'
structure FnOk (P : Program) (w : World) (K : PySem.W.Frag) (mg : Str → Option Value) (base : Heap) (CX : CXT) (k : Nat) (f : Addr) (fd : FuncData) (ps : List Str) (sp : Sp) : Prop where
  len : ∀ vs H Q E, sp vs H Q E → vs.length = ps.length
  run : ∀ (A : Around) (outer : List Env) (s : Shared) (H : Hp) (args : Args) (us : List Value) (vs : List V) (Q : VK) (E : XK), Room k A → Env0 P w K mg base A outer s H → BindsTo s fd args (ps.zip us) → Vals vs us → sp vs H Q E →
    codeAny (model P w) A (.call (.ref f) args) (CR CX outer P w H s Q E) s
theorem FnOk.mono {P : Program} {w : World} {K : PySem.W.Frag} {mg : Str → Option Value} {base : Heap} {CX : CXT} {j k : Nat} {f : Addr} {fd : FuncData} {ps : List Str} {sp : Sp} (F : FnOk P w K mg base CX j f fd ps sp) (h : j ≤ k) :
    FnOk P w K mg base CX k f fd ps sp := ⟨F.len, fun A outer s H args us vs Q E hr => F.run A outer s H args us vs Q E (hr.mono h)⟩
theorem FnOk.imp {P : Program} {w : World} {K : PySem.W.Frag} {mg : Str → Option Value} {base : Heap} {CX : CXT} {k : Nat} {f : Addr} {fd : FuncData} {ps : List Str} {sp sp' : Sp} (F : FnOk P w K mg base CX k f fd ps sp)
    (h : ∀ vs H Q E, sp' vs H Q E → sp vs H Q E) : FnOk P w K mg base CX k f fd ps sp' :=
  ⟨fun vs H Q E q => F.len vs H Q E (h _ _ _ _ q), fun A outer s H args us vs Q E hr he hb hv hs => F.run A outer s H args us vs Q E hr he hb hv (h _ _ _ _ hs)⟩

theorem Env0.make {P : Program} {w : World} {K : PySem.W.Frag} {mg : Str → Option Value} {base : Heap} {A : Around} {outer : List Env} {s : Shared} {H : Hp} (e : Env0 P w K mg base A outer s H) (C : Addr) (us : List Value) (kw : List (Str × Value)) :
    Env0 P w K mg base (A.under (.builtin "type.__call__" ⟨.ref C :: us, kw⟩)) outer s H := ⟨by first | exact e.frames | (simpa [Around.under, Code.envs, Code.isFrame, pushEnvs] using e.frames), e.mod, e.bs, e.bsz, e.funs, e.frf, e.hok, e.bare⟩
theorem Env0.in1 {P : Program} {w : World} {K : PySem.W.Frag} {mg : Str → Option Value} {base : Heap} {A : Around} {outer : List Env} {s : Shared} {H : Hp} (e : Env0 P w K mg base A outer s H) :
    Env0 P w K mg base A.in1 outer s H := ⟨e.frames, e.mod, e.bs, e.bsz, e.funs, e.frf, e.hok, e.bare⟩

section
variable {X : Cx} {pins : List (Addr × Obj)} {σ : St} {H : Hp} {s s' : Shared}
theorem Inv.env0 (I : Inv X pins σ H s) : Env0 X.prog X.w X.K X.mg X.base X.A X.stack s H :=
  ⟨I.ok.frames, I.ok.mod, I.bs, Nat.le_trans I.ok.bsz I.sz, I.stack, I.stkFree, I.hok, I.bare⟩
theorem Inv.after {Q : VK} {u : Value} (I : Inv X pins σ H s) (h : CE X.stack X.prog X.w H s Q u s') : EP X pins σ Q u s' := by
  obtain ⟨v, H', os, bare, un, hok, r, q⟩ := h
  obtain ⟨hh, g, d, t, os'⟩ := s'
  obtain rfl : os' = s.os := os
  exact ⟨v, H', I.call (h' := hh) (g' := g) (d' := d) (t' := t) (ch := []) un hok bare (fun b z => absurd z (by simp)), r, q⟩
end

/-! ### calls -/
def tCall (sp : Sp) (dvs : List V) (E : XK) (t : TA) : TE := fun σ H Q => t σ H fun vs H1 => sp (vs ++ dvs) H1 Q E
def tMeth (C : Addr) (m : Str) (sp : Sp) (dvs : List V) (E : XK) (ta : TE) (t : TA) : TE := fun σ H Q => ta σ H fun x H1 => ∃ a dx fs, x = .ref a ∧ H1 a = some (.ins C dx fs) ∧ fs.lookup m = none ∧
  t σ H1 fun vs H2 => sp (x :: (vs ++ dvs)) H2 Q E
def Binds (K : PySem.W.Frag) (fd : FuncData) (ps : List Str) (ds : List Value) : Prop :=
  ∀ (s : Shared) (us : List Value), K.In s.heap → (us ++ ds).length = ps.length → BindsTo s fd ⟨us, []⟩ (ps.zip (us ++ ds))
theorem Binds.all {K : PySem.W.Frag} {fd : FuncData} {ps : List Str} (h : ∀ us : List Value, us.length = ps.length → bindArgs fd ⟨us, []⟩ = pure (ps.zip us)) : Binds K fd ps [] := fun s us _ hl => by
  rw [List.append_nil] at hl ⊢
  exact .of_eq (h us hl)

def Passes (CX : CXT) (X : Cx) (E : XK) : Prop := ∀ (pins : List (Addr × Obj)) (σ : St) (H : Hp) (s : Shared) (e : Value) (s' : Shared), Inv X pins σ H s → CX X.stack H s E e s' → X.xe e s'

section
variable {X : Cx} {CX : CXT} {k : Nat} {f C : Addr} {fd : FuncData} {ps : List Str} {sp : Sp} {dvs : List V} {ds : List Value} {E : XK} {x m : Str} {p pos apos : Pos} {e o : Expr} {es : List Expr} {ta : TE} {t : TA}

theorem run_fn {pins : List (Addr × Obj)} {σ : St} {H : Hp} {s : Shared} {Q : VK} {us : List Value} {vs : List V} (F : FnOk X.prog X.w X.K X.mg X.base CX k f fd ps sp) (hr : Room k X.A) (hb : Binds X.K fd ps ds) (hd : Vals dvs ds) (hx : Passes CX X E)
    (I : Inv X pins σ H s) (r : Vals vs us) (h : sp (vs ++ dvs) H Q E) : wpAny (model X.prog X.w) X.A (call (.ref f) us) (EP X pins σ Q) X.xe s := by
  have r2 : Vals (vs ++ dvs) (us ++ ds) := r.append hd
  have hl : (us ++ ds).length = ps.length := by rw [← r2.length]; exact F.len _ _ _ _ h
  refine wpAny_call (codeAny_mono (F.run X.A X.stack s H ⟨us, []⟩ (us ++ ds) (vs ++ dvs) Q E hr I.env0 (hb s us I.kIn hl) r2 h) fun r s' hq => ?_)
  cases r with
  | error e => exact hx pins σ H s e s' I hq
  | ok fl =>
    cases fl with
    | ret u => exact I.after hq
    | next => exact False.elim hq
    | brk => exact False.elim hq
    | cont => exact False.elim hq

theorem pe_call (F : FnOk X.prog X.w X.K X.mg X.base CX k f fd ps sp) (hr : Room k X.A) (hg : Gl X x) (hm : X.mg x = some (.ref f)) (hk : PySem.W.keepIn X.K (.ref f) = true) (hb : Binds X.K fd ps ds) (hd : Vals dvs ds) (hx : Passes CX X E)
    (ha : PA X (e :: es) t) (hdb : (x == ("__debug__" : Str)) = false := by decide) (he : starEach (e :: es) X.env = (false, eval e X.env) :: starEach es X.env := by rfl) (hpl : (backTo pos (starEach es X.env)).any (·.1) = false := by rfl) :
    PE X (.Call (.Name x p) (e :: es) [] pos) (tCall sp dvs E t) := by
  intro pins s σ H Q I h
  refine wpAny_Call_Name_kw (ld_glob I hg hm ?_ hdb)
  refine PySem.W.callWith_K (h₀ := X.base) I.ok.mod.kin hk (thn (ha pos pins s σ H _ I h) fun us s1 ⟨vs, H1, I1, r, q⟩ => ⟨I1.kIn, ?_⟩) he hpl
  exact run_fn F hr hb hd hx I1 r q
theorem pe_meth {pl : Sem Bool} (he : PE X o ta) (c : Cls X.K C) (hm : Meth X.K C m f) (F : FnOk X.prog X.w X.K X.mg X.base CX k f fd ps sp) (hr : Room k X.A) (hb : Binds X.K fd ps ds) (hd : Vals dvs ds) (hx : Passes CX X E) (ha : PA X (e :: es) t)
    (hst : starEach (e :: es) X.env = (false, eval e X.env) :: starEach es X.env := by rfl) (hpl : (backTo pos (starEach es X.env)).any (·.1) = false := by rfl)
    (ht : eval (.Call (.Attribute o m apos) (e :: es) [] pos) X.env = (do
      let ov ← eval o X.env
      standAt apos.atName
      let (f, first) ← holding [ov] (getMethod ov m pl)
      callWith pos f first (backTo pos (starEach (e :: es) X.env)) (backToKw pos (keywordEach [] X.env))) := by rfl) :
    PE X (.Call (.Attribute o m apos) (e :: es) [] pos) (tMeth C m sp dvs E ta t) := by
  intro pins s σ H Q I h
  refine PySem.W.methodCall_KW (pl := pl) (thn (he pins s σ H _ I h) fun u s1 ⟨x, H1, I1, rx, a, dx, fs, ex, ea, l, q⟩ => ?_) ht
  subst ex
  obtain rfl : u = Value.ref a := rx
  refine getmeth_ok I1 ea c hm l ?_
  refine PySem.W.callWith_K (first := [.ref a]) (h₀ := X.base) I.ok.mod.kin hm.kp (thn (ha pos pins s1 σ H1 _ I1 q) fun us s2 ⟨vs, H2, I2, r, q2⟩ => ⟨I2.kIn, ?_⟩) hst hpl
  exact run_fn (us := .ref a :: us) (vs := .ref a :: vs) F hr hb hd hx I2 (.cons rfl r) q2
theorem pe_meth0 {pl : Sem Bool} (he : PE X o ta) (c : Cls X.K C) (hm : Meth X.K C m f) (F : FnOk X.prog X.w X.K X.mg X.base CX k f fd ps sp) (hr : Room k X.A) (hb : Binds X.K fd ps ds) (hd : Vals dvs ds) (hx : Passes CX X E)
    (ht : eval (.Call (.Attribute o m apos) [] [] pos) X.env = (do
      let ov ← eval o X.env
      standAt apos.atName
      let (f, first) ← holding [ov] (getMethod ov m pl)
      callWith pos f first (backTo pos (starEach [] X.env)) (backToKw pos (keywordEach [] X.env))) := by rfl) :
    PE X (.Call (.Attribute o m apos) [] [] pos) (tMeth C m sp dvs E ta tNil) := by
  intro pins s σ H Q I h
  refine PySem.W.methodCall_KW (pl := pl) (thn (he pins s σ H _ I h) fun u s1 ⟨x, H1, I1, rx, a, dx, fs, ex, ea, l, q⟩ => ?_) ht
  subst ex
  obtain rfl : u = Value.ref a := rx
  refine getmeth_ok I1 ea c hm l ?_
  exact PySem.W.callWith_K0 (first := [.ref a]) I1.kIn hm.kp (run_fn (us := [.ref a]) (vs := [.ref a]) F hr hb hd hx I1 (.cons rfl .nil) q)

structure Mk (K : PySem.W.Frag) (C f : Addr) : Prop where
  makes : PySem.W.makesIn K C = true
  init : PySem.W.findIn K (.ref C) "__init__" = some (some (.ref f))
  fn : PySem.W.isFn K (.ref f) = true
  kp : PySem.W.keepIn K (.ref C) = true

theorem run_make {pins : List (Addr × Obj)} {σ : St} {H : Hp} {s : Shared} {Q : VK} {us : List Value} {vs : List V} (M : Mk X.K C f) (F : FnOk X.prog X.w X.K X.mg X.base CX k f fd ps sp) (hr : Room (k + 1) X.A) (hb : Binds X.K fd ps ds) (hd : Vals dvs ds)
    (hx : Passes CX X E) (I : Inv X pins σ H s) (r : Vals vs us)
    (h : ∀ x dx, H x = none → H dx = none → dx ≠ x → sp (.ref x :: (vs ++ dvs)) (upd (upd H dx (.own x)) x (.ins C dx [])) (fun v H2 => v = .non ∧ Q (.ref x) H2) E) :
    wpAny (model X.prog X.w) X.A (call (.ref C) us) (EP X pins σ Q) X.xe s := by
  have hq := h (s.heap.objs.size + 1) s.heap.objs.size (I.hok.fresh (Nat.le_succ _)) (I.hok.fresh (Nat.le_refl _)) (Nat.ne_of_lt (Nat.lt_succ_self _))
  have I2 := Inv.made (C := C) I
  have r2 : Vals (V.ref (s.heap.objs.size + 1) :: (vs ++ dvs)) (Value.ref (s.heap.objs.size + 1) :: (us ++ ds)) := .cons rfl (r.append hd)
  have hl : (Value.ref (s.heap.objs.size + 1) :: us ++ ds).length = ps.length := by
    have e := r2.length
    rw [F.len _ _ _ _ hq] at e
    exact e.symm
  refine wpAny_call (make_map (f := f) I.kIn M.makes M.init (beq_iff_eq.mp M.fn) (codeAny_mono (F.run _ X.stack _ _ ⟨Value.ref (s.heap.objs.size + 1) :: us, []⟩ (Value.ref (s.heap.objs.size + 1) :: (us ++ ds)) _ _ E (hr.make C us [])
    (I2.env0.make C us []) (hb _ (Value.ref (s.heap.objs.size + 1) :: us) I2.kIn hl) r2 hq) fun r s' hq' => ?_))
  cases r with
  | error e => exact hx pins σ _ _ e s' I2 hq'
  | ok fl =>
    cases fl with
    | ret u =>
      obtain ⟨v, H', I3, rv, ev, q3⟩ := I2.after hq'
      subst ev
      exact ⟨rv, ⟨V.ref (s.heap.objs.size + 1), H', I3, rfl, q3⟩⟩
    | next => exact False.elim hq'
    | brk => exact False.elim hq'
    | cont => exact False.elim hq'
end

/-! ### keywords -/
section
variable {X : Cx} {CX : CXT} {k : Nat} {f C : Addr} {fd : FuncData} {ps ks : List Str} {sp : Sp} {E : XK} {x m : Str} {p pos apos kpos : Pos} {e o : Expr} {es : List Expr} {kws : List Keyword} {te ta : TE} {t tk : TA} {nm : Option Str}
structure KBinds (K : PySem.W.Frag) (fd : FuncData) (ps ks : List Str) (g : List Value → List Value → List Value) (gV : List V → List V → List V) : Prop where
  to : ∀ (s : Shared) (us ws : List Value), K.In s.heap → (g us ws).length = ps.length → BindsTo s fd ⟨us, ks.zip ws⟩ (ps.zip (g us ws))
  rel : ∀ {vs : List V} {us : List Value} {zs : List V} {ws : List Value}, Vals vs us → Vals zs ws → Vals (gV vs zs) (g us ws)
variable {g : List Value → List Value → List Value} {gV : List V → List V → List V}
end

/-! ### a def's body keeps its promise -/
structure FnScope (N P : List Str) (sc : Scope) : Prop where
  kind : sc.kind = .function
  co : sc.isCoroutine = false
  gen : sc.isGenerator = false
  nd : N.Nodup
  pre : N.take P.length = P
  par : ∀ x ∈ P, sc.names.lookup x = some .local ∨ sc.names.lookup x = some .cell
  nofree : ∀ y ∈ sc.names, y.2 ≠ .free

theorem bindL_out {kindOf : Str → Option NameKind} {x : Str} : ∀ {binds : List (Str × Value)} {m : Str → Option Value}, (∀ v, (x, v) ∉ binds) → bindL kindOf binds m x = m x
  | [], _, _ => rfl
  | (n, v) :: r, m, h => by
    unfold bindL
    rw [bindL_out fun w hw => h w (List.mem_cons_of_mem _ hw)]
    split
    · have : x ≠ n := by rintro rfl; exact h v List.mem_cons_self
      simp [this]
    · rfl
theorem bindC_out {kindOf : Str → Option NameKind} {x : Str} : ∀ {binds : List (Str × Value)} {m : Str → Option Value}, (∀ v, (x, v) ∉ binds) → bindC kindOf binds m x = m x
  | [], _, _ => rfl
  | (n, v) :: r, m, h => by
    unfold bindC
    rw [bindC_out fun w hw => h w (List.mem_cons_of_mem _ hw)]
    split
    · rfl
    · have : x ≠ n := by rintro rfl; exact h v List.mem_cons_self
      simp [this]
theorem bindL_get {kindOf : Str → Option NameKind} {x : Str} {v : Value} : ∀ {P : List Str} {vs : List Value} {i : Nat} {m : Str → Option Value}, P.Nodup → P[i]? = some x → vs[i]? = some v → kindOf x = some .local →
    bindL kindOf (P.zip vs) m x = some v
  | [], _, _, _, _, h, _, _ => by simp at h
  | _ :: _, [], _, _, _, _, h, _ => by simp at h
  | p :: P, w :: vs, 0, m, nd, h1, h2, hk => by
    simp at h1 h2; subst h1; subst h2
    show bindL kindOf ((p, w) :: P.zip vs) m p = _
    unfold bindL
    rw [bindL_out fun v hv => (List.nodup_cons.mp nd).1 (List.of_mem_zip hv).1, if_pos hk]
    simp
  | p :: P, w :: vs, i + 1, m, nd, h1, h2, hk => by
    show bindL kindOf ((p, w) :: P.zip vs) m x = _
    unfold bindL
    exact bindL_get (i := i) (List.nodup_cons.mp nd).2 (by simpa using h1) (by simpa using h2) hk
theorem bindC_get {kindOf : Str → Option NameKind} {x : Str} {v : Value} : ∀ {P : List Str} {vs : List Value} {i : Nat} {m : Str → Option Value}, P.Nodup → P[i]? = some x → vs[i]? = some v → kindOf x ≠ some .local →
    bindC kindOf (P.zip vs) m x = some v
  | [], _, _, _, _, h, _, _ => by simp at h
  | _ :: _, [], _, _, _, _, h, _ => by simp at h
  | p :: P, w :: vs, 0, m, nd, h1, h2, hk => by
    simp at h1 h2; subst h1; subst h2
    show bindC kindOf ((p, w) :: P.zip vs) m p = _
    unfold bindC
    rw [bindC_out fun v hv => (List.nodup_cons.mp nd).1 (List.of_mem_zip hv).1, if_neg hk]
    simp
  | p :: P, w :: vs, i + 1, m, nd, h1, h2, hk => by
    show bindC kindOf ((p, w) :: P.zip vs) m x = _
    unfold bindC
    exact bindC_get (i := i) (List.nodup_cons.mp nd).2 (by simpa using h1) (by simpa using h2) hk

def start (N : List Str) (vs : List V) : St := vs.map some ++ List.replicate (N.length - vs.length) none

def cxOf (CX : CXT) (P : Program) (w : World) (K : PySem.W.Frag) (mg : Str → Option Value) (base : Heap) (N : List Str) (qual : Str) (scope : Scope) (f : Addr) (cd : Value) (A : Around) (outer : List Env) (s : Shared) (H : Hp) (E : XK) : Cx where
  prog := P
  w := w
  K := K
  mg := mg
  base := base
  A := A.deeper (envOfC qual scope s.heap.objs.size f cd)
  N := N
  s₀ := s
  H₀ := H
  env := envOfC qual scope s.heap.objs.size f cd
  outer := outer
  stack := envOfC qual scope s.heap.objs.size f cd :: outer
  ex := []
  calm := true
  fn := fun _ => true
  pn := []
  xe := fun e s' => wpAny (model P w) (A.deeper (envOfC qual scope s.heap.objs.size f cd)) (leaving (envOfC qual scope s.heap.objs.size f cd) e) (fun _ s'' => CX outer H s E e s'') (fun e' s'' => CX outer H s E e' s'') s'

theorem cell_has {sc : Scope} {n : Nat} {x : Str} (h : sc.names.lookup x = some .cell) : ∃ c, (cellsFrom n sc.names []).lookup x = some c := by
  have q := PySem.W.cellsFrom_some sc.names n [] (.inl h)
  exact Option.isSome_iff_exists.mp q

theorem inv_start {CX : CXT} {P : Program} {w : World} {K : PySem.W.Frag} {mg : Str → Option Value} {base : Heap} {N ps : List Str} {qual : Str} {scope : Scope} {f : Addr} {cd : Value} {A : Around} {outer : List Env} {s s1 : Shared} {H : Hp} {E : XK} {us : List Value} {vs : List V}
    (S : FnScope N ps scope) (hd : A.handled = none) (e0 : Env0 P w K mg base A outer s H) (hl : vs.length = ps.length) (r : Vals vs us)
    (x : InCallC s s.heap.objs.size (bindL (envOfC qual scope s.heap.objs.size f cd).kindOf (ps.zip us) fun _ => none) (cellsFrom (s.heap.objs.size + 1) scope.names []) (bindC (envOfC qual scope s.heap.objs.size f cd).kindOf (ps.zip us) fun _ => none) s1) :
    Inv (cxOf CX P w K mg base N qual scope f cd A outer s H E) [] (start N vs) H s1 := by
  have hpl : ps.length ≤ N.length := by have := congrArg List.length S.pre; rw [List.length_take] at this; omega
  obtain ⟨h1, tk, rfl, hk⟩ := x.done
  have noA : ∀ b : Addr, b ∉ (cxOf CX P w K mg base N qual scope f cd A outer s H E).ex := fun b z => absurd (show b ∈ ([] : List Addr) from z) (by simp)
  refine ⟨⟨e0.mod, S.kind, rfl, rfl, Nat.le_refl _, fun y z c h1 h2 => ?_, fun y hy => ?_, fun y c _ h => ?_, fun _ => hd, Around.frames_deeper e0.frames, .inr ⟨rfl, rfl⟩, fun b z => absurd z (noA b), e0.bs, e0.bsz, fun b _ _ => noA b, fun b z => absurd z (noA b), e0.funs, e0.frf⟩,
    rfl, e0.bare, Un.kept hk, ⟨_, x.toInCall.ns, fun i y v h1 h2 h3 => ?_⟩, fun y c h => ⟨_, x.cell y c h⟩, e0.hok.fresh (Nat.le_refl _), fun y c h => ?_, fun p hp => absurd (show p ∈ ([] : List (Addr × Obj)) from hp) (by simp), e0.hok.kept hk, ?_⟩
  · exact name_of_addr x.apart (PySem.mem_of_lookup h1) (PySem.mem_of_lookup h2)
  · have hy : scope.names.lookup y = some .cell ∨ scope.names.lookup y = some .free := hy
    rcases hy with hy | hy
    · exact cell_has hy
    · exact absurd rfl (S.nofree _ (PySem.mem_of_lookup hy))
  · exact Nat.le_of_lt (x.above y c (PySem.mem_of_lookup h))
  · have hi : i < vs.length := by
      unfold start at h2
      by_cases hi : i < vs.length
      · exact hi
      · rw [List.getElem?_append_right (by simpa using hi)] at h2
        rw [List.getElem?_replicate] at h2
        split at h2 <;> cases h2
    have ha : vs[i]? = some v := by
      unfold start at h2
      rw [List.getElem?_append_left (by simpa using hi), List.getElem?_map] at h2
      cases e : vs[i]? with
      | none => rw [e] at h2; cases h2
      | some a => rw [e] at h2; cases h2; rfl
    obtain ⟨u, hu, rv⟩ := r.get ha
    have hp : ps[i]? = some y := by
      rw [← S.pre, List.getElem?_take_of_lt (by omega)]; exact h1
    have ndP : ps.Nodup := by rw [← S.pre]; exact S.nd.sublist (List.take_sublist _ _)
    refine ⟨u, rv, ?_⟩
    rcases S.par y (List.mem_of_getElem? hp) with k | k
    · exact .inl ⟨k, bindL_get ndP hp hu k⟩
    · obtain ⟨c, e⟩ := cell_has (n := s.heap.objs.size + 1) k
      refine .inr ⟨.inl k, c, e, ?_⟩
      have q := x.cell y c e
      rw [bindC_get ndP hp hu (by show scope.names.lookup y ≠ _; rw [k]; decide)] at q
      exact q
  · exact e0.hok.fresh (Nat.le_of_lt (x.above y c (PySem.mem_of_lookup h)))
  · unfold start
    show _ = N.length
    rw [List.length_append, List.length_map, List.length_replicate]
    omega

theorem fn_of {CX : CXT} {P : Program} {w : World} {K : PySem.W.Frag} {mg : Str → Option Value} {base : Heap} {k : Nat} {f : Addr} {name qual : Str} {params : Arguments} {body : List Stmt} {scope : Scope} {dV kV doc pm cdv ct oc : Value} {an od : Option Addr}
    {osl : Array (Option Value)} {N ps : List Str} {sp : Sp} (lk : K.lookup f = some ⟨oc, od, .func (PySem.W.fnOf name qual params body scope dV kV doc pm an cdv ct), osl⟩) (hcd : PySem.W.codeIn K cdv qual = true) (S : FnScope N ps scope)
    (len : ∀ vs H Q E, sp vs H Q E → vs.length = ps.length)
    (hbody : ∀ (A : Around) (outer : List Env) (s : Shared) (H : Hp) (vs : List V) (Q : VK) (E : XK), Room k (A.deeper (envOfC qual scope s.heap.objs.size f cdv)) → sp vs H Q E →
      ∃ t, PSs (cxOf CX P w K mg base N qual scope f cdv A outer s H E) body t ∧ t { nx := fun _ H' => Q .non H', rt := Q } (start N vs) H) :
    FnOk P w K mg base CX (k + 1) f (PySem.W.fnOf name qual params body scope dV kV doc pm an cdv ct) ps sp := by
  refine ⟨len, fun A outer s H args us vs Q E hr e0 hb r hsp => ?_⟩
  have hl := len _ _ _ _ hsp
  have KX : K.In s.heap := e0.mod.kin.keeps fun b o e => (e0.bs b o e).1
  have lim : s.heap.NoLimit := e0.mod.nolimit.keeps fun b o e => (e0.bs b o e).1
  have hkind : ∀ y ∈ ps.zip us, scope.names.lookup y.1 = some .local ∨ (scope.names.lookup y.1 = some .cell ∧ ((cellsFrom (s.heap.objs.size + 1) scope.names []).lookup y.1).isSome = true) := fun ⟨n, v⟩ hy => by
    rcases S.par n (List.of_mem_zip hy).1 with q | q
    · exact .inl q
    · exact .inr ⟨q, PySem.W.cellsFrom_some _ _ _ (.inl q)⟩
  refine codeAny_call_function hr.depth (KX _ _ lk) rfl S.co S.gen rfl (PySem.W.codeRec_of KX hcd) (hb _ _ _ _ ?_)
  refine wpAny_newFunctionEnv_cells S.kind hkind fun env he s1 x => ?_
  subst he
  refine ⟨lim.keeps x.toInCall.keep, codeAny_func ?_⟩
  obtain ⟨t, ht, hq⟩ := hbody A outer s H vs Q E (hr.deeper _) hsp
  have I : Inv (cxOf CX P w K mg base N qual scope f cdv A outer s H E) [] (start N vs) H s1 := inv_start S hr.hd e0 hl r x
  refine wpAny_mono (ht [] s1 (start N vs) H _ I hq) (fun fl s' hs => ?_) fun e s' hs => hs
  have fin : ∀ {σ' : St} {H' : Hp} {v : V} {u : Value}, Inv (cxOf CX P w K mg base N qual scope f cdv A outer s H E) [] σ' H' s' → RelV v u → Q v H' → CE outer P w H s Q u s' :=
    fun {σ' H' v u} J rv q => ⟨v, H', J.os, J.bare, J.base, J.hok, rv, q⟩
  cases fl with
  | ret u =>
    obtain ⟨v, σ', H', J, rv, q⟩ := hs
    exact fin J rv q
  | next =>
    obtain ⟨σ', H', J, q⟩ := hs
    exact fin (v := V.non) (u := Value.none) J rfl q
  | brk =>
    obtain ⟨_, _, _, q⟩ := hs
    exact False.elim q
  | cont =>
    obtain ⟨_, _, _, q⟩ := hs
    exact False.elim q
end L2

namespace L2
open PySem PySem.Spec PyProof.Rows
section
variable {X : Cx} {x : Str} {p pos : Pos} {e : Expr} {es : List Expr} {t : TA} {id T : String} {r : List V → Hp → VK → Prop}

def tCB (r : List V → Hp → VK → Prop) (t : TA) : TE := fun σ H Q => t σ H fun vs H1 => r vs H1 Q
theorem pe_callB (hc : CallR X (.builtin id) r) (hg : Gl X x) (hm : X.mg x = none) (hv : bootBuiltins x = some (.builtin id)) (ha : PA X (e :: es) t) (hn : x ≠ "__name__" := by decide) (hdb : (x == ("__debug__" : Str)) = false := by decide)
    (he : starEach (e :: es) X.env = (false, eval e X.env) :: starEach es X.env := by rfl) (hpl : (backTo pos (starEach es X.env)).any (·.1) = false := by rfl) : PE X (.Call (.Name x p) (e :: es) [] pos) (tCB r t) := by
  intro pins s σ H Q I h
  refine wpAny_Call_Name_kw (ld_blt I hg hm hv ?_ hn hdb)
  exact PyProof.Rows.callWith_builtin1 (thn (ha pos pins s σ H _ I h) fun us s1 ⟨vs, H1, I1, r1, q1⟩ => hc pins s1 σ H1 vs us Q I1 r1 q1) he hpl
theorem pe_callTy (hc : CallR X (.type T) r) (hg : Gl X x) (hm : X.mg x = none) (hv : bootBuiltins x = some (.type T)) (ha : PA X (e :: es) t) (hn : x ≠ "__name__" := by decide) (hdb : (x == ("__debug__" : Str)) = false := by decide)
    (he : starEach (e :: es) X.env = (false, eval e X.env) :: starEach es X.env := by rfl) (hpl : (backTo pos (starEach es X.env)).any (·.1) = false := by rfl) : PE X (.Call (.Name x p) (e :: es) [] pos) (tCB r t) := by
  intro pins s σ H Q I h
  refine wpAny_Call_Name_kw (ld_blt I hg hm hv ?_ hn hdb)
  exact PyProof.Rows.callWith_type1 (thn (ha pos pins s σ H _ I h) fun us s1 ⟨vs, H1, I1, r1, q1⟩ => hc pins s1 σ H1 vs us Q I1 r1 q1) he hpl
end
end L2

namespace HT
open PySem PyProof.Rows

section
open PySem.SeqAt
open PySem.AutoSeq1 (wpAny_loadPart')
open PySem.MeetsSeq PySem.MeetsSeq2 PySem.MeetsSeq3

end

section
variable {prog : Program} {w : World} {A : Around} {E : Value → Shared → Prop} {s : Shared}

/-! ### t[a:b], not the whole -/
def sIx (n d : Nat) : Option Int → Nat
  | none => d
  | some v => if v < 0 then (v + (n : Int)).toNat else min v.toNat n
theorem sIx_le (n d : Nat) (hd : d ≤ n) (o : Option Int) : sIx n d o ≤ n := by
  cases o with
  | none => exact hd
  | some v =>
    show (if v < 0 then (v + (n : Int)).toNat else min v.toNat n) ≤ n
    by_cases hv : v < 0
    · rw [if_pos hv]; omega
    · rw [if_neg hv]; exact Nat.min_le_right _ _
theorem clip_eq (v : Int) (n d : Nat) : (if v < 0 then max (v + (n : Int)) 0 else min v (n : Int)) = ((sIx n d (some v) : Nat) : Int) := by
  show (if v < 0 then max (v + (n : Int)) 0 else min v (n : Int)) = (((if v < 0 then (v + (n : Int)).toNat else min v.toNat n) : Nat) : Int)
  by_cases hv : v < 0
  · simp only [if_pos hv]; omega
  · simp only [if_neg hv]; omega
theorem adjust_gen (lo hi : Option Int) (n : Nat) : Builtin.Slice.sliceAdjust lo hi 1 (n : Int) = (((sIx n 0 lo : Nat) : Int), ((sIx n n hi : Nat) : Int)) := by
  have h1 : ¬ ((1 : Int) < 0) := by omega
  unfold Builtin.Slice.sliceAdjust
  simp only [h1, if_false]
  refine Prod.ext ?_ ?_
  · cases lo with
    | none => rfl
    | some v => exact clip_eq v n 0
  · cases hi with
    | none => rfl
    | some v => exact clip_eq v n n
theorem places_gen (i j : Nat) : Builtin.Slice.slicePlaces (i : Int) (j : Int) 1 = j - i := by
  unfold Builtin.Slice.slicePlaces
  have h1 : (1 : Int) > 0 := by omega
  simp only [h1, if_true, Int.ediv_one]
  split <;> omega
theorem slicePart_ {v : Value} {o : Option Int} {Q : Option Int → Shared → Prop} (p : IsPart v o) (h : Q o s) : wpAny (model prog w) A (Builtin.Slice.slicePartIndex v) Q E s := by
  cases p with
  | none => exact slicePart_none h
  | int i t => exact slicePart_int h
theorem sliceApplied_gen {sl : Addr} {vl vu : Value} {lo hi : Option Int} {n : Nat} {Q : Int × Int × Nat → Shared → Prop} (hs : s.heap.IsSliceOf sl vl vu .none) (pl : IsPart vl lo) (pu : IsPart vu hi)
    (h : Q (((sIx n 0 lo : Nat) : Int), 1, sIx n n hi - sIx n 0 lo) s) : wpAny (model prog w) A (Builtin.Slice.sliceApplied (.ref sl) (pure (n : Int))) Q E s := by
  obtain ⟨os, hos, hcs, hds⟩ := id hs
  unfold Builtin.Slice.sliceApplied Builtin.Slice.sliceFields
  refine wpAny_bind (wpAny_bind (wpAny_field hos hds (x := vl) rfl (wpAny_bind (wpAny_field hos hds (x := vu) rfl (wpAny_bind (wpAny_field hos hds (x := .none) rfl (wpAny_pure ?_)))))))
  refine wpAny_bind (slicePart_none ?_)
  show wpAny _ _ (if ((1 : Int) == 0) = true then _ else _) _ _ s
  rw [if_neg (by decide)]
  refine wpAny_bind (slicePart_ pl (wpAny_bind (slicePart_ pu (wpAny_bind (wpAny_pure ?_)))))
  show wpAny _ _ (match Builtin.Slice.sliceAdjust lo hi 1 (n : Int) with | (lo, hi) => pure (lo, (1 : Int), Builtin.Slice.slicePlaces lo hi 1)) _ _ s
  rw [adjust_gen lo hi n]
  show wpAny _ _ (pure (((sIx n 0 lo : Nat) : Int), (1 : Int), Builtin.Slice.slicePlaces ((sIx n 0 lo : Nat) : Int) ((sIx n n hi : Nat) : Int) 1)) _ _ s
  rw [places_gen]
  exact wpAny_pure h
theorem pick_gen (xs : Array Value) (i k : Nat) : ((List.range k).filterMap fun (m : Nat) => xs[((i : Int) + (m : Int) * 1).toNat]?).toArray = ((xs.toList.drop i).take k).toArray := by
  have e : (fun (m : Nat) => xs[((i : Int) + (m : Int) * 1).toNat]?) = fun m => xs[i + m]? := by
    funext m
    have : ((i : Int) + (m : Int) * 1).toNat = i + m := by omega
    rw [this]
  rw [e]
  have := pick_run xs i k
  rw [List.filterMap_map] at this
  have e2 : ((fun x => xs[x]?) ∘ fun x => i + x) = fun m => xs[i + m]? := rfl
  rw [e2] at this
  rw [this]

theorem getItem_tuple_cut {t sl : Addr} {items : Array Value} {vl vu : Value} {lo hi : Option Int} {Q : Value → Shared → Prop} (ht : IsTup s.heap t items) (hs : s.heap.IsSliceOf sl vl vu .none) (pl : IsPart vl lo) (pu : IsPart vu hi)
    (hw : ¬ (sIx items.size 0 lo = 0 ∧ sIx items.size items.size hi = items.size))
    (h : Q (.ref s.heap.objs.size) { s with heap := s.heap.push { cls := .type "tuple", data := .seq ((items.toList.drop (sIx items.size 0 lo)).take (sIx items.size items.size hi - sIx items.size 0 lo)).toArray } })
    (hsz : items.size ≤ sizeLine) : wpAny (model prog w) A (getItem (.ref t) (.ref sl)) Q E s := by
  have htake : sizeOk (.seq ((items.toList.drop (sIx items.size 0 lo)).take (sIx items.size items.size hi - sIx items.size 0 lo)).toArray) := by
    show ((items.toList.drop (sIx items.size 0 lo)).take (sIx items.size items.size hi - sIx items.size 0 lo)).toArray.size ≤ sizeLine
    rw [List.size_toArray, List.length_take, List.length_drop, Array.length_toList]
    omega
  have hj : sIx items.size items.size hi ≤ items.size := sIx_le _ _ (Nat.le_refl _) hi
  obtain ⟨os, hos, hcs, hds⟩ := id hs
  have hTs : s.TypeIs (.ref sl) "slice" := ⟨os, hos, hcs⟩
  unfold getItem
  try with_reducible refine wpAny_holding ?_
  first | refine wpAny_bind (wpAny_pure ?_) | skip
  refine wpAny_bind (wpAny_sequenceKey ht.typeIs (by decide) ?_)
  refine wpAny_bind (wpAny_callSpecial?_slot (name := Str.ofString "__getitem__") ht.typeIs PyProof.Rows.slot_tuple_getitem
    (wpAny_call_entry PyProof.Rows.slot_tuple_getitem ht.typeIs entry_tuple_getitem ?_ (args_tuple_getitem _ _)))
  show wpAny _ _ (Builtin.Tuple.tupleItemsOf (.ref t) >>= _) _ _ s
  refine wpAny_bind (tupleItemsOf_ ht ?_)
  refine wpAny_bind (wpAny_typeOf hTs ?_)
  rw [if_pos (by decide)]
  refine wpAny_bind (sliceApplied_gen hs pl pu ?_)
  have hno : ¬ ((((sIx items.size 0 lo : Nat) : Int) == 0 && (1 : Int) == 1 && (sIx items.size items.size hi - sIx items.size 0 lo) == items.size) = true) := by
    intro q
    rw [Bool.and_eq_true, Bool.and_eq_true] at q
    have q1 : ((sIx items.size 0 lo : Nat) : Int) = 0 := eq_of_beq q.1.1
    have q2 : sIx items.size items.size hi - sIx items.size 0 lo = items.size := eq_of_beq q.2
    exact hw ⟨by omega, by omega⟩
  show wpAny _ _ (if (((sIx items.size 0 lo : Nat) : Int) == 0 && (1 : Int) == 1 && (sIx items.size items.size hi - sIx items.size 0 lo) == items.size) = true then _ else _) _ _ s
  rw [if_neg hno, pick_gen]
  first
    | exact wpAny_bind (m := Builtin.Tuple.tupleExact _) (wpAny_newObj_type (wpAny_pure ⟨_, rfl, wpAny_pure h⟩) htake)
    | exact wpAny_bind (m := Builtin.Tuple.tupleExact _) (wpAny_newObj_type (wpAny_bind (wpAny_pure (wpAny_pure ⟨_, rfl, wpAny_pure h⟩))) htake)
    | exact wpAny_bind (wpAny_bind (m := Builtin.Tuple.tupleExact _) (wpAny_newObj_type (wpAny_pure (wpAny_pure ⟨_, rfl, wpAny_pure h⟩)) htake))
    | exact wpAny_bind (wpAny_bind (m := Builtin.Tuple.tupleExact _) (wpAny_newObj_type (wpAny_pure ⟨_, rfl, wpAny_pure h⟩) htake))
end
end HT

namespace L2
open PySem PySem.Spec PyProof.Rows

/-! ### the parts of a slice -/
abbrev TO := St → Hp → (Option Int → Hp → Prop) → Prop
def PO (X : Cx) (e : Option Expr) (t : TO) : Prop :=
  ∀ (pins : List (Addr × Obj)) (s : Shared) (σ : St) (H : Hp) (Q : Option Int → Hp → Prop), Inv X pins σ H s → t σ H Q →
    wpAny (model X.prog X.w) X.A (evalPart e X.env) (fun u s' => ∃ o H', Inv X pins σ H' s' ∧ IsPart u o ∧ Q o H') X.xe s
def tNoPart : TO := fun _ H Q => Q none H
def tPart (t : TE) : TO := fun σ H Q => t σ H fun x H1 => ∃ i, x = .int i ∧ Q (some i) H1

section
variable {X : Cx} {e : Expr} {te : TE} {lo hi : Option Expr} {tl th : TO} {pos p2 : Pos}

theorem po_none : PO X none tNoPart := by
  intro pins s σ H Q I h
  rw [evalPart_none]
  exact wpAny_pure ⟨none, H, I, .none, h⟩
theorem po_some (h : PE X e te) : PO X (some e) (tPart te) := by
  intro pins s σ H Q I hw
  rw [evalPart_some]
  refine thn (h pins s σ H _ I hw) fun u s1 ⟨x, H1, I1, r1, q1⟩ => ?_
  obtain ⟨i, rfl, q⟩ := q1
  obtain ⟨t, rfl⟩ := r1
  exact ⟨some i, H1, I1, .int i t, q⟩

def SlR (X : Cx) (r : V → Option Int → Option Int → Hp → VK → Prop) : Prop :=
  ∀ (pins : List (Addr × Obj)) (s : Shared) (σ : St) (H : Hp) (x : V) (v vl vu : Value) (lo hi : Option Int) (sl : Addr) (Q : VK), Inv X pins σ H s → RelV x v → s.heap.IsSliceOf sl vl vu .none → IsPart vl lo → IsPart vu hi → r x lo hi H Q →
    ∃ T id, typeLookup (.type T) "__getitem__" = pure (some (.builtin id)) ∧ s.TypeIs v T ∧ wpAny (model X.prog X.w) X.A (getItem v (.ref sl)) (EP X pins σ Q) X.xe s
def tSl (r : V → Option Int → Option Int → Hp → VK → Prop) (te : TE) (tl th : TO) : TE := fun σ H Q => te σ H fun x H1 => tl σ H1 fun l H2 => th σ H2 fun u H3 => r x l u H3 Q
theorem pe_slice {r : V → Option Int → Option Int → Hp → VK → Prop} (hr : SlR X r) (he : PE X e te) (hl : PO X lo tl) (hu : PO X hi th) : PE X (.Subscript e (.Slice lo hi none p2) pos) (tSl r te tl th) := by
  intro pins s σ H Q I h
  refine Subscript_ (thn (he pins s σ H _ I h) fun v s1 ⟨x, H1, I1, r1, q1⟩ => ?_)
  refine wpAny_Slice (thn (hl pins s1 σ H1 _ I1 q1) fun vl s2 ⟨l, H2, I2, pl, q2⟩ => thn (hu pins s2 σ H2 _ I2 q2) fun vu s3 ⟨u, H3, I3, pu, q3⟩ => ?_)
  rw [evalPart_none]
  refine wpAny_pure ?_
  have I4 : Inv X pins σ H3 { s3 with heap := s3.heap.push { cls := .type "slice", data := .fields #[vl, vu, .none] } } := I3.kept (t' := s3.toks) fun b ob q => Heap.get?_push_of_some _ q
  obtain ⟨T, id, hT, ht, hg⟩ := hr pins { s3 with heap := s3.heap.push { cls := .type "slice", data := .fields #[vl, vu, .none] } } σ H3 x v vl vu l u s3.heap.objs.size Q I4 r1 (Heap.IsSliceOf.new ..) pl pu q3
  show wpAny (model X.prog X.w) X.A (subscriptTail e (.Slice lo hi none p2) v (.ref s3.heap.objs.size)) (EP X pins σ Q) X.xe { s3 with heap := s3.heap.push { cls := .type "slice", data := .fields #[vl, vu, .none] } }
  exact tail_any (ops := [.ref s3.heap.objs.size, v]) ht hT hg (by with_unfolding_all rfl)

def cutV (xs : List V) (lo hi : Option Int) : List V := (xs.drop (HT.sIx xs.length 0 lo)).take (HT.sIx xs.length xs.length hi - HT.sIx xs.length 0 lo)
theorem cutV_length (xs : List V) (lo hi : Option Int) : (cutV xs lo hi).length ≤ xs.length := by
  unfold cutV
  rw [List.length_take, List.length_drop]
  omega
def rSlT (K : PySem.W.Frag) : V → Option Int → Option Int → Hp → VK → Prop := fun x lo hi H Q => ∃ a xs, x = .ref a ∧ SqT K H a xs ∧
  ¬ (HT.sIx xs.length 0 lo = 0 ∧ HT.sIx xs.length xs.length hi = xs.length) ∧ ∀ p, H p = none → Q (.ref p) (upd H p (.tup (cutV xs lo hi)))
theorem sl_tup : SlR X (rSlT X.K) := by
  intro pins s σ H x v vl vu lo hi sl Q I rx hs pl pu h
  obtain ⟨a, xs, rfl, hx, hw, q⟩ := h
  cases rx
  obtain ⟨its, r, ht, hz⟩ := I.tuple hx
  have hlen : its.toArray.size = xs.length := by rw [List.size_toArray]; exact r.length.symm
  refine ⟨"tuple", _, PyProof.Rows.slot_tuple_getitem.lookup, ht.typeIs, ?_⟩
  refine HT.getItem_tuple_cut ht hs pl pu (by rw [hlen]; exact hw) ?_ (by rw [hlen]; exact hz)
  rw [hlen]
  refine ⟨.ref s.heap.objs.size, _, I.laid (t' := s.toks) (o := .tup (cutV xs lo hi)) (fun b ob q => Heap.get?_push_of_some _ q) (Nat.le_refl _) ?_, rfl, q _ (I.hok.fresh (Nat.le_refl _))⟩
  exact ⟨Nat.le_trans (cutV_length xs lo hi) hz, _, (r.drop (HT.sIx xs.length 0 lo)).take (HT.sIx xs.length xs.length hi - HT.sIx xs.length 0 lo), IsTup.new _ _⟩

/-! ### t < u, t + u -/
end
end L2

namespace L2
open PySem PySem.Spec PyProof.Rows

/-! ### places -/
def ixN (n : Nat) (i : Int) : Option Nat := if 0 ≤ i then (if i < n then some i.toNat else none) else if -(n : Int) ≤ i then some (i + n).toNat else none
def atI {α : Type} (xs : List α) (i : Int) : Option α := (ixN xs.length i).bind fun j => xs[j]?
theorem ixN_seq {n : Nat} {i : Int} {j : Nat} (h : ixN n i = some j) : seqIndex? i n = some j ∧ j < n ∧ -(n : Int) ≤ i ∧ i < n := by
  unfold ixN at h
  by_cases h0 : 0 ≤ i
  · rw [if_pos h0] at h
    by_cases h1 : i < n
    · rw [if_pos h1] at h
      have e : i.toNat = j := Option.some.inj h
      exact ⟨by rw [seqIndex_of h0 h1, e], by omega, by omega, h1⟩
    · rw [if_neg h1] at h; cases h
  · rw [if_neg h0] at h
    by_cases h1 : -(n : Int) ≤ i
    · rw [if_pos h1] at h
      have e : (i + n).toNat = j := Option.some.inj h
      exact ⟨by rw [seqIndex_neg (by omega) h1, e], by omega, h1, by omega⟩
    · rw [if_neg h1] at h; cases h
theorem atI_get {α : Type} {xs : List α} {i : Int} {v : α} (h : atI xs i = some v) : ∃ j, seqIndex? i xs.length = some j ∧ xs[j]? = some v ∧ j < xs.length ∧ -(xs.length : Int) ≤ i ∧ i < xs.length := by
  unfold atI at h
  cases e : ixN xs.length i with
  | none => rw [e] at h; cases h
  | some j =>
    rw [e] at h
    obtain ⟨h1, h2, h3, h4⟩ := ixN_seq e
    exact ⟨j, h1, h, h2, h3, h4⟩
theorem atI_nat {α : Type} {xs : List α} {j : Nat} {v : α} (h : xs[j]? = some v) : atI xs (j : Int) = some v := by
  have hj : j < xs.length := (List.getElem?_eq_some_iff.mp h).1
  have e : ixN xs.length (j : Int) = some j := by
    unfold ixN
    rw [if_pos (by omega), if_pos (by omega)]; simp
  unfold atI; rw [e]; exact h
/-! ### what may be subscripted -/
def PlainIx (b : Expr) : Prop := ∀ o i, subscripted b false o i = operate [o, i] (getItem o i)
def IxR (X : Cx) (r : R2) : Prop :=
  ∀ (value slice : Expr) (pins : List (Addr × Obj)) (s : Shared) (σ : St) (H : Hp) (x y : V) (v u : Value) (Q : VK), Inv X pins σ H s → RelV x v → RelV y u → r x y H Q →
    subscripted slice false v u = operate [v, u] (getItem v u) → wpAny (model X.prog X.w) X.A (subscriptTail value slice v u) (EP X pins σ Q) X.xe s
def MtR (X : Cx) (id : String) (r : V → List V → Hp → VK → Prop) : Prop :=
  ∀ (pins : List (Addr × Obj)) (s : Shared) (σ : St) (H : Hp) (x : V) (xs : List V) (v : Value) (us : List Value) (Q : VK), Inv X pins σ H s → RelV x v → Vals xs us → r x xs H Q →
    wpAny (model X.prog X.w) X.A (call (.builtin id) (v :: us)) (EP X pins σ Q) X.xe s
section
variable {X : Cx} {a b : Expr} {ta tb : TE} {pos : Pos}
theorem pe_ix {r : R2} (hr : IxR X r) (ha : PE X a ta) (hb : PE X b tb) (hs : PlainIx b) : PE X (.Subscript a b pos) (tOp r ta tb) := by
  intro pins s σ H Q I h
  exact Subscript_ (binT ha hb I h fun v u s2 x y H2 I2 rx ry q => hr a b pins s2 σ H2 x y v u Q I2 rx ry q (hs _ _))

def rIxL (K : PySem.W.Frag) : R2 := fun x y H Q => ∃ p xs i v, x = .ref p ∧ y = .int i ∧ SqL K H p xs ∧ atI xs i = some v ∧ Q v H
def rIxT (K : PySem.W.Frag) : R2 := fun x y H Q => ∃ p xs i v, x = .ref p ∧ y = .int i ∧ SqT K H p xs ∧ atI xs i = some v ∧ Q v H
def rIxS : R2 := fun x y H Q => ∃ z i c, x = .str z ∧ y = .int i ∧ z.length ≤ sizeLine ∧ atI z.cps.toList i = some c ∧ Q (.str ⟨#[c]⟩) H
theorem ix_list : IxR X (rIxL X.K) := by
  intro value slice pins s σ H x y v u Q I rx ry h hs
  obtain ⟨p, xs, i, z, rfl, rfl, hq, he, q⟩ := h
  cases rx
  obtain ⟨t, rfl⟩ := ry
  obtain ⟨its, r, pl, hz⟩ := I.list hq
  obtain ⟨j, h1, h2, h3, h4, h5⟩ := atI_get he
  obtain ⟨w, ew, rw'⟩ := r.get h2
  have hl := r.length
  have hn := line63
  have fin : EP X pins σ Q w s := ⟨z, H, I, rw', q⟩
  by_cases h0 : 0 ≤ i
  · have hj : i.toNat = j := by
      rw [seqIndex_of h0 h5] at h1
      exact Option.some.inj h1
    exact item_listR pl.isList h0 (by omega) (by rw [hj]; simpa using ew) fin hs
  · have hj : (i + (its.toArray.size : Int)).toNat = j := by
      rw [seqIndex_neg (by omega) h4] at h1
      rw [List.size_toArray, ← hl]
      exact Option.some.inj h1
    exact subscriptTail_builtinR (x := w) pl.isList.typeIs slot_list_getitem.lookup
      (wpAny_getItem_list_neg (Q := fun r s' => r = w ∧ EP X pins σ Q r s') pl.isList (by omega) (by rw [List.size_toArray] <;> omega) (by omega) (by rw [hj]; simpa using ew) ⟨rfl, fin⟩) hs
theorem ix_tup : IxR X (rIxT X.K) := by
  intro value slice pins s σ H x y v u Q I rx ry h hs
  obtain ⟨p, xs, i, z, rfl, rfl, hq, he, q⟩ := h
  cases rx
  obtain ⟨t, rfl⟩ := ry
  obtain ⟨its, r, pl, hz⟩ := I.tuple hq
  obtain ⟨j, h1, h2, h3, h4, h5⟩ := atI_get he
  obtain ⟨w, ew, rw'⟩ := r.get h2
  have hl := r.length
  have hn := line63
  have fin : EP X pins σ Q w s := ⟨z, H, I, rw', q⟩
  exact subscriptTail_builtinR (x := w) pl.typeIs slot_tuple_getitem.lookup
    (getItem_tuple (j := j) (Q := fun r s' => r = w ∧ EP X pins σ Q r s') pl (by omega) (by omega) (by rw [List.size_toArray, ← hl]; exact h1) (by simpa using ew) ⟨rfl, fin⟩) hs
/-! ### xs[i] = v, any sign -/
theorem Inv.lst {pins : List (Addr × Obj)} {σ : St} {H : Hp} {s : Shared} {p : Addr} {xs : List V} (I : Inv X pins σ H s) (h : H p = some (.lst xs)) :
    ∃ (its : List Value) (n : Nat), Vals xs its ∧ s.heap.get? p = some { cls := .type "list", data := .seq its.toArray n } ∧ xs.length ≤ sizeLine := by
  obtain ⟨z, its, n, r, e⟩ := I.hok p _ h
  exact ⟨its, n, r, e, z⟩
/-! ### slices -/
theorem slice_bounds (lo hi : Option Int) (n : Nat) : (sliceBounds lo hi none n).1 = ((HT.sIx n 0 lo : Nat) : Int) ∧ (sliceBounds lo hi none n).2.1 = ((HT.sIx n n hi : Nat) : Int) ∧ (sliceBounds lo hi none n).2.2 = 1 := by
  refine ⟨?_, ?_, rfl⟩
  · cases lo with
    | none => simp [sliceBounds, HT.sIx]
    | some i =>
      simp only [sliceBounds, HT.sIx, Option.getD_none, show (1 : Int) > 0 by decide, if_true]
      by_cases h : i < 0
      · simp only [h, if_true] <;> omega
      · simp only [h, if_false] <;> omega
  · cases hi with
    | none => simp [sliceBounds, HT.sIx]
    | some i =>
      simp only [sliceBounds, HT.sIx, Option.getD_none, show (1 : Int) > 0 by decide, if_true]
      by_cases h : i < 0
      · simp only [h, if_true] <;> omega
      · simp only [h, if_false] <;> omega
theorem slicePick_cut (its : List Value) (lo hi : Option Int) : slicePick its.toArray lo hi none = ((its.drop (HT.sIx its.length 0 lo)).take (HT.sIx its.length its.length hi - HT.sIx its.length 0 lo)).toArray := by
  obtain ⟨h1, h2, h3⟩ := slice_bounds lo hi its.toArray.size
  unfold slicePick
  rw [h1, h2, h3]
  simp only [sliceRange_one, pick_run, List.size_toArray] <;> rfl
def rSlL (K : PySem.W.Frag) : V → Option Int → Option Int → Hp → VK → Prop := fun x lo hi H Q => ∃ a xs, x = .ref a ∧ SqL K H a xs ∧ ∀ p, H p = none → Q (.ref p) (upd H p (.lst (cutV xs lo hi)))
theorem sl_list : SlR X (rSlL X.K) := by
  intro pins s σ H x v vl vu lo hi sl Q I rx hs pl pu h
  obtain ⟨a, xs, rfl, hx, q⟩ := h
  cases rx
  obtain ⟨its, r, ht, hz⟩ := I.list hx
  have hlen := r.length
  refine ⟨"list", _, slot_list_getitem.lookup, ht.isList.typeIs, ?_⟩
  refine wpAny_getItem_list_slice ht.isList hs pl pu .none (by simp) ?_ (by rw [List.size_toArray] <;> omega)
  rw [slicePick_cut, ← hlen]
  refine ⟨.ref s.heap.objs.size, _, I.laid (t' := s.toks) (o := .lst (cutV xs lo hi)) (fun b ob q => Heap.get?_push_of_some _ q) (Nat.le_refl _) ?_, rfl, q _ (I.hok.fresh (Nat.le_refl _))⟩
  exact ⟨Nat.le_trans (cutV_length xs lo hi) hz, _, 0, (r.drop (HT.sIx xs.length 0 lo)).take (HT.sIx xs.length xs.length hi - HT.sIx xs.length 0 lo), Heap.get?_push_size _ rfl⟩

/-! ### in, not in: flat items -/
def flatV : V → Bool
  | .non => true
  | .bl _ => true
  | .int _ => true
  | .str _ => true
  | _ => false
def eqV : V → V → Bool
  | .non, .non => true
  | .bl a, .bl b => a == b
  | .bl a, .int b => (if a then 1 else 0) == b
  | .int a, .bl b => a == (if b then 1 else 0)
  | .int a, .int b => a == b
  | .str a, .str b => a == b
  | _, _ => false
def inV (x : V) (xs : List V) : Bool := xs.any fun y => eqV y x
/-! ### len, list(x), tuple(x) of any list or tuple that is read -/
theorem call_len_seq : CallR X (.builtin "len") (fun xs H Q => ∃ p ys, xs = [.ref p] ∧ (SqL X.K H p ys ∨ SqT X.K H p ys) ∧ Q (.int ys.length) H) := by
  intro pins s σ H xs us Q I r h
  obtain ⟨p, ys, rfl, hq, q⟩ := h
  obtain ⟨u, rfl, rx⟩ := vals1 r
  cases rx
  have hn := line63
  rcases hq with hq | hq
  · obtain ⟨its, r', pl, hz⟩ := I.list hq
    have hlen := r'.length
    exact Calls.call_len_list pl.isList (by simp only [List.size_toArray] <;> omega) ⟨.int ys.length, H, I.tok _, ⟨s.toks + 1, by rw [List.size_toArray, hlen]⟩, q⟩
  · obtain ⟨its, r', pl, hz⟩ := I.tuple hq
    have hlen := r'.length
    exact len_tuple pl (by simp only [List.size_toArray] <;> omega) ⟨.int ys.length, H, I.tok _, ⟨s.toks + 1, by rw [List.size_toArray, hlen]⟩, q⟩
theorem call_list_of : CallR X (.type "list") (fun xs H Q => ∃ p ys, xs = [.ref p] ∧ (SqL X.K H p ys ∨ SqT X.K H p ys) ∧ ∀ l, H l = none → Q (.ref l) (upd H l (.lst ys))) := by
  intro pins s σ H xs us Q I r h
  obtain ⟨p, ys, rfl, hq, q⟩ := h
  obtain ⟨u, rfl, rx⟩ := vals1 r
  cases rx
  have fin : ∀ (its : List Value), Vals ys its → ys.length ≤ sizeLine → ∀ (h' : Heap) (c' : Nat), (∀ b o', s.heap.get? b = some o' → h'.get? b = some o') →
      h'.get? s.heap.objs.size = some { cls := .type "list", dict := none, data := .seq its.toArray c', slots := #[] } → EP X pins σ Q (.ref s.heap.objs.size) { s with heap := h' } := fun its r' hz h' c' kp e =>
    ⟨.ref s.heap.objs.size, _, I.laid (t' := s.toks) kp (Nat.le_refl _) (show ObjOk X.prog X.w _ h' _ (.lst ys) from ⟨hz, its, c', r', e⟩), rfl, q _ (I.hok.fresh (Nat.le_refl _))⟩
  rcases hq with hq | hq
  · obtain ⟨its, r', pl, hz⟩ := I.list hq
    have hlen := r'.length
    obtain ⟨o, ho, hc, n, hd⟩ := pl.isList
    exact call_list_seq p (.inl rfl) ho hc hd (fun h' c' kp e => fin its r' hz h' c' kp e) (by simp only [List.size_toArray] <;> omega)
  · obtain ⟨its, r', pl, hz⟩ := I.tuple hq
    have hlen := r'.length
    obtain ⟨o, ho, hc, n, hd⟩ := pl
    exact call_list_seq p (.inr rfl) ho hc hd (fun h' c' kp e => fin its r' hz h' c' kp e) (by simp only [List.size_toArray] <;> omega)
/-! ### the call of a builtin's method: o.m(..) -/
def tyV (K : PySem.W.Frag) (T : String) (x : V) (H : Hp) : Prop := match x with
  | .str _ => T = "str"
  | .int _ => T = "int"
  | .ref p => (T = "list" ∧ ∃ xs, SqL K H p xs) ∨ (T = "tuple" ∧ ∃ o, K.lookup p = some o ∧ o.cls = .type "tuple" ∧ o.dict = none) ∨
      (T = "dict" ∧ ((∃ kvs, H p = some (.dK kvs)) ∨ ∃ kvs, H p = some (.dT kvs))) ∨ (T = "set" ∧ ∃ S n, H p = some (.set S n))
  | _ => False
theorem tyV_is {pins : List (Addr × Obj)} {σ : St} {H : Hp} {s : Shared} {T : String} {x : V} {v : Value} (I : Inv X pins σ H s) (r : RelV x v) (ty : tyV X.K T x H) :
    s.TypeIs v T ∧ ∀ a, v = .ref a → ∃ ob, s.heap.get? a = some ob ∧ ob.dict = none := by
  cases x with
  | str z =>
    obtain ⟨t, rfl⟩ := r
    cases (show T = "str" from ty)
    exact ⟨typeIs_str s z t, fun _ e => nomatch e⟩
  | int i =>
    obtain ⟨t, rfl⟩ := r
    cases (show T = "int" from ty)
    exact ⟨typeIs_int s i t, fun _ e => nomatch e⟩
  | ref p =>
    cases r
    rcases ty with ⟨rfl, xs, hq⟩ | ⟨rfl, o, hk, hc, hd⟩ | ⟨rfl, hk⟩ | ⟨rfl, S, n, hk⟩
    · obtain ⟨its, _, pl, _⟩ := I.list hq
      refine ⟨pl.isList.typeIs, fun a e => ?_⟩
      cases e
      obtain ⟨o, n, e, c, hd, _⟩ := pl
      exact ⟨o, e, hd⟩
    · refine ⟨⟨o, I.kIn p o hk, hc⟩, fun a e => ?_⟩
      cases e
      exact ⟨o, I.kIn _ o hk, hd⟩
    · have z : ∃ o, s.heap.get? p = some o ∧ o.ExactDict := by
        rcases hk with ⟨kvs, hk⟩ | ⟨kvs, hk⟩
        · obtain ⟨_, _, _, _, o, _, _, e, ex, _⟩ := I.hok p _ hk
          exact ⟨o, e, ex⟩
        · obtain ⟨_, _, _, _, o, _, _, e, ex, _⟩ := I.hok p _ hk
          exact ⟨o, e, ex⟩
      obtain ⟨o, e, ex⟩ := z
      refine ⟨⟨o, e, ex.1⟩, fun a e2 => ?_⟩
      cases e2
      exact ⟨o, e, ex.2.1⟩
    · obtain ⟨o, _, _, _, e, ex, _⟩ := I.hok p _ hk
      refine ⟨⟨o, e, ex.1⟩, fun a e2 => ?_⟩
      cases e2
      exact ⟨o, e, ex.2.1⟩
  | _ => exact False.elim ty
def tBM0 (K : PySem.W.Frag) (T : String) (r : V → List V → Hp → VK → Prop) (to : TE) : TE := fun σ H Q => to σ H fun x H1 => tyV K T x H1 ∧ r x [] H1 Q
def tBM (K : PySem.W.Frag) (T : String) (r : V → List V → Hp → VK → Prop) (to : TE) (t : TA) : TE := fun σ H Q => to σ H fun x H1 => tyV K T x H1 ∧ t σ H1 fun xs H2 => r x xs H2 Q
variable {o e : Expr} {es : List Expr} {to : TE} {t : TA} {name : Str} {apos cpos : Pos} {T id : String} {r : V → List V → Hp → VK → Prop}
theorem pe_bm (pa : PlainAttrs T) (slot : Slot T name id) (hty : typeOf (.builtin id) = pure (.type "method_descriptor")) (hm : MtR X id r) (ho : PE X o to) (ha : PA X (e :: es) t)
    (hbase : attributeBase o name X.env (eval o X.env) = eval o X.env := by rfl)
    (hfew : ((backTo cpos (starEach (e :: es) X.env)).all (fun x => !x.1) && (backToKw cpos (keywordEach [] X.env)).all (fun x => x.1.isSome)
      && decide ((e :: es).length + ([] : List Keyword).length + (if ([] : List Keyword).isEmpty then 0 else 1) < 30)) = true := by rfl)
    (hline : (apos.endLine == cpos.line) = true := by rfl) (hs : starEach (e :: es) X.env = (false, eval e X.env) :: starEach es X.env := by rfl) (hplain : (backTo cpos (starEach es X.env)).any (·.1) = false := by rfl) :
    PE X (.Call (.Attribute o name apos) (e :: es) [] cpos) (tBM X.K T r to t) := by
  intro pins s σ H Q I h
  refine wpAny_Call_method_late hbase hfew hline rfl (thn (ho pins s σ H _ I h) fun v s1 ⟨x, H1, I1, r1, ty, q1⟩ => ?_)
  obtain ⟨h1, h2⟩ := tyV_is I1 r1 ty
  refine ⟨T, id, pa, slot, hty, h1, h2, ?_⟩
  have hA := ha cpos pins s1 σ H1 _ I1 q1
  rw [hs] at hA ⊢
  refine Calls.callWith_builtin (by show (false || (backTo cpos (starEach es X.env)).any (·.1)) = false; rw [hplain] <;> rfl) (Calls.evalArgs_plain ?_)
  exact thn hA fun us s2 ⟨vs, H2, I2, r2, q2⟩ => hm pins s2 σ H2 x vs v us Q I2 r1 r2 q2
/- xs.append(e), list.index on a module's tuple .. are MtR facts of 06m -/
end
end L2

namespace L2
open PySem PySem.Spec PyProof.Rows

def MtM (X : Cx) (id : String) (r : V → List V → Hp → VK → Prop) : Prop :=
  ∀ (pins : List (Addr × Obj)) (s : Shared) (σ : St) (H : Hp) (x : V) (xs : List V) (v : Value) (us : List Value) (Q : VK), Inv X pins σ H s → RelV x v → Vals xs us → r x xs H Q →
    wpAny (model X.prog X.w) X.A (call (.builtin id) (v :: us)) (EP X pins σ Q) X.xe s

/-! ### lists of values -/
theorem Vals.one : ∀ {x : V} {us : List Value}, Vals [x] us → ∃ u, us = [u] ∧ RelV x u
  | _, _, .cons r .nil => ⟨_, rfl, r⟩
theorem Vals.two : ∀ {x y : V} {us : List Value}, Vals [x, y] us → ∃ u v, us = [u, v] ∧ RelV x u ∧ RelV y v
  | _, _, _, .cons r (.cons q .nil) => ⟨_, _, rfl, r, q⟩
theorem Vals.zero : ∀ {us : List Value}, Vals [] us → us = []
  | _, .nil => rfl
theorem Vals.eraseIdx : ∀ {xs : List V} {us : List Value} (i : Nat), Vals xs us → Vals (xs.eraseIdx i) (us.eraseIdx i)
  | _, _, _, .nil => .nil
  | _, _, 0, .cons _ t => t
  | _, _, i + 1, .cons r t => .cons r (Vals.eraseIdx i t)
theorem Vals.reverse {xs : List V} {us : List Value} (h : Vals xs us) : Vals xs.reverse us.reverse := by
  induction h with
  | nil => exact .nil
  | cons r t ih => rw [List.reverse_cons, List.reverse_cons]; exact Vals.append ih (.cons r .nil)
theorem Vals.rep {xs : List V} {us : List Value} (h : Vals xs us) : ∀ k : Nat, Vals (List.replicate k xs).flatten (List.replicate k us).flatten
  | 0 => .nil
  | k + 1 => by
    rw [List.replicate_succ, List.replicate_succ, List.flatten_cons, List.flatten_cons]
    exact Vals.append h (Vals.rep h k)
theorem len_erase {α : Type} : ∀ (l : List α) (i : Nat), (l.eraseIdx i).length ≤ l.length
  | [], _ => Nat.le_refl _
  | _ :: _, 0 => Nat.le_succ _
  | _ :: r, i + 1 => Nat.succ_le_succ (len_erase r i)
theorem foldl_rep (its : List Value) : ∀ (k : Nat) (acc : List Value),
    List.foldl (fun x1 x2 => x1 ++ x2) acc.toArray (List.replicate k its.toArray) = (acc ++ (List.replicate k its).flatten).toArray
  | 0, acc => by simp
  | k + 1, acc => by
    have e : acc.toArray ++ its.toArray = (acc ++ its).toArray := by simp
    have e2 : (acc ++ its) ++ (List.replicate k its).flatten = acc ++ (List.replicate (k + 1) its).flatten := by
      rw [List.replicate_succ, List.flatten_cons, List.append_assoc]
    rw [← e2, ← foldl_rep its k (acc ++ its), ← e, List.replicate_succ, List.foldl_cons]

section
variable {X : Cx} {pins : List (Addr × Obj)} {σ : St} {H : Hp} {s : Shared} {l b : Addr} {xs ys zs : List V}

/-! ### the two steps: a tracked list is rewritten, a new list is laid -/
theorem Inv.lset {its its' : List Value} {n : Nat} {f : Array Value → Array Value} {t' : Nat} (I : Inv X pins σ H s) (hH : H l = some (.lst xs))
    (e : s.heap.get? l = some { cls := .type "list", data := .seq its.toArray n }) (hf : f its.toArray = its'.toArray) (hv : Vals ys its') (hz : ys.length ≤ sizeLine) :
    Inv X pins σ (upd H l (.lst ys)) { s with heap := s.heap.update l (Obj.mapSeq f), toks := t' } := by
  have q := PySem.IsL.update e f
  rw [hf] at q
  refine I.write (x := l) (e := l) (by rw [hH]; exact trivial) (.inl rfl) (fun b' u hb hu => (Heap.get?_update_other s.heap (Obj.mapSeq f) (Ne.symm hb)).trans hu) ⟨_, q⟩ ?_
  exact ⟨hz, its', _, hv, q⟩
theorem Inv.lnew {its : List Value} {t' : Nat} (I : Inv X pins σ H s) (hv : Vals ys its) (hz : ys.length ≤ sizeLine) :
    Inv X pins σ (upd H s.heap.objs.size (.lst ys)) { s with heap := s.heap.push { cls := .type "list", data := .seq its.toArray }, toks := t' } :=
  I.laid (fun _ _ q => Heap.get?_push_of_some _ q) (Nat.le_refl _) ⟨hz, its, 0, hv, Heap.get?_push_size _ rfl⟩
theorem Inv.fresh (I : Inv X pins σ H s) : H s.heap.objs.size = none := I.hok.fresh (Nat.le_refl _)
theorem Inv.lstM (I : Inv X pins σ H s) (hH : H l = some (.lst xs)) : xs.length ≤ sizeLine ∧ ∃ (its : List Value) (n : Nat), Vals xs its ∧ xs.length = its.length ∧ s.heap.get? l = some { cls := .type "list", data := .seq its.toArray n } := by
  obtain ⟨z, its, n, r, e⟩ := I.hok l _ hH
  exact ⟨z, its, n, r, r.length, e⟩

theorem notLongL {n : Nat} (h : n ≤ sizeLine) : Builtin.List.listTooLong n = false := by
  unfold Builtin.List.listTooLong
  exact decide_eq_false (by omega)
end

section
variable {X : Cx}

/-! ### methods -/
def rAppend : V → List V → Hp → VK → Prop := fun x vs H Q => ∃ l xs y, x = .ref l ∧ vs = [y] ∧ H l = some (.lst xs) ∧ xs.length < sizeLine ∧ Q .non (upd H l (.lst (xs ++ [y])))
theorem mt_append : MtM X "list.append" rAppend := by
  intro pins s σ H x vs v us Q I rx rv h
  obtain ⟨l, xs, y, rfl, rfl, hH, hz, q⟩ := h
  cases rx
  obtain ⟨u, rfl, ru⟩ := rv.one
  obtain ⟨z, its, n, r, hl, e⟩ := I.lstM hH
  refine call_meets F.slot_list_append ⟨_, e, rfl⟩ F.entry_list_append (F.args_list_append_2 _ _) (PySem.list_append l its.toArray n u (by rw [List.size_toArray]; omega)) ⟨e, ?_⟩
  refine ⟨.non, _, I.lset (its' := its ++ [u]) hH e (by simp) (r.append (.cons ru .nil)) ?_, rfl, q⟩
  rw [List.length_append, List.length_singleton]
  omega

def rPopAt : V → List V → Hp → VK → Prop := fun x vs H Q => ∃ l xs i k y, x = .ref l ∧ vs = [.int i] ∧ H l = some (.lst xs) ∧ -(2 ^ 63) ≤ i ∧ i < 2 ^ 63 ∧ seqIndex? i xs.length = some k ∧ xs[k]? = some y ∧ Q y (upd H l (.lst (xs.eraseIdx k)))
theorem mt_popAt : MtM X "list.pop" rPopAt := by
  intro pins s σ H x vs v us Q I rx rv h
  obtain ⟨l, xs, i, k, y, rfl, rfl, hH, h1, h2, hk, hy, q⟩ := h
  cases rx
  obtain ⟨u, rfl, ru⟩ := rv.one
  obtain ⟨t, rfl⟩ := ru
  obtain ⟨z, its, n, r, hl, e⟩ := I.lstM hH
  obtain ⟨w, hw, rw'⟩ := r.get hy
  refine call_meets F.slot_list_pop ⟨_, e, rfl⟩ F.entry_list_pop (F.args_list_pop_2 _ _)
    (MeetsSeq.list_pop_at l its.toArray n i t k w (fitsIndex_both h1 h2) (by rw [List.size_toArray, ← hl]; exact hk) (by rw [← Array.getElem?_toList]; exact hw) (by rw [List.size_toArray]; omega)) ⟨e, ?_⟩
  refine ⟨y, _, I.lset (its' := its.eraseIdx k) hH e ?_ (r.eraseIdx k) ?_, rw', q⟩
  · show its.toArray.eraseIdxIfInBounds k = (its.eraseIdx k).toArray
    rw [List.eraseIdxIfInBounds_toArray]
  · have := len_erase xs k
    omega

/-! ### list + list, list += list, list * int -/
def rCat : R2 := fun x y H Q => ∃ l b xs zs, x = .ref l ∧ y = .ref b ∧ H l = some (.lst xs) ∧ H b = some (.lst zs) ∧ xs.length + zs.length ≤ sizeLine ∧ ∀ p, H p = none → Q (.ref p) (upd H p (.lst (xs ++ zs)))
theorem op_cat : OpR X (binaryOp .Add) rCat := by
  intro pins s σ H x y v u Q I rx ry h
  obtain ⟨l, b, xs, zs, rfl, rfl, hH, hB, hz, q⟩ := h
  cases rx
  cases ry
  obtain ⟨z, its, n, r, hl, e⟩ := I.lstM hH
  obtain ⟨z2, its2, n2, r2, hl2, e2⟩ := I.lstM hB
  refine PySem.P.add_list e e2 ?_ (by rw [List.size_toArray, List.size_toArray]; omega)
  have ea : its.toArray ++ its2.toArray = (its ++ its2).toArray := by simp
  rw [ea]
  exact ⟨.ref _, _, I.lnew (t' := s.toks) (r.append r2) (by rw [List.length_append]; omega), rfl, q _ I.fresh⟩
def rRep : R2 := fun x y H Q => ∃ l k xs, x = .ref l ∧ y = .int k ∧ H l = some (.lst xs) ∧ -(2 ^ 63) ≤ k ∧ k < 2 ^ 63 ∧ xs.length * k.toNat ≤ sizeLine ∧
  ∀ p, H p = none → Q (.ref p) (upd H p (.lst (List.replicate k.toNat xs).flatten))
theorem len_rep {α : Type} (xs : List α) (k : Nat) : (List.replicate k xs).flatten.length = k * xs.length := by
  induction k with
  | zero => simp
  | succ k ih => rw [List.replicate_succ, List.flatten_cons, List.length_append, ih, Nat.succ_mul, Nat.add_comm]
theorem op_rep : OpR X (binaryOp .Mult) rRep := by
  intro pins s σ H x y v u Q I rx ry h
  obtain ⟨l, k, xs, rfl, rfl, hH, h1, h2, hz, q⟩ := h
  cases rx
  obtain ⟨t, rfl⟩ := ry
  obtain ⟨z, its, n, r, hl, e⟩ := I.lstM hH
  have hlen : its.toArray.size * k.toNat ≤ sizeLine := by rw [List.size_toArray, ← hl]; exact hz
  have hcap : ¬ its.toArray.size * k.toNat > (2 ^ 63 - 1) / 8 := by
    have : (sizeLine : Nat) ≤ (2 ^ 63 - 1) / 8 := by decide
    omega
  have hfit : ¬ (!Builtin.List.listFitsIndex k) = true := by
    rw [fitsIndex_both h1 h2]
    exact Bool.false_ne_true
  have hlong : ¬ Builtin.List.listTooLong (its.toArray.size * k.toNat) = true := by
    rw [notLongL hlen]
    exact Bool.false_ne_true
  have hnew : List.foldl (fun x1 x2 => x1 ++ x2) #[] (List.replicate (if its.toArray.isEmpty = true then 0 else k.toNat) its.toArray) = (List.replicate k.toNat its).flatten.toArray := by
    have f0 : ∀ m : Nat, List.foldl (fun x1 x2 => x1 ++ x2) #[] (List.replicate m its.toArray) = (List.replicate m its).flatten.toArray := fun m => by
      have := foldl_rep its m []
      rw [List.nil_append] at this
      exact this
    rw [f0]
    cases its with
    | nil => simp
    | cons a r' => rw [if_neg (by simp)]
  refine wpAny_binaryOp_repeat_ref (T := "list") (U := "int") (by decide) ⟨_, e, rfl⟩ (fun s' => typeIs_int s' k t) noFill_list_mul F.fills_int_mul F.slot_int_rmul repeat_list F.slot_int_index.lookup
    (call_meets F.slot_int_rmul (typeIs_int s k t) F.entry_int_rmul (F.args_int_rmul_2 _ _) (int___rmul___int_list k t l its.toArray n)
      ⟨e, rfl, ⟨_, e, rfl⟩, call_meets F.slot_list_mul ⟨_, e, rfl⟩ F.entry_list_mul (F.args_list_mul_2 _ _) (AutoListH.list___mul___list_int_3 l its.toArray n k t hfit hcap hlong) ⟨e, ?_⟩⟩)
  rw [hnew]
  exact ⟨.ref _, _, I.lnew (t' := s.toks) (r.rep k.toNat) (by rw [len_rep, Nat.mul_comm]; exact hz), rfl, q _ I.fresh⟩

/-! ### del xs[i] -/
end

/-! ### xs[a:b] = ys -/
section
variable {prog : Program} {w : World} {A : Around} {E : Value → Shared → Prop} {s : Shared}
end

section
variable {X : Cx}
end
end L2

namespace L2
open PySem PySem.Spec PyProof.Rows

/-! ### lists of pairs as tables -/
section
variable {κ : Type} [DecidableEq κ]
def valV (kvs : List (κ × V)) (k : κ) : Option V := (kvs.find? fun kv => decide (kv.1 = k)).map (·.2)
def putK (kvs : List (κ × V)) (k : κ) (v : V) : List (κ × V) :=
  if (kvs.any fun kv => decide (kv.1 = k)) = true then kvs.map (fun kv => if kv.1 = k then (kv.1, v) else kv) else kvs ++ [(k, v)]
def dropK (kvs : List (κ × V)) (k : κ) : List (κ × V) := kvs.filter fun kv => decide (kv.1 ≠ k)

theorem valV_pos {p : κ × V} {r : List (κ × V)} {k : κ} (e : p.1 = k) : valV (p :: r) k = some p.2 := by simp [valV, List.find?_cons, e]
theorem valV_neg {p : κ × V} {r : List (κ × V)} {k : κ} (e : ¬ p.1 = k) : valV (p :: r) k = valV r k := by simp [valV, List.find?_cons, e]
theorem valV_any (k : κ) : ∀ kvs : List (κ × V), (kvs.any fun kv => decide (kv.1 = k)) = (valV kvs k).isSome
  | [] => rfl
  | p :: r => by
    rw [List.any_cons]
    by_cases e : p.1 = k
    · simp only [valV_pos e, decide_eq_true e, Bool.true_or, Option.isSome_some]
    · rw [valV_neg e, decide_eq_false e, Bool.false_or]; exact valV_any k r
theorem length_putK (kvs : List (κ × V)) (k : κ) (v : V) : (putK kvs k v).length ≤ kvs.length + 1 := by
  unfold putK
  split
  · rw [List.length_map]; omega
  · rw [List.length_append, List.length_cons, List.length_nil]; omega
theorem RelO.isSome_eq {o : Option V} {u : Option Value} (r : RelO o u) : o.isSome = u.isSome := by
  cases o with
  | none => cases u with
    | none => rfl
    | some _ => exact (show False from r).elim
  | some _ => cases u with
    | none => exact (show False from r).elim
    | some _ => rfl
theorem RelO.getD {o : Option V} {u : Option Value} {d : V} {d' : Value} (r : RelO o u) (rd : RelV d d') : RelV (o.getD d) (u.getD d') := by
  cases o with
  | none => cases u with
    | none => exact rd
    | some _ => exact (show False from r).elim
  | some _ => cases u with
    | none => exact (show False from r).elim
    | some _ => exact r

theorem KV.val {kvs : List (κ × V)} {vs : List (κ × Value)} (r : KV kvs vs) (k : κ) : RelO (valV kvs k) (valueAt vs k) := by
  unfold KV at r
  induction r with
  | nil => exact True.intro
  | @cons p q ps qs h t ih =>
    obtain ⟨h1, h2⟩ := h
    by_cases e : p.1 = k
    · have e' : q.1 = k := h1.symm.trans e
      have b : valueAt (q :: qs) k = some q.2 := by simp [valueAt, List.find?_cons, e']
      rw [valV_pos e, b]; exact h2
    · have e' : ¬ q.1 = k := fun z => e (h1.trans z)
      have b : valueAt (q :: qs) k = valueAt qs k := by simp [valueAt, List.find?_cons, e']
      rw [valV_neg e, b]; exact ih
theorem KV.any {kvs : List (κ × V)} {vs : List (κ × Value)} (r : KV kvs vs) (k : κ) : (kvs.any fun kv => decide (kv.1 = k)) = vs.any fun kv => decide (kv.1 = k) := by
  unfold KV at r
  induction r with
  | nil => rfl
  | cons h t ih => rw [List.any_cons, List.any_cons, ih, h.1]
theorem KV.repl {kvs : List (κ × V)} {vs : List (κ × Value)} (r : KV kvs vs) (k : κ) {y : V} {u : Value} (ry : RelV y u) :
    KV (kvs.map fun kv => if kv.1 = k then (kv.1, y) else kv) (vs.map fun kv => if kv.1 = k then (kv.1, u) else kv) := by
  unfold KV at r ⊢
  induction r with
  | nil => exact .nil
  | @cons p q ps qs h t ih =>
    rw [List.map_cons, List.map_cons]
    refine .cons ?_ ih
    obtain ⟨h1, h2⟩ := h
    by_cases e : p.1 = k
    · rw [if_pos e, if_pos (h1.symm.trans e)]; exact ⟨h1, ry⟩
    · rw [if_neg e, if_neg (fun z => e (h1.trans z))]; exact ⟨h1, h2⟩
theorem KV.put {kvs : List (κ × V)} {vs : List (κ × Value)} (r : KV kvs vs) (k : κ) {y : V} {u : Value} (ry : RelV y u) : KV (putK kvs k y) (stored vs k u) := by
  unfold putK stored
  rw [r.any k]
  by_cases e : (vs.any fun kv => decide (kv.1 = k)) = true
  · rw [if_pos e, if_pos e]; exact r.repl k ry
  · rw [if_neg e, if_neg e]; exact Paired.snoc r ⟨rfl, ry⟩
theorem KV.drop {kvs : List (κ × V)} {vs : List (κ × Value)} (r : KV kvs vs) (k : κ) : KV (dropK kvs k) (without vs k) := by
  unfold KV at r ⊢
  unfold dropK without
  induction r with
  | nil => exact .nil
  | @cons p q ps qs h t ih =>
    obtain ⟨h1, h2⟩ := h
    rw [List.filter_cons, List.filter_cons]
    by_cases e : p.1 = k
    · have a : ¬ decide (p.1 ≠ k) = true := by simp [e]
      have b : ¬ decide (q.1 ≠ k) = true := by simp [h1.symm.trans e]
      rw [if_neg a, if_neg b]; exact ih
    · have e' : ¬ q.1 = k := fun z => e (h1.trans z)
      have a : decide (p.1 ≠ k) = true := by simp [e]
      have b : decide (q.1 ≠ k) = true := by simp [e']
      rw [if_pos a, if_pos b]; exact .cons ⟨h1, h2⟩ ih
theorem KV.keys {kvs : List (κ × V)} {vs : List (κ × Value)} (r : KV kvs vs) : kvs.map (·.1) = vs.map (·.1) := by
  unfold KV at r
  induction r with
  | nil => rfl
  | cons h t ih => rw [List.map_cons, List.map_cons, ih, h.1]
theorem KV.length {kvs : List (κ × V)} {vs : List (κ × Value)} (r : KV kvs vs) : kvs.length = vs.length := Paired.length r
end

/-! ### a tracked dict, its keys ints and texts or tuples of these -/
theorem kV_is {P : Program} {w : World} {k : Key} {u : Value} (r : RelV (kV k) u) : (mixKind P w).is k u = true := by
  cases k with
  | inl i => obtain ⟨t, e⟩ := (show ∃ t, u = Value.int i t from r); subst e; exact mixKind_int P w i t
  | inr x => obtain ⟨t, e⟩ := (show ∃ t, u = Value.str x t from r); subst e; exact mixKind_str P w x t
theorem items_are {P : Program} {w : World} : ∀ {ks : List Key} {us : List Value}, Vals (ks.map kV) us → ItemsAre (mixKind P w) ks us
  | [], _, r => by rw [List.map_nil] at r; cases r; exact .nil
  | k :: ks, _, r => by
    rw [List.map_cons] at r
    cases r with
    | cons h t => exact .cons (kV_is h) (items_are t)

abbrev KT (H : Hp) : List (List Key × V) → List (List Key × Addr × Value) → Prop := Paired fun p q => p.1 = q.1 ∧ H q.2.1 = some (.tup (p.1.map kV)) ∧ RelV p.2 q.2.2
theorem KT.val {H : Hp} {kvs : List (List Key × V)} {xs : List (List Key × Addr × Value)} (r : KT H kvs xs) (k : List Key) : RelO (valV kvs k) ((atKey xs k).map (·.2)) := by
  induction r with
  | nil => exact True.intro
  | @cons p q ps qs h t ih =>
    obtain ⟨h1, _, h2⟩ := h
    by_cases e : p.1 = k
    · have e' : q.1 = k := h1.symm.trans e
      have b : atKey (q :: qs) k = some q.2 := by simp [atKey, List.find?_cons, e']
      rw [valV_pos e, b]; exact h2
    · have e' : ¬ q.1 = k := fun z => e (h1.trans z)
      have b : atKey (q :: qs) k = atKey qs k := by simp [atKey, List.find?_cons, e']
      rw [valV_neg e, b]; exact ih
theorem KT.repl {H : Hp} {kvs : List (List Key × V)} {xs : List (List Key × Addr × Value)} (r : KT H kvs xs) (k : List Key) {y : V} {u : Value} (ry : RelV y u) :
    KT H (kvs.map fun kv => if kv.1 = k then (kv.1, y) else kv) (xs.map (putAt k u)) := by
  induction r with
  | nil => exact .nil
  | @cons p q ps qs h t ih =>
    rw [List.map_cons, List.map_cons]
    refine .cons ?_ ih
    obtain ⟨h1, h2, h3⟩ := h
    unfold putAt
    by_cases e : p.1 = k
    · rw [if_pos e, if_pos (h1.symm.trans e)]; exact ⟨h1, h2, ry⟩
    · rw [if_neg e, if_neg (fun z => e (h1.trans z))]; exact ⟨h1, h2, h3⟩
theorem KT.put {H : Hp} {kvs : List (List Key × V)} {xs : List (List Key × Addr × Value)} (r : KT H kvs xs) (k : List Key) {b : Addr} {y : V} {u : Value} (hb : H b = some (.tup (k.map kV))) (ry : RelV y u) :
    KT H (putK kvs k y) (storedH xs k b u) := by
  have e : (kvs.any fun kv => decide (kv.1 = k)) = (atKey xs k).isSome := by
    rw [valV_any, (r.val k).isSome_eq, Option.isSome_map]
  unfold putK storedH
  rw [e]
  by_cases q : (atKey xs k).isSome = true
  · rw [if_pos q, if_pos q]; exact r.repl k ry
  · rw [if_neg q, if_neg q]; exact Paired.snoc r ⟨rfl, hb, ry⟩
theorem KT.keeps {H H' : Hp} {kvs : List (List Key × V)} {xs : List (List Key × Addr × Value)} (r : KT H kvs xs) (ht : ∀ b ys, H b = some (.tup ys) → H' b = some (.tup ys)) : KT H' kvs xs :=
  Paired.mapP r fun _ _ z => ⟨z.1, ht _ _ z.2.1, z.2.2⟩

section
variable {P : Program} {w : World} {H : Hp} {h : Heap} {a : Addr}
theorem rd_of {u : HO} (ok : HOk P w H h) (e : Rd H a u) : ObjOk P w H h a u := e.ok ok
theorem dk_rd {kvs : List (Key × V)} (ok : HOk P w H h) (e : Rd H a (.dK kvs)) : kvs.length ≤ sizeLine ∧ (a == sysModules) = false ∧ ∃ vs, KV kvs vs ∧ h.DictOf (mixKind P w) a vs :=
  show ObjOk P w H h a (.dK kvs) from rd_of ok e
theorem dk_of {kvs : List (Key × V)} (ok : HOk P w H h) (e : H a = some (.dK kvs)) : kvs.length ≤ sizeLine ∧ (a == sysModules) = false ∧ ∃ vs, KV kvs vs ∧ h.DictOf (mixKind P w) a vs := dk_rd ok (.inl e)
theorem key_of {ks : List Key} (ok : HOk P w H h) (e : H a = some (.tup (ks.map kV))) : (tupleKind (mixKind P w)).is h ks a := by
  obtain ⟨_, its, r, o, h1, h2, n, h3⟩ := (show ObjOk P w H h a (.tup (ks.map kV)) from ok a _ e)
  exact ⟨o, its.toArray, n, h1, h2, h3, by simpa using items_are r⟩
theorem dt_rd {kvs : List (List Key × V)} (ok : HOk P w H h) (e : Rd H a (.dT kvs)) : kvs.length ≤ sizeLine ∧ (a == sysModules) = false ∧
    ∃ xs, KT H kvs xs ∧ h.DictOfH (tupleKind (mixKind P w)) a xs := by
  obtain ⟨z, y, xs, r, o, es, ep, h1, h2, h3, h4, h5⟩ := (show ObjOk P w H h a (.dT kvs) from rd_of ok e)
  refine ⟨z, y, xs, r, o, es, ep, h1, h2, h3, h4, fun x hx => ?_, h5⟩
  have all : ∀ {l : List (List Key × V)} {m : List (List Key × Addr × Value)}, KT H l m → ∀ x ∈ m, (tupleKind (mixKind P w)).is h x.1 x.2.1 := by
    intro l m q
    induction q with
    | nil => intro x hx; exact nomatch hx
    | @cons p q ps qs hq t ih =>
      intro x hx
      rcases List.mem_cons.mp hx with e | hx
      · subst e
        exact key_of ok (by rw [← hq.1]; exact hq.2.1)
      · exact ih x hx
  exact all r x hx
theorem dt_of {kvs : List (List Key × V)} (ok : HOk P w H h) (e : H a = some (.dT kvs)) : kvs.length ≤ sizeLine ∧ (a == sysModules) = false ∧
    ∃ xs, KT H kvs xs ∧ h.DictOfH (tupleKind (mixKind P w)) a xs := dt_rd ok (.inl e)
end

def DGet (H : Hp) (a : Addr) (y : V) (r : Option V) : Prop :=
  (∃ kvs k, Rd H a (.dK kvs) ∧ y = kV k ∧ r = valV kvs k) ∨ ∃ kvs k b, Rd H a (.dT kvs) ∧ y = .ref b ∧ H b = some (.tup (k.map kV)) ∧ r = valV kvs k
def DPut (H : Hp) (a : Addr) (y v : V) (H' : Hp) : Prop :=
  (∃ kvs k, H a = some (.dK kvs) ∧ y = kV k ∧ kvs.length < sizeLine ∧ H' = upd H a (.dK (putK kvs k v))) ∨
  ∃ kvs k b, H a = some (.dT kvs) ∧ y = .ref b ∧ H b = some (.tup (k.map kV)) ∧ kvs.length < sizeLine ∧ H' = upd H a (.dT (putK kvs k v))
theorem DGet.k {H : Hp} {a : Addr} {kvs : List (Key × V)} {k : Key} (e : H a = some (.dK kvs)) : DGet H a (kV k) (valV kvs k) := .inl ⟨kvs, k, .inl e, rfl, rfl⟩
theorem DGet.t {H : Hp} {a b : Addr} {kvs : List (List Key × V)} {k : List Key} (e : H a = some (.dT kvs)) (eb : H b = some (.tup (k.map kV))) : DGet H a (.ref b) (valV kvs k) := .inr ⟨kvs, k, b, .inl e, rfl, eb, rfl⟩
theorem DPut.k {H : Hp} {a : Addr} {kvs : List (Key × V)} {k : Key} {v : V} (e : H a = some (.dK kvs)) (hl : kvs.length < sizeLine) : DPut H a (kV k) v (upd H a (.dK (putK kvs k v))) := .inl ⟨kvs, k, e, rfl, hl, rfl⟩
theorem DPut.t {H : Hp} {a b : Addr} {kvs : List (List Key × V)} {k : List Key} {v : V} (e : H a = some (.dT kvs)) (eb : H b = some (.tup (k.map kV))) (hl : kvs.length < sizeLine) :
    DPut H a (.ref b) v (upd H a (.dT (putK kvs k v))) := .inr ⟨kvs, k, b, e, rfl, eb, hl, rfl⟩

section
variable {X : Cx} {pins : List (Addr × Obj)} {σ : St} {H : Hp} {s : Shared} {a : Addr} {y v : V} {u r : Value} {o : Option V} {A : Around} {E : Value → Shared → Prop}

theorem Inv.big (I : Inv X pins σ H s) : sysModules < s.heap.objs.size := by
  have h : mainGlobals < s.heap.objs.size := (I.mod.glob.keeps I.bk).lt
  exact Nat.lt_trans (by decide) h

theorem d_getItem {Q : Value → Shared → Prop} (hu : A.units + 1 < cLine) (I : Inv X pins σ H s) (g : DGet H a y (some v)) (ry : RelV y u) (h : ∀ w' s', Inv X pins σ H s' → RelV v w' → Q w' s') :
    wpAny (model X.prog X.w) A (getItem (.ref a) u) Q E s := by
  rcases g with ⟨kvs, k, e, ey, l⟩ | ⟨kvs, k, b, e, ey, eb, l⟩
  · subst ey
    obtain ⟨z, hd, vs, rel, dd⟩ := dk_rd I.hok e
    obtain ⟨w', hw, rw'⟩ := RelO.some_of (v := v) (o := valueAt vs k) (by rw [l]; exact rel.val k)
    exact wpAny_getItem_of (kV_is ry) dd.mapOf hw (h w' _ (I.tok _) rw')
  · subst ey
    cases (show u = Value.ref b from ry)
    obtain ⟨z, hd, xs, rel, dd⟩ := dt_rd I.hok e
    obtain ⟨w', hw, rw'⟩ := RelO.some_of (v := v) (o := (atKey xs k).map (·.2)) (by rw [l]; exact rel.val k)
    obtain ⟨p, hp, hp2⟩ := Option.map_eq_some_iff.mp hw
    refine wpAny_getItem_heap (tupleKind_room_in1 hu) (key_of I.hok eb) dd hp ?_
    rw [hp2]
    exact h w' _ (I.tok _) rw'
theorem d_write {h' : Heap} {t' : Nat} {ob : HO} (I : Inv X pins σ H s) (mu : Mut (H a)) (hs : Heap.SameBut a s.heap h') (he : ∃ q, h'.get? a = some q) (new : ObjOk X.prog X.w (upd H a ob) h' a ob) :
    Inv X pins σ (upd H a ob) { s with heap := h', toks := t' } :=
  I.write (x := a) (e := a) mu (.inl rfl) (fun b q hb z => (hs.2 b hb).trans z) he new
theorem dk_new {P : Program} {w : World} {H' : Hp} {h' : Heap} {kvs : List (Key × V)} {vs : List (Key × Value)} (z : kvs.length ≤ sizeLine) (hd : (a == sysModules) = false) (rel : KV kvs vs) (dd : h'.DictOf (mixKind P w) a vs) :
    ObjOk P w H' h' a (.dK kvs) := ⟨z, hd, vs, rel, dd⟩
theorem d_setItem {H' : Hp} {Q : Unit → Shared → Prop} (hu : A.units + 1 < cLine) (I : Inv X pins σ H s) (g : DPut H a y v H') (ry : RelV y u) (rv : RelV v r) (h : ∀ s', Inv X pins σ H' s' → Q () s') :
    wpAny (model X.prog X.w) A (setItem (.ref a) u r) Q E s := by
  rcases g with ⟨kvs, k, e, ey, l, eH⟩ | ⟨kvs, k, b, e, ey, eb, l, eH⟩
  · subst ey eH
    obtain ⟨z, hd, vs, rel, dd⟩ := dk_of I.hok e
    have hz : vs.length ≤ sizeLine := by rw [← rel.length]; exact z
    have hl : (putK kvs k v).length ≤ sizeLine := by have := length_putK kvs k v; omega
    refine wpAny_setItem_pairs (hsz := hz) (kV_is ry) dd fun h' dd' hs => h _ ?_
    have he : ∃ q, h'.get? a = some q := let ⟨q, _, _, hq, _⟩ := dd'; ⟨q, hq⟩
    exact d_write I (by rw [e]; exact True.intro) hs he (dk_new hl hd (rel.put k rv) dd')
  · subst ey eH
    cases (show u = Value.ref b from ry)
    obtain ⟨z, hd, xs, rel, dd⟩ := dt_of I.hok e
    have hz : xs.length ≤ sizeLine := by rw [← Paired.length rel]; exact z
    have hl : (putK kvs k v).length ≤ sizeLine := by have := length_putK kvs k v; omega
    refine wpAny_setItem_heap (hsz := hz) (tupleKind_room_in1 hu) (key_of I.hok eb) dd fun h' dd' hs => h _ ?_
    obtain ⟨q, es, ep, hq, h2, h3, h4, _, h5⟩ := dd'
    refine d_write I (by rw [e]; exact True.intro) hs ⟨q, hq⟩ ⟨hl, hd, _, (rel.put k eb rv).keeps fun c ys ec => ?_, q, es, ep, hq, h2, h3, h4, h5⟩
    rw [upd_ne (ne_of ec e (fun z => nomatch z))]
    exact ec
end

section
variable {X : Cx} {pins : List (Addr × Obj)} {σ : St} {H : Hp} {s : Shared} {a : Addr} {kvs : List (Key × V)} {k : Key} {u : Value} {A : Around} {E : Value → Shared → Prop}
end

/-! ### readings and rules -/
def NoSl (i : Expr) : Prop := ∀ ov iv, subscripted i false ov iv = operate [ov, iv] (getItem ov iv)
theorem subD_of {prog : Program} {w : World} {A : Around} {E : Value → Shared → Prop} {s : Shared} {env : Env} {value slice : Expr} {pos : Pos} {T id : String} {Q : Value → Shared → Prop}
    (hl : typeLookup (.type T) "__getitem__" = pure (some (.builtin id))) (hs : NoSl slice)
    (h : wpAny (model prog w) A (eval value env) (fun o s₁ => wpAny (model prog w) A (eval slice env) (fun i s₂ => s₂.TypeIs o T ∧ wpAny (model prog w) A (getItem o i) Q E s₂) E s₁) E s) :
    wpAny (model prog w) A (eval (.Subscript value slice pos) env) Q E s := by
  refine Subscript_ (wpAny_mono h (fun o s₁ h₁ => wpAny_mono h₁ (fun i s₂ h₂ => ?_) fun _ _ x => x) fun _ _ x => x)
  obtain ⟨hT, h₂⟩ := h₂
  unfold subscriptTail
  refine wpAny_bind ?_
  rw [getitemInPython_of_ne hT.not_modules]
  refine wpAny_bind (wpAny_specialOf hT hl ?_)
  have fin : wpAny (model prog w) A (subscripted slice false o i) (fun r s₃ => wpAny (model prog w) A (letTemporaryGo value o r >>= fun _ => pure r) Q E s₃) E s₂ := by
    rw [hs o i]
    exact wpAny_operating (wpAny_mono h₂ (fun r s₃ h₃ => wpAny_bind (wpAny_letTemporaryGo (wpAny_pure h₃))) fun _ _ x => x)
  first
    | exact wpAny_pure (wpAny_bind fin)
    | exact wpAny_bind (wpAny_pure (wpAny_bind fin))
    | exact wpAny_bind fin

theorem dict_typeIs {X : Cx} {pins : List (Addr × Obj)} {σ : St} {H : Hp} {s : Shared} {a : Addr} {y : V} {o : Option V} (I : Inv X pins σ H s) (g : DGet H a y o) : s.TypeIs (.ref a) "dict" := by
  rcases g with ⟨kvs, k, e, _, _⟩ | ⟨kvs, k, b, e, _, _, _⟩
  · obtain ⟨_, _, vs, _, dd⟩ := dk_rd I.hok e
    exact dd.typeIs
  · obtain ⟨_, _, xs, _, dd⟩ := dt_rd I.hok e
    exact dd.typeIs
section
variable {X : Cx} {o i e value : Expr} {pos pos' tpos : Pos} {td ty tv : TE}
end

/-! ### displays -/
theorem dk_empty {P : Program} {w : World} {H : Hp} (h : Heap) (hb : sysModules < h.objs.size) : ObjOk P w H (h.push { cls := .type "dict", data := .dict #[] }) h.objs.size (.dK []) :=
  ⟨Nat.zero_le _, beq_eq_false_iff_ne.mpr (Ne.symm (Nat.ne_of_lt hb)), [], .nil, Heap.DictOf.new h⟩
def tDNewK : TE := fun _ H Q => ∀ p, H p = none → Q (.ref p) (upd H p (.dK []))
section
variable {X : Cx} {pos : Pos}
theorem pe_dnewK : PE X (.Dict [] [] pos) tDNewK := fun pins s σ H Q I h =>
  wpAny_Dict_empty ⟨.ref s.heap.objs.size, _, I.laid (a := s.heap.objs.size) (o := .dK []) (t' := s.toks) (fun _ _ q => Heap.get?_push_of_some _ q) (Nat.le_refl _) (dk_empty s.heap I.big), rfl, h _ (I.hok.fresh (Nat.le_refl _))⟩
end

def tPairs : List (TE × TE) → St → Hp → (List (V × V) → Hp → Prop) → Prop
  | [], _, H, Q => Q [] H
  | (tk, tv) :: r, σ, H, Q => tk σ H fun x H1 => tv σ H1 fun y H2 => tPairs r σ H2 fun ps H3 => Q ((x, y) :: ps) H3
abbrev VV : List (V × V) → List (Value × Value) → Prop := Paired fun p q => RelV p.1 q.1 ∧ RelV p.2 q.2
def PPs (X : Cx) (pos : Pos) (keys : List (Option Expr)) (values : List Expr) (trs : List (TE × TE)) : Prop :=
  ∀ (pins : List (Addr × Obj)) (s : Shared) (σ : St) (H : Hp) (Q : List (V × V) → Hp → Prop), Inv X pins σ H s → tPairs trs σ H Q →
    wpAny (model X.prog X.w) X.A (evalPairs (pairTrees keys values X.env pos)) (fun vs s' => ∃ ps H', Inv X pins σ H' s' ∧ VV ps vs ∧ Q ps H') X.xe s
def mergeK (kvs more : List (Key × V)) : List (Key × V) := more.foldl (fun acc kv => putK acc kv.1 kv.2) kvs
/-! ### methods -/
structure M1 (X : Cx) (o : Expr) (m : Str) (apos : Pos) (e : Expr) (cpos : Pos) : Prop where
  base : attributeBase o m X.env (eval o X.env) = eval o X.env
  few : ((backTo cpos (starEach [e] X.env)).all (fun x => !x.1) && (backToKw cpos (keywordEach [] X.env)).all (fun x => x.1.isSome)
    && decide (([e] : List Expr).length + ([] : List Keyword).length + (if ([] : List Keyword).isEmpty then 0 else 1) < 30)) = true
  line : (apos.endLine == cpos.line) = true
  trees : backTo cpos (starEach [e] X.env) = [(false, eval e X.env)]
structure M2 (X : Cx) (o : Expr) (m : Str) (apos : Pos) (e f : Expr) (cpos : Pos) : Prop where
  base : attributeBase o m X.env (eval o X.env) = eval o X.env
  few : ((backTo cpos (starEach [e, f] X.env)).all (fun x => !x.1) && (backToKw cpos (keywordEach [] X.env)).all (fun x => x.1.isSome)
    && decide (([e, f] : List Expr).length + ([] : List Keyword).length + (if ([] : List Keyword).isEmpty then 0 else 1) < 30)) = true
  line : (apos.endLine == cpos.line) = true
  trees : backTo cpos (starEach [e, f] X.env) = [(false, eval e X.env), (false, eval f X.env)]

def IsD (H : Hp) (a : Addr) : Prop := (∃ kvs, Rd H a (.dK kvs)) ∨ ∃ kvs, Rd H a (.dT kvs)
theorem isD_at {X : Cx} {pins : List (Addr × Obj)} {σ : St} {H : Hp} {s : Shared} {a : Addr} (I : Inv X pins σ H s) (d : IsD H a) :
    s.TypeIs (.ref a) "dict" ∧ (∀ b, Value.ref a = .ref b → ∃ ob, s.heap.get? b = some ob ∧ ob.dict = none) ∧ (a == sysModules) = false := by
  rcases d with ⟨kvs, e⟩ | ⟨kvs, e⟩
  · obtain ⟨_, hd, vs, _, dd⟩ := dk_rd I.hok e
    refine ⟨dd.typeIs, fun b q => ?_, hd⟩
    cases q
    obtain ⟨ob, _, _, h1, h2, _⟩ := dd
    exact ⟨ob, h1, h2.2.1⟩
  · obtain ⟨_, hd, xs, _, dd⟩ := dt_rd I.hok e
    refine ⟨dd.typeIs, fun b q => ?_, hd⟩
    cases q
    obtain ⟨ob, _, _, h1, h2, _⟩ := dd
    exact ⟨ob, h1, h2.2.1⟩

section
variable {X : Cx} {pins : List (Addr × Obj)} {σ : St} {H : Hp} {s : Shared} {a : Addr} {y d : V} {u r : Value} {o : Option V} {A : Around} {E : Value → Shared → Prop}
theorem d_get2 {Q : Value → Shared → Prop} (hu : A.units + 1 < cLine) (I : Inv X pins σ H s) (g : DGet H a y o) (ry : RelV y u) (rd : RelV d r) (h : ∀ w' s', Inv X pins σ H s' → RelV (o.getD d) w' → Q w' s') :
    wpAny (model X.prog X.w) A (call (.builtin "dict.get") [.ref a, u, r]) Q E s := by
  rcases g with ⟨kvs, k, e, ey, l⟩ | ⟨kvs, k, b, e, ey, eb, l⟩
  · subst ey
    obtain ⟨z, hd, vs, rel, dd⟩ := dk_rd I.hok e
    refine call_meetsIn PySem.F.slot_dict_get dd.typeIs PySem.F.entry_dict_get (PySem.F.args_dict_get_3 _ _ _) (meets_dict_get_default (mixKind X.prog X.w) a (kV_is ry) hd r) ⟨_, dd.mapOf, h _ _ (I.tok _) ?_⟩
    rw [l]
    exact (rel.val k).getD rd
  · subst ey
    cases (show u = Value.ref b from ry)
    obtain ⟨z, hd, xs, rel, dd⟩ := dt_rd I.hok e
    refine call_meetsIn PySem.F.slot_dict_get dd.typeIs PySem.F.entry_dict_get (PySem.F.args_dict_get_3 _ _ _) (meetsH_dict_get_default (tupleKind (mixKind X.prog X.w)) a b hd r) ⟨tupleKind_room_in1 hu, k, xs, key_of I.hok eb, dd, h _ _ (I.tok _) ?_⟩
    rw [l]
    exact (rel.val k).getD rd
end

def tDGet2 (td ty tx : TE) : TE := fun σ H Q => td σ H fun x H1 => ∃ a, x = .ref a ∧ IsD H1 a ∧ ty σ H1 fun y H2 => tx σ H2 fun z H3 => ∃ o, DGet H3 a y o ∧ Q (o.getD z) H3
section
variable {X : Cx} {o e f : Expr} {apos cpos : Pos} {td ty tx : TE}
theorem pe_dget2 (hu : X.A.units + 1 < cLine) (ho : PE X o td) (he : PE X e ty) (hf : PE X f tx) (m : M2 X o "get" apos e f cpos) : PE X (.Call (.Attribute o "get" apos) [e, f] [] cpos) (tDGet2 td ty tx) := by
  intro pins s σ H Q I h
  refine wpAny_Call_method m.base m.few m.line PySem.F.plainAttrs_dict PySem.F.slot_dict_get PySem.F.type_dict_get (thn (ho pins s σ H _ I h) fun u s1 ⟨x, H1, I1, rx, a, ex, d, q1⟩ => ?_)
  subst ex
  obtain rfl : u = Value.ref a := rx
  obtain ⟨t1, t2, _⟩ := isD_at I1 d
  refine ⟨t1, t2, ?_⟩
  rw [m.trees]
  refine Calls.callWith_builtin rfl (Calls.evalArgs_plain (Calls.spliced_cons (thn (he pins s1 σ H1 _ I1 q1) fun iv s2 ⟨y, H2, I2, ry, q2⟩ =>
    Calls.spliced_cons (thn (hf pins s2 σ H2 _ I2 q2) fun fv s3 ⟨z, H3, I3, rz, ov, g, q3⟩ => Calls.spliced_nil ?_))))
  exact d_get2 hu I3 g ry rz fun w' s4 I4 rw' => ⟨_, H3, I4, rw', q3⟩
end

/-! ### dict(d): a copy -/
section
variable {X : Cx} {pins : List (Addr × Obj)} {σ : St} {H : Hp} {s : Shared} {a : Addr} {kvs : List (Key × V)} {A : Around} {E : Value → Shared → Prop}
end

section
variable {X : Cx} {pins : List (Addr × Obj)} {σ : St} {H : Hp} {s : Shared} {a : Addr} {y : V} {u : Value} {A : Around} {E : Value → Shared → Prop}
end
end L2

namespace Att
open PySem PySem.W PySem.Calls PyProof.Rows

/-! ### the script -/
theorem ints_of_wellAll {P : Params} {h : Heap} : ∀ (ns : List Int) (vs : List Value), WellAll P h vs (ns.map WData.int) → IntsAre vs ns := by
  intro ns
  induction ns with
  | nil =>
    intro vs w
    rw [List.map_nil] at w
    cases w
    exact .nil
  | cons n ns ih =>
    intro vs w
    rw [List.map_cons] at w
    cases w with
    | cons a b =>
      cases a
      exact .cons _ _ (ih _ b)

theorem script_of {l : OpenLaw} {n : Nat} (hn : l.most = some n) {P : Params} {h : Heap} {args : List WData} {vals : List Value}
    (hpre : l.row.toRowW.claim.pre args = true) (hwl : WellAll P h vals args) :
    ∃ a vs ns, vals = [Value.ref a] ∧ args = [WData.list (ns.map WData.int)] ∧ h.get? a = some { cls := .type "list", data := .seq vs.toArray } ∧ IntsAre vs ns ∧ ns.length ≤ n := by
  have hsh : WShape.hasAll [] args [.list .int] = true := (pre_splitW hpre).1
  have hc : l.pre.holds [] { args := args } = true := (pre_splitW hpre).2
  obtain ⟨d, r, rfl, h1, h2⟩ := hasAllW_cons hsh
  obtain rfl := hasAllW_nil h2
  obtain ⟨xs, rfl, h3⟩ := hasW_list h1
  obtain ⟨ns, rfl⟩ := items_int h3
  have hlen : ns.length ≤ n := by
    unfold OpenLaw.pre at hc
    have h4 : (WTm.not (.lt (.lit (.int (n : Int))) (.len (.arg 0)))).holds [] { args := [.list (ns.map .int)] } = true := by
      have h4 := (holds_andW hc).1
      rw [hn] at h4
      exact h4
    have h5 := condW_of h4 (w_not (w_lt w_lit (w_len_list (w_arg rfl))))
    rw [List.length_map] at h5
    refine Nat.le_of_not_lt fun q => ?_
    have q' : (n : Int) < ((ns.length : Nat) : Int) := by omega
    first
      | (rw [decide_eq_true q'] at h5; exact absurd h5 (by decide))
      | (simp at h5; omega)
  cases hwl with
  | cons w1 w2 =>
    cases w2
    cases w1 with
    | list ho hall => exact ⟨_, _, ns, rfl, rfl, ho, ints_of_wellAll ns _ hall, hlen⟩

theorem post_true (l : OpenLaw) (args : List WData) : l.row.toRowW.claim.post args (.bool true) args = true :=
  postW_of (r := l.row.toRowW) (X := (true == true))
    (show WShape.has [] (.bool true) .bool = true by first | rfl | decide | simp [WShape.has, WShape.arms, WShape.armsAll])
    (show (WTm.eq .res (.lit (.bool true))).value [] { args := args, res := some (.bool true), after := args } = some (.bool (true == true)) from w_eq_bool (w_res rfl) w_lit) rfl

/-! ### the attachment: holds_open's last premise (the goal 'hc' behind k_head) from a wpAny of the law's body -/
theorem attach_call {l : OpenLaw} {n : Nat} {q : Program} {loose : List Str} {XP : (Str → Option Value) → Heap → Prop} {YP : World → Heap → Prop} {d : DefRec}
    (hn : l.most = some n) (hdf : d.params.defaults = [])
    (call : ∀ (w : World) (s₀ s₁ : Shared) (mg mb : Str → Option Value) (fa : Addr) (o : Obj) (pm cd doc : Value) (a : Addr) (vs : List Value) (ns : List Int),
      Ground q loose [] XP w s₀ mg mb s₁.heap → YP w s₁.heap →
      s₁.heap.get? fa = some o → o.data = .func (docDef d.name d.params d.body d.scope pm cd doc) → s₁.heap.CodeRec cd d.name → mg d.name = some (.ref fa) →
      s₁.heap.get? a = some { cls := .type "list", data := .seq vs.toArray } → IntsAre vs ns → ns.length ≤ n → s₁.gens = #[] →
      codeAny (model l.prog w) callerA (.call (.ref fa) ⟨[.ref a], []⟩) (fun r s' => r = .ok (.ret (.bool true)) ∧ OldK s₁.heap s'.heap ∧ s'.os = s₁.os ∧ AllBare s'.gens) s₁) :
    WalkO q loose XP YP l.row.toRowW d [] (fun f vs => PySem.call f vs) := by
  intro w s₀ s₁ mg mb G Y fa o pm cd doc dV kV ho hd hcd hD hmg hg args vals as hpre hlay hrd hwl hlo
  obtain rfl : dV = .none := Dflts.none hD hdf
  obtain rfl : kV = .none := Dflts.noKw hD
  obtain ⟨a, vs, ns, rfl, rfl, hobj, hints, hlen⟩ := script_of hn hpre hwl
  refine enter_call (codeAny_mono (call w s₀ s₁ mg mb fa o pm cd doc a vs ns G Y ho (fd_plain hd) hcd hmg hobj hints hlen hg) fun r s' hq => ?_)
  obtain ⟨rfl, h2, h3, h4⟩ := hq
  exact ⟨.inl ⟨.bool true, .bool true, [], rfl, fun _ => rfl, .bool true, post_true l _, fun _ => ⟨List.Pairwise.nil, fun _ hm => (nomatch hm)⟩⟩, h2, h3, h4⟩

/-! ### rules over ANY heap (no ledger) from facts about the written part K: the library's own take a ledger (News) for what they write -/
section
variable {prog : Program} {w : World} {A : Around} {E : Value → Shared → Prop} {s : Shared} {K : Frag}

/-! the whole heap as the ledger: makes every rule that writes through a ledger a rule over any heap -/
end
end Att

namespace L2
open PySem PySem.Spec PyProof.Rows

theorem vals_ints : ∀ {vs : List Value} {ns : List Int}, IntsAre vs ns → Vals (ns.map V.int) vs
  | _, _, .nil => .nil
  | _, _, .cons n t h => .cons ⟨t, rfl⟩ (vals_ints h)

def Only (H : Hp) : Prop := ∀ b, H b = none ∨ ∃ o xs, H b = some (.frz o (.lst xs))

theorem law_call {P : Program} {w : World} {K : PySem.W.Frag} {mg mb : Str → Option Value} {CX : CXT} {k : Nat} {fa a : Addr} {fd : FuncData} {x : Str} {sp : Sp} {s₁ : Shared} {vs : List Value} {ns : List Int}
    (KX : K.In s₁.heap) (hns : s₁.heap.Ns mainGlobals mg) (hb : s₁.heap.Ns builtinsNs mb) (hbb : ∀ x : Str, x ≠ "__name__" → mb x = bootBuiltins x) (hlim : s₁.heap.NoLimit) (hg : s₁.gens = #[])
    (ha : s₁.heap.get? a = some { cls := .type "list", data := .seq vs.toArray }) (hi : IntsAre vs ns) (hl : ns.length ≤ sizeLine) (hr : Room k callerA)
    (F : ∀ base : Heap, K.In base → base.Ns mainGlobals mg → FnOk P w K mg base CX k fa fd [x] sp) (hbind : ∀ (s : Shared) (u : Value), BindsTo s fd ⟨[u], []⟩ [(x, u)])
    (hsp : ∀ H : Hp, Only H → SqL K H a (ns.map V.int) → sp [.ref a] H (fun v _ => v = .bl true) fun _ _ _ => False)
    (hCX : ∀ H e s', CX [] H s₁ (fun _ _ _ => False) e s' → False) :
    codeAny (model P w) callerA (.call (.ref fa) ⟨[.ref a], []⟩) (fun r s' => r = .ok (.ret (.bool true)) ∧ OldK s₁.heap s'.heap ∧ s'.os = s₁.os ∧ AllBare s'.gens) s₁ := by
  have rv := vals_ints hi
  have lenV := hi.length
  -- from an abstract heap in which nothing but the script may be tracked
  have core : ∀ H : Hp, Only H → SqL K H a (ns.map V.int) → HOk P w H s₁.heap → (∀ b, H b ≠ none → b = a) → (H a ≠ none → K.lookup a = none) →
      codeAny (model P w) callerA (.call (.ref fa) ⟨[.ref a], []⟩) (fun r s' => r = .ok (.ret (.bool true)) ∧ OldK s₁.heap s'.heap ∧ s'.os = s₁.os ∧ AllBare s'.gens) s₁ := by
    intro H hO hS hok hA hK
    have base_of : ∀ {b : Addr} {o : Obj}, s₁.heap.get? b = some o → H b = none → (hidT s₁.heap H).get? b = some o := fun e n => hidT_get e n
    have noA : ∀ {b : Addr} {o : Obj} {es : Array DictEntry} {ep : Nat}, s₁.heap.get? b = some o → o.data = .dict es ep → H b = none := fun {b o es ep} e d => by
      cases q : H b with
      | none => rfl
      | some u =>
        have e' : b = a := hA b (by rw [q]; simp)
        subst e'
        rw [ha] at e; cases e
        have d' : Data.seq vs.toArray _ = Data.dict es ep := d
        cases d'
    have nsK : ∀ {b : Addr} {m : Str → Option Value}, s₁.heap.Ns b m → (hidT s₁.heap H).Ns b m := fun {b m} ⟨o, es, ep, e, d, r⟩ => ⟨o, es, ep, base_of e (noA e d), d, r⟩
    have hKb : K.In (hidT s₁.heap H) := fun b o e => base_of (KX b o e) (by
      cases q : H b with
      | none => rfl
      | some u =>
        have e' : b = a := hA b (by rw [q]; simp)
        subst e'
        rw [hK (by rw [q]; simp)] at e; cases e)
    have hM : Mod K mg (hidT s₁.heap H) := ⟨hKb, nsK hns, ⟨mb, nsK hb, hbb⟩, let ⟨mc, h1, h2⟩ := hlim; ⟨mc, nsK h1, h2⟩⟩
    have e0 : Env0 P w K mg (hidT s₁.heap H) callerA [] s₁ H := ⟨rfl, hM, fun b o e => of_hidT e, Nat.le_of_eq (hidT_size _ _), trivial, fun b hb => absurd (show b ∈ ([] : List Addr) from hb) (by simp), hok, .of_eq hg⟩
    refine codeAny_mono ((F _ hKb (nsK hns)).run callerA [] s₁ H ⟨[.ref a], []⟩ [.ref a] [.ref a] _ _ hr e0 (hbind s₁ (.ref a)) (.cons rfl .nil) (hsp H hO hS)) fun r s' h => ?_
    cases r with
    | error e => exact (hCX H e s' h).elim
    | ok fl =>
      cases fl with
      | next => exact False.elim h
      | brk => exact False.elim h
      | cont => exact False.elim h
      | ret u =>
        obtain ⟨v, H', os, bare, un, hok', r', q⟩ := h
        have q' : v = .bl true := q
        subst q'
        obtain rfl : u = Value.bool true := r'
        refine ⟨rfl, OldK.of_keep fun b o e => ?_, os, bare⟩
        cases q : H b with
        | none => exact un.keep b o e q (by intro z; exact absurd (show b ∈ ([] : List Addr) from z) (by simp)) (by simp)
        | some u =>
          rcases hO b with z | ⟨ob, xs, z⟩
          · rw [q] at z; cases z
          · have z2 := un.frzs b ob _ z
            obtain ⟨e1, _⟩ := hok b _ z
            obtain ⟨e2, _⟩ := hok' b _ z2
            rw [e] at e1; cases e1
            exact e2
  cases hk : K.lookup a with
  | some o =>
    -- the script is one of the module's own objects
    have e := KX a o hk
    rw [ha] at e
    cases e
    refine core (fun _ => none) (fun _ => .inl rfl) (.inr ⟨_, vs.toArray, _, hk, rfl, rfl, rfl, by rw [List.size_toArray, lenV]; exact hl, by simpa using rv⟩) (fun b u z => by have z' : (none : Option HO) = some u := z; cases z') (fun b z => absurd rfl z) fun z => absurd rfl z
  | none =>
    refine core (fun b => if b = a then some (.frz { cls := .type "list", data := .seq vs.toArray } (.lst (ns.map V.int))) else none) (fun b => ?_) (.inl (.inr ⟨{ cls := .type "list", data := .seq vs.toArray }, if_pos rfl⟩)) (fun b u z => ?_) (fun b z => ?_) fun _ => hk
    · by_cases hb : b = a
      · exact .inr ⟨_, _, if_pos hb⟩
      · exact .inl (if_neg hb)
    · by_cases hb : b = a
      · have z' := (if_pos hb).symm.trans z
        cases z'
        subst hb
        exact ⟨ha, by rw [List.length_map]; exact hl, vs, _, rv, ha⟩
      · have z' := (if_neg hb).symm.trans z
        cases z'
    · by_cases hb : b = a
      · exact hb
      · exact absurd (if_neg hb) z
end L2

namespace L2
open PySem PySem.Spec PyProof.Rows

theorem walk_of {l : PySem.W.OpenLaw} {n k : Nat} {q : Program} {loose : List Str} {XP : (Str → Option Value) → Heap → Prop} {YP : World → Heap → Prop} {d : DefRec} {K : Params → PySem.W.Frag} {CX : World → CXT} {sp : World → Sp} {x : Str}
    (hn : l.most = some n) (hn2 : n ≤ sizeLine) (hdf : d.params.defaults = []) (hr : Room k callerA)
    (hY : ∀ (w : World) (h : Heap), YP w h → (K w.params).In h)
    (F : ∀ (w : World) (mg : Str → Option Value) (fa : Addr) (h : Heap), (K w.params).In h → h.Ns mainGlobals mg → mg d.name = some (.ref fa) →
      ∃ fd : FuncData, (∀ (s : Shared) (u : Value), BindsTo s fd ⟨[u], []⟩ [(x, u)]) ∧
        ∀ base : Heap, (K w.params).In base → base.Ns mainGlobals mg → FnOk l.prog w (K w.params) mg base (CX w) k fa fd [x] (sp w))
    (hsp : ∀ (w : World) (H : Hp) (a : Addr) (ns : List Int), ns.length ≤ n → Only H → SqL (K w.params) H a (ns.map V.int) → sp w [.ref a] H (fun v _ => v = .bl true) fun _ _ _ => False)
    (hCX : ∀ (w : World) (H : Hp) (s : Shared) (e : Value) (s' : Shared), CX w [] H s (fun _ _ _ => False) e s' → False) :
    PySem.W.WalkO q loose XP YP l.row.toRowW d [] (fun f vs => PySem.call f vs) := by
  refine Att.attach_call hn hdf fun w s₀ s₁ mg mb fa o pm cd doc a vs ns G Y ho hd hcd hmg hobj hints hlen hg => ?_
  have KX := hY w _ Y
  obtain ⟨fd, hb, hF⟩ := F w mg fa _ KX G.T.g hmg
  exact law_call KX G.T.g G.T.b G.T.builtins G.T.nolimit hg hobj hints (Nat.le_trans hlen hn2) hr hF hb (fun H hO hS => hsp w H a ns hlen hO hS) fun H e s' => hCX w H s₁ e s'
end L2

/- THE LAST THEOREM (shape; LID, My.* are yours):
   My.Adr: a structure of the addresses that your layer names (classes, functions); My.Txt K t: a structure (Prop) of the equations over K;
   My.txt_mk : {K} {implicit addresses ..} (e1 : nsIn K mainGlobals "law" = some (some (.ref f))) (e2 : K.lookup f = some ⟨oc, od, .func (fnOf "law" "law" params body scope dV kV doc pm an cdv ct), sl⟩) (e3 : codeIn K cdv "law" = true) .. : ∃ t, My.Txt K t

set_option maxRecDepth 100000 in
set_option maxHeartbeats 0 in
theorem PySem.Challenge.cw_LID_holds : PySem.Challenge.rw_LID.Holds := by
  w_on; o_law; k_head; (case hw => w_witness2)
  k_fill
  refine L2.walk_of (l := PySem.Challenge.rw_LID) (n := 63) (k := 40) (x := "script") (CX := fun w => ..) (sp := fun _ => My.sp_law) rfl (by decide) rfl ⟨rfl, by decide, by decide⟩ (fun w h Y => PySem.W.kIn_of Y) ?F ?S ?C
  case F =>
    intro w mg fa h KX G hmg
    have T : ∃ t, My.Txt (L2.KOf KX) t := by
      dsimp only [L2.KOf]                          -- K must stand as «<heap const> w.params» for k_is
      refine' My.txt_mk ?e1 ?e2 ?e3 ..
      (case e1 => PySem.W.k_is)                    -- in the order: a name -> its address -> its object -> its parts
      (case e2 => PySem.W.k_is)
      ..
    obtain ⟨t, T⟩ := T
    have e0 := hmg.symm.trans (PySem.W.mg_of KX G T.law)
    cases e0                                       -- fa is the law's own address
    exact ⟨_, fun s u => .of_eq rfl, fun base kb nb => My.law_fn T kb nb⟩     -- if «.of_eq rfl» comes too early: refine' ⟨_, ?b, fun base kb nb => My.law_fn T kb nb⟩; exact fun s u => .of_eq rfl
  case S => exact fun w H a ns hl hO hS => ..
  case C => exact ..
(the tactic k_is has no namespace: write k_is) -/

/-! SHORT WORDS over the layer: a def of the text, its body, what a loop and a test want. -/
namespace L2
open PySem PySem.Spec PyProof.Rows

/-! ### the text by places -/
def inClass (s : Stmt) (j : Nat) : Stmt := match s with
  | .ClassDef _ _ _ body _ _ _ _ _ _ _ => body.getD j (.Pass ⟨0, 0, 0, 0⟩)
  | _ => .Pass ⟨0, 0, 0, 0⟩
def defArgs (s : Stmt) : Arguments := match s with
  | .FunctionDef _ a _ _ _ _ _ _ _ _ => a
  | _ => { posonlyargs := [], args := [], vararg := none, kwonlyargs := [], kw_defaults := [], kwarg := none, defaults := [] }
def defBody (s : Stmt) : List Stmt := match s with
  | .FunctionDef _ _ b _ _ _ _ _ _ _ => b
  | _ => []
def defScope (s : Stmt) : Scope := match s with
  | .FunctionDef _ _ _ _ _ _ sc _ _ _ => sc
  | _ => { kind := .function, names := [], isGenerator := false, isCoroutine := false }

/-! ### no exception leaves a def -/
abbrev CX0 : CXT := fun _ _ _ _ _ _ => False
abbrev E0 : XK := fun _ _ _ => False
theorem pass0 {X : Cx} : Passes CX0 X E0 := fun _ _ _ _ _ _ _ h => h.elim

/-! ### a def (or method) of the text as it stands behind the top -/
structure Fun (K : PySem.W.Frag) (x qual : Str) (st : Stmt) (f : Addr) (fd : FuncData) : Prop where
  ex : ∃ (oc : Value) (od : Option Addr) (kV doc pm : Value) (an : Option Addr) (cdv ct : Value) (osl : Array (Option Value)),
    fd = PySem.W.fnOf x qual (defArgs st) (defBody st) (defScope st) .none kV doc pm an cdv ct ∧ K.lookup f = some ⟨oc, od, .func fd, osl⟩ ∧ PySem.W.codeIn K cdv qual = true
  kp : PySem.W.keepIn K (.ref f) = true
section
variable {P : Program} {w : World} {K : PySem.W.Frag} {mg : Str → Option Value} {base : Heap}
theorem Fun.ok {x qual : Str} {st : Stmt} {f : Addr} {fd : FuncData} {N ps : List Str} {k : Nat} {sp : Sp} (F : Fun K x qual st f fd) (S : FnScope N ps (defScope st)) (len : ∀ vs H Q E, sp vs H Q E → vs.length = ps.length)
    (hbody : ∀ (cdv : Value) (A : Around) (outer : List Env) (s : Shared) (H : Hp) (vs : List V) (Q : VK) (E : XK), Room k (A.deeper (envOfC qual (defScope st) s.heap.objs.size f cdv)) → sp vs H Q E →
      ∃ t, PSs (cxOf CX0 P w K mg base N qual (defScope st) f cdv A outer s H E).nox (defBody st) t ∧ t { nx := fun _ H' => Q .non H', rt := Q } (start N vs) H) : FnOk P w K mg base CX0 (k + 1) f fd ps sp := by
  obtain ⟨oc, od, kV, doc, pm, an, cdv, ct, osl, rfl, lk, hcd⟩ := F.ex
  refine fn_of lk hcd S len fun A outer s H vs Q E hr hsp => ?_
  obtain ⟨t, h, q⟩ := hbody cdv A outer s H vs Q E hr hsp
  exact ⟨t, h.nox, q⟩
theorem Fun.binds {x qual : Str} {st : Stmt} {f : Addr} {fd : FuncData} {ps : List Str} (F : Fun K x qual st f fd)
    (h : ∀ (kV doc pm : Value) (an : Option Addr) (cdv ct : Value) (us : List Value), us.length = ps.length → bindArgs (PySem.W.fnOf x qual (defArgs st) (defBody st) (defScope st) .none kV doc pm an cdv ct) ⟨us, []⟩ = pure (ps.zip us)) : Binds K fd ps [] := by
  obtain ⟨oc, od, kV, doc, pm, an, cdv, ct, osl, rfl, lk, hcd⟩ := F.ex
  exact .all (h kV doc pm an cdv ct)
theorem fun_mk {x qual : Str} {st : Stmt} {f : Addr} {oc : Value} {od an : Option Addr} {osl : Array (Option Value)} {kV doc pm cdv ct : Value} (l : K.lookup f = some ⟨oc, od, .func (PySem.W.fnOf x qual (defArgs st) (defBody st) (defScope st) .none kV doc pm an cdv ct), osl⟩)
    (c : PySem.W.codeIn K cdv qual = true) (k : PySem.W.keepIn K (.ref f) = true) : Fun K x qual st f (PySem.W.fnOf x qual (defArgs st) (defBody st) (defScope st) .none kV doc pm an cdv ct) := ⟨⟨oc, od, kV, doc, pm, an, cdv, ct, osl, rfl, l, c⟩, k⟩
end
theorem hu_of {A : Around} {k : Nat} (hr : Room k A) : A.units + 1 < cLine := Nat.lt_of_le_of_lt (Nat.add_le_add_left (by decide : 1 ≤ 64) _) hr.units
theorem small1000 {n : Nat} (h : n ≤ 1000) : n < sizeLine := Nat.lt_of_le_of_lt h (by decide)

/-! ### expressions in short: the name that stands in the i-th slot -/
section
variable {X : Cx}
theorem pv (i : Nat) {x : Str} {pos : Pos} (hN : X.N[i]? = some x := by rfl) (hv : Vis X.env.scope x := by first | exact Or.inl rfl | exact Or.inr (Or.inl rfl) | exact Or.inr (Or.inr rfl)) (hd : (x == ("__debug__" : Str)) = false := by decide)
    (hcd : (x == ("__classdict__" : Str)) = false := by decide) : PE X (.Name x pos) (tVar i) := pe_var hN hv hd hcd
end

/-! ### tests -/
theorem iteF {A B : Prop} (h : B) : if false = true then A else B := by
  rw [if_neg Bool.false_ne_true]
  exact h
theorem iteT {A B : Prop} (h : A) : if true = true then A else B := by
  rw [if_pos rfl]
  exact h
theorem ite2 {c A B : Prop} [Decidable c] (h1 : c → A) (h2 : ¬ c → B) : if c then A else B := by
  by_cases h : c
  · rw [if_pos h]
    exact h1 h
  · rw [if_neg h]
    exact h2 h
/-! ### heaps -/
def Same (H H' : Hp) : Prop := ∀ b o, H b = some o → H' b = some o
theorem Same.refl (H : Hp) : Same H H := fun _ _ h => h
theorem Same.trans {H H1 H2 : Hp} (a : Same H H1) (b : Same H1 H2) : Same H H2 := fun c o h => b c o (a c o h)
theorem Same.free {H H' : Hp} (e : Same H H') {l : Addr} (h : H' l = Option.none) : H l = Option.none := by
  cases q : H l with
  | none => rfl
  | some o =>
    rw [e l o q] at h
    cases h
theorem Same.seq {K : PySem.W.Frag} {H H' : Hp} {a : Addr} {xs : List V} (e : Same H H') (h : SqL K H a xs) : SqL K H' a xs := by
  rcases h with (h | ⟨o, h⟩) | h
  · exact .inl (.inl (e _ _ h))
  · exact .inl (.inr ⟨o, e _ _ h⟩)
  · exact .inr h

section
variable {X : Cx}
end
/-! ### a dict's pairs: keys that differ -/
section
variable {κ : Type} [DecidableEq κ]
end
end L2

set_option Elab.async false
set_option linter.all false
set_option maxRecDepth 100000
set_option maxHeartbeats 4000000
/-! our own rules over the hand layer -/
namespace L2
open PySem PySem.Spec PyProof.Rows

/-! ### values as data, over the abstract heap -/
mutual
inductive Rp (K : PySem.W.Frag) (H : Hp) : V → PyData → Prop
  | non : Rp K H .non .none
  | bl (b : Bool) : Rp K H (.bl b) (.bool b)
  | int (i : Int) : Rp K H (.int i) (.int i)
  | str (x : Str) : Rp K H (.str x) (.str x)
  | lst {a : Addr} {xs : List V} {ds : List PyData} : H a = some (.lst xs) → RpL K H xs ds → Rp K H (.ref a) (.list ds)
  | tup {a : Addr} {xs : List V} {ds : List PyData} : H a = some (.tup xs) → RpL K H xs ds → Rp K H (.ref a) (.tuple ds)
inductive RpL (K : PySem.W.Frag) (H : Hp) : List V → List PyData → Prop
  | nil : RpL K H [] []
  | cons {x : V} {d : PyData} {xs : List V} {ds : List PyData} : Rp K H x d → RpL K H xs ds → RpL K H (x :: xs) (d :: ds)
end
mutual
theorem Rp.mono {K : PySem.W.Frag} {H H' : Hp} (g : Same H H') : ∀ {v : V} {d : PyData}, Rp K H v d → Rp K H' v d
  | _, _, .non => .non
  | _, _, .bl b => .bl b
  | _, _, .int i => .int i
  | _, _, .str x => .str x
  | _, _, .lst h r => .lst (g _ _ h) (RpL.mono g r)
  | _, _, .tup h r => .tup (g _ _ h) (RpL.mono g r)
theorem RpL.mono {K : PySem.W.Frag} {H H' : Hp} (g : Same H H') : ∀ {vs : List V} {ds : List PyData}, RpL K H vs ds → RpL K H' vs ds
  | _, _, .nil => .nil
  | _, _, .cons h r => .cons (Rp.mono g h) (RpL.mono g r)
end
mutual
theorem Rp.reads {X : Cx} {pins : List (Addr × Obj)} {σ : St} {H : Hp} {s : Shared} (I : Inv X pins σ H s) : ∀ {v : V} {d : PyData} {u : Value}, Rp X.K H v d → RelV v u → ∃ as, Reads s.heap u d as
  | _, _, _, .non, r => by cases r; exact ⟨_, .none⟩
  | _, _, _, .bl b, r => by cases r; exact ⟨_, .bool b⟩
  | _, _, _, .int i, r => by obtain ⟨t, rfl⟩ := r; exact ⟨_, .int i t⟩
  | _, _, _, .str x, r => by obtain ⟨t, rfl⟩ := r; exact ⟨_, .str x t⟩
  | _, _, _, .lst h q, r => by
    cases r
    obtain ⟨its, rv, ⟨o, n, e, hc, hd, hs⟩, _⟩ := I.list (SqL.of h)
    obtain ⟨as, ra⟩ := RpL.reads I q rv
    exact ⟨_, .list e hc hs (by simpa using ra)⟩
  | _, _, _, .tup h q, r => by
    cases r
    obtain ⟨its, rv, ⟨o, e, hc, n, hs⟩, _⟩ := I.tuple (SqT.of h)
    obtain ⟨as, ra⟩ := RpL.reads I q rv
    exact ⟨_, .tuple e hc hs (by simpa using ra)⟩
theorem RpL.reads {X : Cx} {pins : List (Addr × Obj)} {σ : St} {H : Hp} {s : Shared} (I : Inv X pins σ H s) : ∀ {vs : List V} {ds : List PyData} {us : List Value}, RpL X.K H vs ds → Vals vs us → ∃ as, ReadsAll s.heap us ds as
  | _, _, _, .nil, .nil => ⟨_, .nil⟩
  | _, _, _, .cons h q, .cons r t => by
    obtain ⟨as, ra⟩ := Rp.reads I h r
    obtain ⟨bs, rb⟩ := RpL.reads I q t
    exact ⟨_, .cons ra rb⟩
end
theorem same_new {H : Hp} {p : Addr} (h : H p = none) (o : HO) : Same H (upd H p o) := fun b u q => by rw [upd_ne (ne_of_none q h)]; exact q

section
variable {X : Cx}
/-! ### == and != of data (lists, tuples, flat values, at any depth) -/
def rNeD (K : PySem.W.Frag) : R2 := fun x y H Q => ∃ d e, Rp K H x d ∧ Rp K H y e ∧ SeqAt.shaped d = true ∧ SeqAt.shaped e = true ∧ Q (.bl (!PyData.eqv d e)) H
theorem op_neD (hu : X.A.units + 64 < cLine) : OpR X (compareOp .NotEq) (rNeD X.K) := by
  intro pins s σ H x y v u Q I rx ry h
  obtain ⟨d, e, hx, hy, sd, se, q⟩ := h
  obtain ⟨as, ra⟩ := hx.reads I rx
  obtain ⟨bs, rb⟩ := hy.reads I ry
  exact ne_dataH ra rb sd se hu ⟨.bl _, H, I, rfl, q⟩
/-! ### != of two dicts that hold the same flat pairs -/
/-! ### dict(d) -/
/-! ### isinstance(x, T), T a built-in type -/
end

/-! ### items of tracked lists and tuples -/
def rIxG : R2 := fun x y H Q => ∃ p i xs v, x = .ref p ∧ y = .int i ∧ (H p = some (.tup xs) ∨ H p = some (.lst xs)) ∧ atI xs i = some v ∧ Q v H
theorem ix_g {X : Cx} : IxR X rIxG := by
  intro value slice pins s σ H x y v u Q I rx ry h hs
  obtain ⟨p, i, xs, z, rfl, rfl, hq, he, q⟩ := h
  rcases hq with hq | hq
  · exact ix_tup value slice pins s σ H _ _ v u Q I rx ry ⟨p, xs, i, z, rfl, rfl, SqT.of hq, he, q⟩ hs
  · exact ix_list value slice pins s σ H _ _ v u Q I rx ry ⟨p, xs, i, z, rfl, rfl, SqL.of hq, he, q⟩ hs
theorem atI_0 {α : Type} {a : α} {l : List α} : atI (a :: l) 0 = some a := atI_nat (j := 0) rfl
theorem atI_1 {α : Type} {a b : α} {l : List α} : atI (a :: b :: l) 1 = some b := atI_nat (j := 1) rfl
theorem atI_2 {α : Type} {a b c : α} {l : List α} : atI (a :: b :: c :: l) 2 = some c := atI_nat (j := 2) rfl
theorem atI_3 {α : Type} {a b c d : α} {l : List α} : atI (a :: b :: c :: d :: l) 3 = some d := atI_nat (j := 3) rfl
theorem atI_4 {α : Type} {a b c d e : α} {l : List α} : atI (a :: b :: c :: d :: e :: l) 4 = some e := atI_nat (j := 4) rfl
theorem fresh_any {H : Hp} {o : HO} {R : Addr → Hp → Prop} (h : ∀ p H', H p = none → Same H H' → H' p = some o → R p H') : ∀ p, H p = none → R p (upd H p o) := fun p hp => h p _ hp (same_new hp o) upd_same
theorem sz {n : Nat} (h : n ≤ 1000) : (n ≤ sizeLine) = True := eq_true (Nat.le_of_lt (small1000 h))
theorem mn1 {n : Nat} : min 1 (n + 1) = 1 := by omega
theorem mn2 {n : Nat} : min 2 (n + 2) = 2 := by omega
theorem na2 : Int.natAbs 2 = 2 := rfl
theorem na10 : Int.natAbs 10 = 10 := rfl
theorem sz0 : (0 ≤ sizeLine) = True := sz (by decide)
theorem sz1 : (1 ≤ sizeLine) = True := sz (by decide)
theorem sz2 : (2 ≤ sizeLine) = True := sz (by decide)
theorem sz3 : (3 ≤ sizeLine) = True := sz (by decide)
theorem sz4 : (4 ≤ sizeLine) = True := sz (by decide)
theorem sz5 : (5 ≤ sizeLine) = True := sz (by decide)
theorem sz6 : (6 ≤ sizeLine) = True := sz (by decide)
theorem ofString_inj {a b : String} : (Str.ofString a = Str.ofString b) = (a = b) := by
  apply propext
  constructor
  · intro h
    rw [Str.ofString_eq_toList, Str.ofString_eq_toList] at h
    injection h with h
    have h2 : a.toList.map Char.toNat = b.toList.map Char.toNat := by simpa using congrArg Array.toList h
    have inj : ∀ c d : Char, c.toNat = d.toNat → c = d := fun c d e => Char.ext (UInt32.toNat_inj.mp e)
    exact String.toList_inj.mp (List.map_inj_right (fun c d e => inj c d e) |>.mp h2)
  · rintro rfl; rfl
/-! ### dicts, by what the key is -/
def keyOf : V → Option Key
  | .int i => some (.inl i)
  | .str x => some (.inr x)
  | _ => none
theorem kV_of {y : V} {k : Key} (h : keyOf y = some k) : y = kV k := by
  cases y <;> simp only [keyOf, Option.some.injEq, reduceCtorEq] at h <;> subst h <;> rfl
section
variable {X : Cx} {i o e value : Expr} {ty td te tv : TE} {pos pos' apos cpos : Pos}
def tDInG (ty td : TE) : TE := fun σ H Q => ty σ H fun y H1 => td σ H1 fun x H2 => ∃ a kvs k, x = .ref a ∧ H2 a = some (.dK kvs) ∧ keyOf y = some k ∧ Q (.bl (valV kvs k).isSome) H2
def tDNotInG (ty td : TE) : TE := fun σ H Q => ty σ H fun y H1 => td σ H1 fun x H2 => ∃ a kvs k, x = .ref a ∧ H2 a = some (.dK kvs) ∧ keyOf y = some k ∧ Q (.bl (!(valV kvs k).isSome)) H2
def tDGetG (td ty : TE) : TE := fun σ H Q => td σ H fun x H1 => ty σ H1 fun y H2 => ∃ a kvs k v, x = .ref a ∧ H2 a = some (.dK kvs) ∧ keyOf y = some k ∧ valV kvs k = some v ∧ Q v H2
def sDPutG (td ty tv : TE) : TS := fun D σ H => tv σ H fun v H1 => td σ H1 fun x H2 => ty σ H2 fun y H3 => ∃ a kvs k, x = .ref a ∧ H3 a = some (.dK kvs) ∧ keyOf y = some k ∧ kvs.length < sizeLine ∧ D.nx σ (upd H3 a (.dK (putK kvs k v)))
theorem pe_dgetG (hu : X.A.units + 1 < cLine) (ho : PE X o td) (hi : PE X i ty) (hs : NoSl i) : PE X (.Subscript o i pos) (tDGetG td ty) := by
  intro pins s σ H Q I h
  refine subD_of PySem.F.slot_dict_getitem.lookup hs (thn (ho pins s σ H _ I h) fun u s1 ⟨x, H1, I1, rx, q1⟩ => thn (hi pins s1 σ H1 _ I1 q1) fun iv s2 ⟨y, H2, I2, ry, a, kvs, k, v, ex, ha, ek, ev, q2⟩ => ?_)
  subst ex
  obtain rfl : u = Value.ref a := rx
  have g : DGet H2 a y (some v) := by rw [kV_of ek, ← ev]; exact DGet.k ha
  exact ⟨dict_typeIs I2 g, d_getItem hu I2 g ry fun w' s3 I3 rw' => ⟨v, H2, I3, rw', q2⟩⟩
theorem ps_dputG (hu : X.A.units + 1 < cLine) (ho : PE X o td) (hi : PE X i ty) (hv : PE X value tv) (hs : swapsWith value (some (.Subscript o i pos')) pos.line X.env = pure false := by rfl) :
    PS X (.Assign [.Subscript o i pos'] value pos) (sDPutG td ty tv) := by
  intro pins s σ H D I h
  refine wpAny_Assign_Subscript (thn (hv pins s σ H _ I h) fun r s1 ⟨v, H1, I1, rv, q1⟩ => thn (ho pins s1 σ H1 _ I1 q1) fun u s2 ⟨x, H2, I2, rx, q2⟩ => thn (hi pins s2 σ H2 _ I2 q2) fun iv s3 ⟨y, H3, I3, ry, a, kvs, k, ex, ha, ek, hz, q3⟩ => ?_) hs
  subst ex
  obtain rfl : u = Value.ref a := rx
  have g : DPut H3 a y v (upd H3 a (.dK (putK kvs k v))) := by rw [kV_of ek]; exact DPut.k ha hz
  exact d_setItem hu I3 g ry rv fun s4 I4 => ⟨σ, _, I4, q3⟩
def tApp (to te : TE) : TE := fun σ H Q => to σ H fun x H1 => ∃ l xs, x = .ref l ∧ H1 l = some (.lst xs) ∧ te σ H1 fun y H2 => rAppend (.ref l) [y] H2 Q
theorem pe_app (ho : PE X o td) (he : PE X e te)
    (hbase : attributeBase o "append" X.env (eval o X.env) = eval o X.env := by rfl)
    (hfew : ((backTo cpos (starEach [e] X.env)).all (fun x => !x.1) && (backToKw cpos (keywordEach [] X.env)).all (fun x => x.1.isSome)
      && decide ([e].length + ([] : List Keyword).length + (if ([] : List Keyword).isEmpty then 0 else 1) < 30)) = true := by rfl)
    (hline : (apos.endLine == cpos.line) = true := by rfl) (hs : starEach [e] X.env = [(false, eval e X.env)] := by rfl) :
    PE X (.Call (.Attribute o "append" apos) [e] [] cpos) (tApp td te) := by
  intro pins s σ H Q I h
  refine wpAny_Call_method_late hbase hfew hline rfl (thn (ho pins s σ H _ I h) fun v s1 ⟨x, H1, I1, r1, l, xs, ex, hl, q1⟩ => ?_)
  subst ex
  obtain ⟨h1, h2⟩ := tyV_is (T := "list") I1 r1 (Or.inl ⟨rfl, xs, SqL.of hl⟩)
  refine ⟨"list", _, PySem.F.plainAttrs_list, PySem.F.slot_list_append, PySem.F.type_list_append, h1, h2, ?_⟩
  have hA := (pa_cons he pa_nil (hs := by rw [hs]; rfl)) cpos pins s1 σ H1 (fun vs H2 => rAppend (.ref l) vs H2 Q) I1 q1
  rw [hs] at hA ⊢
  refine Calls.callWith_builtin (by rfl) (Calls.evalArgs_plain ?_)
  exact thn hA fun us s2 ⟨vs, H2, I2, r2, q2⟩ => mt_append pins s2 σ H2 _ vs v us Q I2 r1 r2 q2
end

/-! ### facts that simp uses -/
theorem scal_ss {a b : Str} : scal (.str a) (.str b) = true := rfl
theorem scal_ii {a b : Int} : scal (.int a) (.int b) = true := rfl
theorem scal_bb {a b : Bool} : scal (.bl a) (.bl b) = true := rfl
theorem scal_nn : scal .non .non = true := rfl
theorem scal_ns {b : Str} : scal .non (.str b) = true := rfl
theorem scal_sn {b : Str} : scal (.str b) .non = true := rfl
theorem scal_ni {b : Int} : scal .non (.int b) = true := rfl
theorem scal_in {b : Int} : scal (.int b) .non = true := rfl
theorem keyOf_s {a : Str} : keyOf (.str a) = some (.inr a) := rfl
theorem keyOf_i {a : Int} : keyOf (.int a) = some (.inl a) := rfl
theorem flat_s {a : Str} : flatV (.str a) = true := rfl
theorem flat_i {a : Int} : flatV (.int a) = true := rfl
theorem flat_n : flatV .non = true := rfl
theorem flat_b {a : Bool} : flatV (.bl a) = true := rfl
theorem inV_nil {x : V} : inV x [] = false := rfl
theorem inV_cons {x y : V} {l : List V} : inV x (y :: l) = (eqV y x || inV x l) := rfl
theorem eqV_ss {a b : Str} : eqV (.str a) (.str b) = decide (a = b) := by
  show (a == b) = _
  rw [Bool.eq_iff_iff]; simp
theorem eqV_ii {a b : Int} : eqV (.int a) (.int b) = decide (a = b) := by
  show (a == b) = _
  rw [Bool.eq_iff_iff]; simp
theorem cx_K {CX : CXT} {P : Program} {w : World} {K : PySem.W.Frag} {mg : Str → Option Value} {base : Heap} {N : List Str} {qual : Str} {scope : Scope} {f : Addr} {cd : Value} {A : Around} {outer : List Env} {s : Shared} {H : Hp} {E : XK} : (cxOf CX P w K mg base N qual scope f cd A outer s H E).K = K := rfl
section
variable {X : Cx}
def rInG (neg : Bool) : R2 := fun x y H Q => ∃ p xs, y = .ref p ∧ (H p = some (.tup xs) ∨ H p = some (.lst xs)) ∧ flatV x = true ∧ xs.all flatV = true ∧ Q (.bl (if neg then !inV x xs else inV x xs)) H
def gTupG (n : Nat) (t : TGs) : TG := fun v σ H Q => ∃ a xs, v = .ref a ∧ H a = some (.tup xs) ∧ xs.length = n ∧ t xs σ H Q
theorem pg_tupG {es : List Expr} {k : Nat} {t : TGs} {pos : Pos} (n : Nat) (hc : X.calm = true) (h : PGs X es t)
    (hn : (assignEach es X.env).length = n := by rfl) (hst : (assignEach es X.env).findIdx? (·.1) = none := by rfl) : PG X (.Tuple es k pos) (gTupG n t) := by
  intro pins s σ H v u Q I r hw
  obtain ⟨a, xs, e1, hq, hl, hw⟩ := hw
  exact pg_tup hc h hn hst pins s σ H v u Q I r ⟨a, xs, e1, SqT.of hq, hl, hw⟩
def tM (t : TE) : TE := fun σ H Q => ∃ Q1 : VK, t σ H Q1 ∧ ∀ v H', Q1 v H' → Q v H'
theorem PE.up {e : Expr} {t : TE} (h : PE X e t) : PE X e (tM t) := by
  intro pins s σ H Q I hq
  obtain ⟨Q1, h1, h2⟩ := hq
  exact thn (h pins s σ H Q1 I h1) fun u s' ⟨v, H', I', r, q⟩ => ⟨v, H', I', r, h2 v H' q⟩
def rSlG : V → Option Int → Option Int → Hp → VK → Prop := fun x lo hi H Q => ∃ a xs, x = .ref a ∧
  ((H a = some (.tup xs) ∧ ¬ (HT.sIx xs.length 0 lo = 0 ∧ HT.sIx xs.length xs.length hi = xs.length) ∧ ∀ p H', H p = none → Same H H' → H' p = some (.tup (cutV xs lo hi)) → Q (.ref p) H') ∨
   (H a = some (.lst xs) ∧ ∀ p H', H p = none → Same H H' → H' p = some (.lst (cutV xs lo hi)) → Q (.ref p) H'))
theorem sl_g : SlR X rSlG := by
  intro pins s σ H x v vl vu lo hi sl Q I rx hs pl pu h
  obtain ⟨a, xs, rfl, ⟨ha, hn, q⟩ | ⟨ha, q⟩⟩ := h
  · exact sl_tup pins s σ H _ v vl vu lo hi sl Q I rx hs pl pu ⟨a, xs, rfl, SqT.of ha, hn, fresh_any q⟩
  · exact sl_list pins s σ H _ v vl vu lo hi sl Q I rx hs pl pu ⟨a, xs, rfl, SqL.of ha, fresh_any q⟩
def rSlK (K : PySem.W.Frag) : V → Option Int → Option Int → Hp → VK → Prop := fun x lo hi H Q => ∃ a xs, x = .ref a ∧ SqL K H a xs ∧ ∀ p H', H p = none → Same H H' → H' p = some (.lst (cutV xs lo hi)) → Q (.ref p) H'
theorem sl_k : SlR X (rSlK X.K) := by
  intro pins s σ H x v vl vu lo hi sl Q I rx hs pl pu h
  obtain ⟨a, xs, rfl, ha, q⟩ := h
  exact sl_list pins s σ H _ v vl vu lo hi sl Q I rx hs pl pu ⟨a, xs, rfl, ha, fresh_any q⟩
/-! ### what is made lies in some heap that has all that was there -/
def tMA (t : TA) : TA := fun σ H Q => ∃ Q1 : List V → Hp → Prop, t σ H Q1 ∧ ∀ vs H', Q1 vs H' → Q vs H'
theorem PA.up {es : List Expr} {t : TA} (h : PA X es t) : PA X es (tMA t) := by
  intro pos pins s σ H Q I hq
  obtain ⟨Q1, h1, h2⟩ := hq
  exact thn (h pos pins s σ H Q1 I h1) fun us s' ⟨vs, H', I', r, q⟩ => ⟨vs, H', I', r, h2 vs H' q⟩
def tTupG (t : TA) : TE := fun σ H Q => t σ H fun xs H1 => xs.length ≤ sizeLine ∧ ∀ p H', H1 p = none → Same H1 H' → H' p = some (.tup xs) → Q (.ref p) H'
def tLstG (t : TA) : TE := fun σ H Q => t σ H fun xs H1 => xs.length ≤ sizeLine ∧ ∀ p H', H1 p = none → Same H1 H' → H' p = some (.lst xs) → Q (.ref p) H'
theorem pe_tupG {es : List Expr} {t : TA} {pos : Pos} {x1} (h : PA X es t) : PE X (.Tuple es x1 pos) (tTupG t) := fun pins s σ H Q I hq =>
  pe_tup h.up pins s σ H Q I ⟨_, hq, fun _ _ q => ⟨q.1, fresh_any q.2⟩⟩
theorem pe_lstG {es : List Expr} {t : TA} {pos : Pos} (h : PA X es t) : PE X (.List es pos) (tLstG t) := fun pins s σ H Q I hq =>
  pe_lst h.up pins s σ H Q I ⟨_, hq, fun _ _ q => ⟨q.1, fresh_any q.2⟩⟩
def tDNewG : TE := fun _ H Q => ∀ p H', H p = none → Same H H' → H' p = some (.dK []) → Q (.ref p) H'
theorem pe_dnewG {pos : Pos} : PE X (.Dict [] [] pos) tDNewG := fun pins s σ H Q I h => pe_dnewK pins s σ H Q I (fresh_any h)
def rDictG : List V → Hp → VK → Prop := fun xs H Q => ∃ a kvs, xs = [.ref a] ∧ H a = some (.dK kvs) ∧ ∀ p H', H p = none → Same H H' → H' p = some (.dK kvs) → Q (.ref p) H'
structure Mu (H : Hp) (l : Addr) (o : HO) (H' : Hp) : Prop where
  at_ : H' l = some o
  else_ : ∀ a, a ≠ l → H' a = H a
theorem Mu.mk' {H : Hp} {l : Addr} {o : HO} : Mu H l o (upd H l o) := ⟨upd_same, fun _ h => upd_ne h⟩
theorem Mu.old {H H' : Hp} {l a : Addr} {o u : HO} (m : Mu H l o H') (h : H a = some u) (n : a ≠ l) : H' a = some u := by rw [m.else_ a n]; exact h
theorem Mu.same {H0 H H' : Hp} {l : Addr} {o : HO} (m : Mu H l o H') (g : Same H0 H) (n : H0 l = none) : Same H0 H' := fun a u h => m.old (g a u h) (ne_of_none h n)
def tAppG (to te : TE) : TE := fun σ H Q => to σ H fun x H1 => ∃ l xs, x = .ref l ∧ H1 l = some (.lst xs) ∧ te σ H1 fun y H2 => ∃ ys, H2 l = some (.lst ys) ∧ ys.length < sizeLine ∧ ∀ H3, Mu H2 l (.lst (ys ++ [y])) H3 → Q .non H3
theorem pe_appG {o e : Expr} {td te : TE} {apos cpos : Pos} (ho : PE X o td) (he : PE X e te)
    (hbase : attributeBase o "append" X.env (eval o X.env) = eval o X.env := by rfl)
    (hfew : ((backTo cpos (starEach [e] X.env)).all (fun x => !x.1) && (backToKw cpos (keywordEach [] X.env)).all (fun x => x.1.isSome)
      && decide ([e].length + ([] : List Keyword).length + (if ([] : List Keyword).isEmpty then 0 else 1) < 30)) = true := by rfl)
    (hline : (apos.endLine == cpos.line) = true := by rfl) (hs : starEach [e] X.env = [(false, eval e X.env)] := by rfl) :
    PE X (.Call (.Attribute o "append" apos) [e] [] cpos) (tAppG td te) := fun pins s σ H Q I h =>
  pe_app ho.up he.up hbase hfew hline hs pins s σ H Q I ⟨_, h, fun _ _ ⟨l, xs, e1, h1, q⟩ => ⟨l, xs, e1, h1, _, q, fun y _ ⟨ys, h2, hz, q⟩ => ⟨l, ys, y, rfl, rfl, h2, hz, q _ .mk'⟩⟩⟩
def sDPutG2 (td ty tv : TE) : TS := fun D σ H => tv σ H fun v H1 => td σ H1 fun x H2 => ty σ H2 fun y H3 => ∃ a kvs k, x = .ref a ∧ H3 a = some (.dK kvs) ∧ keyOf y = some k ∧ kvs.length < sizeLine ∧ ∀ H4, Mu H3 a (.dK (putK kvs k v)) H4 → D.nx σ H4
theorem ps_dputG2 {i o value : Expr} {ty td tv : TE} {pos pos' : Pos} (hu : X.A.units + 1 < cLine) (ho : PE X o td) (hi : PE X i ty) (hv : PE X value tv) (hs : swapsWith value (some (.Subscript o i pos')) pos.line X.env = pure false := by rfl) :
    PS X (.Assign [.Subscript o i pos'] value pos) (sDPutG2 td ty tv) := fun pins s σ H D I h =>
  ps_dputG hu ho.up hi.up hv.up hs pins s σ H D I ⟨_, h, fun _ _ q => ⟨_, q, fun _ _ q => ⟨_, q, fun _ _ ⟨a, kvs, k, e1, e2, e3, e4, q⟩ => ⟨a, kvs, k, e1, e2, e3, e4, q _ .mk'⟩⟩⟩⟩
def pairsOf : List (V × V) → Option (List (Key × V))
  | [] => some []
  | (x, y) :: r => (keyOf x).bind fun k => (pairsOf r).bind fun l => some ((k, y) :: l)
theorem PPs.up {pos : Pos} {keys : List (Option Expr)} {values : List Expr} {trs : List (TE × TE)} (h : PPs X pos keys values trs) {pins : List (Addr × Obj)} {s : Shared} {σ : St} {H : Hp} {Q Q1 : List (V × V) → Hp → Prop} (I : Inv X pins σ H s) (h1 : tPairs trs σ H Q1) (h2 : ∀ ps H', Q1 ps H' → Q ps H') :
    wpAny (model X.prog X.w) X.A (evalPairs (pairTrees keys values X.env pos)) (fun vs s' => ∃ ps H', Inv X pins σ H' s' ∧ VV ps vs ∧ Q ps H') X.xe s :=
  thn (h pins s σ H Q1 I h1) fun vs s' ⟨ps, H', I', r, q⟩ => ⟨ps, H', I', r, h2 ps H' q⟩
def tDispG (trs : List (TE × TE)) : TE := fun σ H Q => ∀ p H', H p = none → Same H H' → H' p = some (.dK []) → tPairs trs σ H' fun ps H2 => H2 p = some (.dK []) ∧ ∃ kvs, pairsOf ps = some kvs ∧ kvs.length ≤ 15 ∧ ∀ H3, Mu H2 p (.dK (mergeK [] kvs)) H3 → Q (.ref p) H3
/-! ### a loop over a tracked list or tuple, turn by turn -/
def turns (a : Addr) (o : HO) (g : TG) (tb : TS) (D : Ends) : List V → St → Hp → Prop
  | [], σ, H => H a = some o ∧ D.nx σ H
  | x :: r, σ, H => H a = some o ∧ g x σ H fun σ2 H2 => tb { D with nx := turns a o g tb D r, ct := turns a o g tb D r, bk := D.nx } σ2 H2
def tForT (tl : TE) (g : TG) (tb : TS) : TS := fun D σ H => tl σ H fun x H1 => ∃ a xs, x = .ref a ∧ H1 a = some (.tup xs) ∧ turns a (.tup xs) g tb D xs σ H1
def tForL (tl : TE) (g : TG) (tb : TS) : TS := fun D σ H => tl σ H fun x H1 => ∃ a xs, x = .ref a ∧ H1 a = some (.lst xs) ∧ turns a (.lst xs) g tb D xs σ H1
end

/-! ### isinstance, by what stands in the heap -/
def hoT : HO → Option String
  | .lst _ => some "list"
  | .tup _ => some "tuple"
  | .dK _ => some "dict"
  | _ => none
def tyG (H : Hp) : V → Option String
  | .non => some "NoneType"
  | .bl _ => some "bool"
  | .int _ => some "int"
  | .str _ => some "str"
  | .ref a => (H a).bind hoT
  | _ => none
theorem tyG_n {H : Hp} : tyG H .non = some "NoneType" := rfl
theorem tyG_b {H : Hp} {x : Bool} : tyG H (.bl x) = some "bool" := rfl
theorem tyG_i {H : Hp} {x : Int} : tyG H (.int x) = some "int" := rfl
theorem tyG_s {H : Hp} {x : Str} : tyG H (.str x) = some "str" := rfl
theorem tyG_r {H : Hp} {a : Addr} : tyG H (.ref a) = (H a).bind hoT := rfl
theorem hoT_l {xs : List V} : hoT (.lst xs) = some "list" := rfl
theorem hoT_t {xs : List V} : hoT (.tup xs) = some "tuple" := rfl
theorem hoT_d {xs : List (Key × V)} : hoT (.dK xs) = some "dict" := rfl
def rIsiG (K : PySem.W.Frag) : List V → Hp → VK → Prop := fun xs H Q => ∃ x T t b, xs = [x, .ty T] ∧ tyG H x = some t ∧ PySem.W.kitOne K (.type t) (.type T) = some b ∧ Q (.bl b) H
theorem kit_ii {K : PySem.W.Frag} : PySem.W.kitOne K (.type "int") (.type "int") = some true := rfl
theorem kit_it {K : PySem.W.Frag} : PySem.W.kitOne K (.type "int") (.type "tuple") = some false := rfl
theorem kit_il {K : PySem.W.Frag} : PySem.W.kitOne K (.type "int") (.type "list") = some false := rfl
theorem kit_is {K : PySem.W.Frag} : PySem.W.kitOne K (.type "int") (.type "str") = some false := rfl
theorem kit_ib {K : PySem.W.Frag} : PySem.W.kitOne K (.type "int") (.type "bool") = some false := rfl
theorem kit_id {K : PySem.W.Frag} : PySem.W.kitOne K (.type "int") (.type "dict") = some false := rfl
theorem kit_ni {K : PySem.W.Frag} : PySem.W.kitOne K (.type "NoneType") (.type "int") = some false := rfl
theorem kit_nt {K : PySem.W.Frag} : PySem.W.kitOne K (.type "NoneType") (.type "tuple") = some false := rfl
theorem kit_nl {K : PySem.W.Frag} : PySem.W.kitOne K (.type "NoneType") (.type "list") = some false := rfl
theorem kit_ns {K : PySem.W.Frag} : PySem.W.kitOne K (.type "NoneType") (.type "str") = some false := rfl
theorem kit_nb {K : PySem.W.Frag} : PySem.W.kitOne K (.type "NoneType") (.type "bool") = some false := rfl
theorem kit_nd {K : PySem.W.Frag} : PySem.W.kitOne K (.type "NoneType") (.type "dict") = some false := rfl
theorem kit_ti {K : PySem.W.Frag} : PySem.W.kitOne K (.type "tuple") (.type "int") = some false := rfl
theorem kit_tt {K : PySem.W.Frag} : PySem.W.kitOne K (.type "tuple") (.type "tuple") = some true := rfl
theorem kit_tl {K : PySem.W.Frag} : PySem.W.kitOne K (.type "tuple") (.type "list") = some false := rfl
theorem kit_ts {K : PySem.W.Frag} : PySem.W.kitOne K (.type "tuple") (.type "str") = some false := rfl
theorem kit_tb {K : PySem.W.Frag} : PySem.W.kitOne K (.type "tuple") (.type "bool") = some false := rfl
theorem kit_td {K : PySem.W.Frag} : PySem.W.kitOne K (.type "tuple") (.type "dict") = some false := rfl
theorem kit_li {K : PySem.W.Frag} : PySem.W.kitOne K (.type "list") (.type "int") = some false := rfl
theorem kit_lt {K : PySem.W.Frag} : PySem.W.kitOne K (.type "list") (.type "tuple") = some false := rfl
theorem kit_ll {K : PySem.W.Frag} : PySem.W.kitOne K (.type "list") (.type "list") = some true := rfl
theorem kit_ls {K : PySem.W.Frag} : PySem.W.kitOne K (.type "list") (.type "str") = some false := rfl
theorem kit_lb {K : PySem.W.Frag} : PySem.W.kitOne K (.type "list") (.type "bool") = some false := rfl
theorem kit_ld {K : PySem.W.Frag} : PySem.W.kitOne K (.type "list") (.type "dict") = some false := rfl
theorem kit_si {K : PySem.W.Frag} : PySem.W.kitOne K (.type "str") (.type "int") = some false := rfl
theorem kit_st {K : PySem.W.Frag} : PySem.W.kitOne K (.type "str") (.type "tuple") = some false := rfl
theorem kit_sl {K : PySem.W.Frag} : PySem.W.kitOne K (.type "str") (.type "list") = some false := rfl
theorem kit_ss {K : PySem.W.Frag} : PySem.W.kitOne K (.type "str") (.type "str") = some true := rfl
theorem kit_sb {K : PySem.W.Frag} : PySem.W.kitOne K (.type "str") (.type "bool") = some false := rfl
theorem kit_sd {K : PySem.W.Frag} : PySem.W.kitOne K (.type "str") (.type "dict") = some false := rfl
theorem kit_bi {K : PySem.W.Frag} : PySem.W.kitOne K (.type "bool") (.type "int") = some true := rfl
theorem kit_bt {K : PySem.W.Frag} : PySem.W.kitOne K (.type "bool") (.type "tuple") = some false := rfl
theorem kit_bl {K : PySem.W.Frag} : PySem.W.kitOne K (.type "bool") (.type "list") = some false := rfl
theorem kit_bs {K : PySem.W.Frag} : PySem.W.kitOne K (.type "bool") (.type "str") = some false := rfl
theorem kit_bb {K : PySem.W.Frag} : PySem.W.kitOne K (.type "bool") (.type "bool") = some true := rfl
theorem kit_bd {K : PySem.W.Frag} : PySem.W.kitOne K (.type "bool") (.type "dict") = some false := rfl
theorem kit_di {K : PySem.W.Frag} : PySem.W.kitOne K (.type "dict") (.type "int") = some false := rfl
theorem kit_dt {K : PySem.W.Frag} : PySem.W.kitOne K (.type "dict") (.type "tuple") = some false := rfl
theorem kit_dl {K : PySem.W.Frag} : PySem.W.kitOne K (.type "dict") (.type "list") = some false := rfl
theorem kit_ds {K : PySem.W.Frag} : PySem.W.kitOne K (.type "dict") (.type "str") = some false := rfl
theorem kit_db {K : PySem.W.Frag} : PySem.W.kitOne K (.type "dict") (.type "bool") = some false := rfl
theorem kit_dd {K : PySem.W.Frag} : PySem.W.kitOne K (.type "dict") (.type "dict") = some true := rfl
/-! ### arguments without a star, for any frame -/
def notStar : Expr → Bool
  | .Starred _ _ => false
  | _ => true
theorem star_of {e : Expr} {es : List Expr} {env : Env} (h : notStar e = true) : starEach (e :: es) env = (false, eval e env) :: starEach es env := by
  cases e with
  | Starred v q => exact absurd (show false = true from h) Bool.false_ne_true
  | _ => rfl
theorem star_all {pos : Pos} {env : Env} : ∀ {es : List Expr}, es.all notStar = true → (backTo pos (starEach es env)).any (·.1) = false
  | [], _ => rfl
  | e :: es, h => by
    rw [List.all_cons, Bool.and_eq_true] at h
    rw [star_of h.1]
    show (false || (backTo pos (starEach es env)).any (·.1)) = false
    rw [star_all h.2]
    rfl
section
variable {X : Cx} {e : Expr} {es : List Expr} {te : TE} {t : TA} {x : Str} {p pos : Pos} {id T : String} {r : List V → Hp → VK → Prop}
theorem pa_c (ha : PE X e te) (hr : PA X es t) (hn : notStar e = true := by rfl) : PA X (e :: es) (tCons te t) := pa_cons ha hr (star_of hn)
theorem pe_cB (hc : CallR X (.builtin id) r) (hg : Gl X x) (hm : X.mg x = none) (hv : bootBuiltins x = some (.builtin id)) (ha : PA X (e :: es) t) (hn : x ≠ "__name__" := by decide) (hdb : (x == ("__debug__" : Str)) = false := by decide)
    (hs : (e :: es).all notStar = true := by rfl) : PE X (.Call (.Name x p) (e :: es) [] pos) (tCB r t) :=
  pe_callB hc hg hm hv ha hn hdb (star_of (Bool.and_eq_true_iff.mp hs).1) (star_all (Bool.and_eq_true_iff.mp hs).2)
theorem pe_cTy (hc : CallR X (.type T) r) (hg : Gl X x) (hm : X.mg x = none) (hv : bootBuiltins x = some (.type T)) (ha : PA X (e :: es) t) (hn : x ≠ "__name__" := by decide) (hdb : (x == ("__debug__" : Str)) = false := by decide)
    (hs : (e :: es).all notStar = true := by rfl) : PE X (.Call (.Name x p) (e :: es) [] pos) (tCB r t) :=
  pe_callTy hc hg hm hv ha hn hdb (star_of (Bool.and_eq_true_iff.mp hs).1) (star_all (Bool.and_eq_true_iff.mp hs).2)
end

/-! ### a def by its name -/
structure DefAt (K : PySem.W.Frag) (mg : Str → Option Value) (x : Str) (st : Stmt) (ps : List Str) : Prop where
  ex : ∃ f fd, mg x = some (.ref f) ∧ Fun K x x st f fd ∧ Binds K fd ps []
structure OkD (P : Program) (w : World) (K : PySem.W.Frag) (mg : Str → Option Value) (base : Heap) (n : Nat) (x : Str) (ps : List Str) (sp : Sp) : Prop where
  ex : ∃ f fd, mg x = some (.ref f) ∧ PySem.W.keepIn K (.ref f) = true ∧ Binds K fd ps [] ∧ FnOk P w K mg base CX0 n f fd ps sp
def tDef (sp : Sp) (t : TA) : TE := fun σ H Q => t σ H fun vs H1 => sp vs H1 Q E0
section
variable {P : Program} {w : World} {K : PySem.W.Frag} {mg : Str → Option Value} {base : Heap} {x : Str} {st : Stmt} {N ps : List Str} {k : Nat} {sp : Sp}
theorem DefAt.ok (D : DefAt K mg x st ps) (S : FnScope N ps (defScope st)) (len : ∀ vs H Q E, sp vs H Q E → vs.length = ps.length)
    (hbody : ∀ (f : Addr) (cdv : Value) (A : Around) (outer : List Env) (s : Shared) (H : Hp) (vs : List V) (Q : VK) (E : XK), Room k (A.deeper (envOfC x (defScope st) s.heap.objs.size f cdv)) → sp vs H Q E →
      ∃ t, PSs (cxOf CX0 P w K mg base N x (defScope st) f cdv A outer s H E).nox (defBody st) t ∧ t { nx := fun _ H' => Q .non H', rt := Q } (start N vs) H) : OkD P w K mg base (k + 1) x ps sp := by
  obtain ⟨f, fd, hm, F, hb⟩ := D.ex
  exact ⟨f, fd, hm, F.kp, hb, F.ok S len (hbody f)⟩
theorem OkD.mono {n m : Nat} (G : OkD P w K mg base n x ps sp) (h : n ≤ m) : OkD P w K mg base m x ps sp := by
  obtain ⟨f, fd, a, b, c, d⟩ := G.ex
  exact ⟨f, fd, a, b, c, d.mono h⟩
theorem DefAt.never (D : DefAt K mg x st ps) (n : Nat) (h : ∀ vs H Q E, ¬ sp vs H Q E) : OkD P w K mg base n x ps sp := by
  obtain ⟨f, fd, hm, F, hb⟩ := D.ex
  exact ⟨f, fd, hm, F.kp, hb, ⟨fun vs H Q E q => absurd q (h vs H Q E), fun A outer s H args us vs Q E _ _ _ _ q => absurd q (h vs H Q E)⟩⟩
theorem DefAt.mk' {h : Heap} {f : Addr} {oc : Value} {od an : Option Addr} {osl : Array (Option Value)} {kV doc pm cdv ct : Value} (X : K.In h) (G : h.Ns mainGlobals mg) (a : PySem.W.nsIn K mainGlobals x = some (some (.ref f)))
    (l : K.lookup f = some ⟨oc, od, .func (PySem.W.fnOf x x (defArgs st) (defBody st) (defScope st) .none kV doc pm an cdv ct), osl⟩) (c : PySem.W.codeIn K cdv x = true) (k : PySem.W.keepIn K (.ref f) = true)
    (b : ∀ (kV doc pm : Value) (an : Option Addr) (cdv ct : Value) (us : List Value), us.length = ps.length → bindArgs (PySem.W.fnOf x x (defArgs st) (defBody st) (defScope st) .none kV doc pm an cdv ct) ⟨us, []⟩ = pure (ps.zip us)) : DefAt K mg x st ps :=
  have F := fun_mk (st := st) l c k
  ⟨f, _, PySem.W.mg_of X G a, F, F.binds b⟩
end
section
variable {X : Cx} {k n : Nat} {ps : List Str} {sp : Sp} {x : Str} {p pos : Pos} {e : Expr} {es : List Expr} {t : TA}
theorem pe_def (G : OkD X.prog X.w X.K X.mg X.base k x ps sp) (hr : Room n X.A) (hg : Gl X x) (ha : PA X (e :: es) t) (hk : k ≤ n := by omega) (hdb : (x == ("__debug__" : Str)) = false := by decide)
    (hs : (e :: es).all notStar = true := by rfl) : PE X (.Call (.Name x p) (e :: es) [] pos) (tDef sp t) := by
  obtain ⟨f, fd, hm, kp, hb, F⟩ := G.ex
  intro pins s σ H Q I h
  refine pe_call F (hr.mono hk) hg hm kp hb .nil pass0 ha hdb (star_of (Bool.and_eq_true_iff.mp hs).1) (star_all (Bool.and_eq_true_iff.mp hs).2) pins s σ H Q I ?_
  have e : (fun vs H1 => sp (vs ++ []) H1 Q E0) = fun vs H1 => sp vs H1 Q E0 := by funext vs H1; rw [List.append_nil]
  show t σ H fun vs H1 => sp (vs ++ []) H1 Q E0
  rw [e]
  exact h
end
def spLaw (K : PySem.W.Frag) : Sp := fun vs H Q _ => ∃ (a : Addr) (ns : List Int), vs = [.ref a] ∧ SqL K H a (ns.map V.int) ∧ ns.length ≤ 63 ∧ ∀ H', Q (.bl true) H'
end L2

set_option Elab.async false
set_option linter.all false
set_option maxRecDepth 100000
set_option maxHeartbeats 4000000
/-! our own rules: exceptions of own classes, raised, passed on, caught -/
namespace L2
open PySem PySem.Spec PyProof.Rows

structure Fly (h : Heap) (x T : Addr) (cls fl : Value) : Prop where
  ex : ∃ oe vs oT ts, h.get? x = some oe ∧ oe.cls = cls ∧ oe.dict = none ∧ oe.data = .fields vs ∧ vs[1]? = some (.ref T) ∧ T ≠ x ∧ h.get? T = some oT ∧ oT.data = .fields ts ∧ ts[3]? = some fl
def CXr (P : Program) (w : World) : CXT := fun outer H s E e s' => ∃ (x T : Addr) (cls : Value) (H' : Hp), e = .ref x ∧ s'.os = s.os ∧ AllBare s'.gens ∧ Un (frs outer) [] H H' s.heap s'.heap ∧ HOk P w H' s'.heap ∧
  Fly s'.heap x T cls .none ∧ s.heap.get? x = none ∧ s.heap.get? T = none ∧ H' x = none ∧ H' T = none ∧ E cls none H'

structure Kept (x : Addr) (ts fr : List Addr) (h h' : Heap) : Prop where
  keep : ∀ b o, h.get? b = some o → b ≠ x → b ∉ ts → b ∉ fr → h'.get? b = some o
  slot : ∀ b o, h.get? b = some o → b ≠ x → b ∉ ts → ∃ sl, h'.get? b = some { o with slots := sl }
section
variable {M : Model} {A : Around} {E : Value → Shared → Prop} {s : Shared} {base : Heap} {env : Env} {outer : List Env} {L x : Addr} {oe : Obj} {vs : Array Value} {Q : Unit → Shared → Prop}
end

section
variable {X : Cx} {pins : List (Addr × Obj)} {σ : St} {H1 : Hp} {s1 : Shared}
theorem Inv.tracked (I : Inv X pins σ H1 s1) {b : Addr} {u : HO} (h : H1 b = some u) : ∃ o, s1.heap.get? b = some o := by
  have hb := I.hok.lt h
  have := I.hok b u h
  cases u with
  | lst xs => obtain ⟨_, _, _, _, e⟩ := this; exact ⟨_, e⟩
  | tup xs => obtain ⟨_, _, _, o, e, _⟩ := this; exact ⟨_, e⟩
  | dK kvs => obtain ⟨_, _, _, _, o, _, _, e, _⟩ := this; exact ⟨_, e⟩
  | dT kvs => obtain ⟨_, _, _, _, o, _, _, e, _⟩ := this; exact ⟨_, e⟩
  | set S n => obtain ⟨o, _, _, _, e, _⟩ := this; exact ⟨_, e⟩
  | ins C dx fs => obtain ⟨_, _, _, e, _⟩ := this; exact ⟨_, e⟩
  | own y => exact this
  | xd fs => obtain ⟨_, ⟨_, _, _, e, _⟩, _⟩ := this; exact ⟨_, e⟩
  | rng lo hi => obtain ⟨_, _, _, e⟩ := this; exact ⟨_, e⟩
  | frz ob u => obtain ⟨e, _⟩ := this; exact ⟨_, e⟩
  | tbl ps => exact ⟨_, this⟩
  | met f y => exact ⟨_, this⟩
  | ext φ => obtain ⟨_, e, _⟩ := this; exact e
end

section
variable {P : Program} {w : World} {K : PySem.W.Frag} {mg : Str → Option Value} {base : Heap} {N : List Str} {qual : Str} {scope : Scope} {f : Addr} {cd : Value} {A : Around} {outer : List Env} {s : Shared} {H : Hp} {E : XK}
end
/-! ### own classes of ValueError's line -/
def veM : List Value := [.type "ValueError", .type "Exception", .type "BaseException", .type "object"]
structure ExcAt (K : PySem.W.Frag) (mg : Str → Option Value) (x : Str) (C : Addr) : Prop where
  gl : mg x = some (.ref C)
  ok : PySem.W.excIn K C veM "ValueError.__new__" = true
def tRaise (C : Addr) (t : TA) (E : XK) : TS := fun _ σ H => t σ H fun vs H1 => vs.length ≤ sizeLine ∧ E (.ref C) none H1
section
variable {X : Cx} {E : XK} {x : Str} {C : Addr} {np cpos pos : Pos} {e : Expr} {es : List Expr} {t : TA}
end
section
variable {P : Program} {w : World} {K : PySem.W.Frag} {mg : Str → Option Value} {base : Heap} {N : List Str} {qual : Str} {scope : Scope} {f : Addr} {cd : Value} {A : Around} {outer : List Env} {s : Shared} {H : Hp} {E : XK}
end

/-! ### a def that may raise, by its name -/
structure OkR (P : Program) (w : World) (K : PySem.W.Frag) (mg : Str → Option Value) (base : Heap) (n : Nat) (x : Str) (ps : List Str) (sp : Sp) : Prop where
  ex : ∃ f fd, mg x = some (.ref f) ∧ PySem.W.keepIn K (.ref f) = true ∧ Binds K fd ps [] ∧ FnOk P w K mg base (CXr P w) n f fd ps sp
def tDefR (sp : Sp) (E : XK) (t : TA) : TE := fun σ H Q => t σ H fun vs H1 => sp vs H1 Q E
section
variable {P : Program} {w : World} {K : PySem.W.Frag} {mg : Str → Option Value} {base : Heap} {x : Str} {st : Stmt} {N ps : List Str} {k : Nat} {sp : Sp}
theorem OkR.mono {n m : Nat} (G : OkR P w K mg base n x ps sp) (h : n ≤ m) : OkR P w K mg base m x ps sp := by
  obtain ⟨f, fd, a, b, c, d⟩ := G.ex
  exact ⟨f, fd, a, b, c, d.mono h⟩
end
section
variable {X : Cx} {E : XK} {k n : Nat} {ps : List Str} {sp : Sp} {x : Str} {p pos : Pos} {e : Expr} {es : List Expr} {t : TA}
end

/-! ### caught -/
section
variable {X : Cx} {pins : List (Addr × Obj)} {σ : St} {H : Hp} {s : Shared}
structure Far (X : Cx) (pins : List (Addr × Obj)) (b : Addr) : Prop where
  old : X.s₀.heap.get? b = none
  loc : b ≠ X.env.locals
  cel : ∀ y c, X.env.cells.lookup y = some c → c ≠ b
  pin : ∀ p ∈ X.pn ++ pins, p.1 ≠ b
end

/-! ### a caught exception as a value -/
def ExcIs (x C : Addr) (h : Heap) : Prop := ∃ ox, PySem.W.InstAt h x ox C none
def excO (x C : Addr) : HO := .ext (ExcIs x C)
section
open PySem.W
end
structure PlainX (K : PySem.W.Frag) (C : Addr) : Prop where
  ga : PySem.W.findIn K (.ref C) "__getattribute__" = some (some (.builtin "BaseException.__getattribute__"))
  gt : PySem.W.findIn K (.ref C) "__getattr__" = some none
  mroB : PySem.W.mroIn K C (.type "BaseException") = some true
  cls : (PySem.W.clsIn K C).isSome = true
  fnd : PySem.W.findIn K (.ref C) "__class__" = some (some (.builtin "object.__class__"))
  spc : PySem.W.specialIn K (.builtin "object.__class__") "__get__" = some (some (.builtin "getset_descriptor.__get__"))
  tak : PySem.W.takesIn K (.builtin "object.__class__") = some true
  mro : PySem.W.mroIn K C (.type "object") = some true
def rIsiX (K : PySem.W.Frag) : List V → Hp → VK → Prop := fun xs H Q => ∃ x C c cv b, xs = [.ref x, c] ∧ H x = some (excO x C) ∧ PlainX K C ∧ (c = .ref cv ∧ PySem.W.kitOne K (.ref C) (.ref cv) = some b ∧ Q (.bl b) H)
def rIsiXT (K : PySem.W.Frag) : List V → Hp → VK → Prop := fun xs H Q => ∃ x C T b, xs = [.ref x, .ty T] ∧ H x = some (excO x C) ∧ PlainX K C ∧ PySem.W.kitOne K (.ref C) (.type T) = some b ∧ Q (.bl b) H
/-! ### try: f(..) -/
abbrev TX := St → Hp → VK → XK → Prop
def tCallX (sp : Sp) (t : TA) : TX := fun σ H Q E => t σ H fun vs H1 => sp vs H1 Q E
section
variable {X : Cx} {k n : Nat} {ps : List Str} {sp : Sp} {x : Str} {p pos : Pos} {e : Expr} {es : List Expr} {t : TA}
end
def tTry1 (K : PySem.W.Frag) (B : Addr) (i : Nat) (t : TX) (th : TS) : TS := fun D σ H => t σ H (fun _ H1 => D.nx σ H1) fun cls _ H1 => ∃ C, cls = .ref C ∧ PySem.W.exmOne K (.ref C) (.ref B) = some true ∧
  ∀ x H2, H1 x = none → Same H1 H2 → H2 x = some (excO x C) → th { nx := fun σ' H' => D.nx (σ'.set i none) H', rt := D.rt, bk := fun σ' H' => D.bk (σ'.set i none) H', ct := fun σ' H' => D.ct (σ'.set i none) H' } (σ.set i (some (.ref x))) H2
section
variable {X : Cx} {B : Addr} {i : Nat} {n cx : Str} {e : Expr} {b0 : Stmt} {suite : List Stmt} {ep np hpos pos : Pos} {t : TX} {th : TS}
end
end L2

set_option Elab.async false
set_option linter.all false
set_option maxRecDepth 100000
set_option maxHeartbeats 4000000
/-! our own rules: [elt for x in iter if c], nothing raised inside -/
namespace L2
open PySem PySem.Spec PyProof.Rows
abbrev Cx.comp (X : Cx) (scope : Scope) (cl : List (Str × Addr)) (N : List Str) (C : Addr) (fp : List Addr) (s₀ : Shared) (H₀ : Hp) : Cx :=
  { X with N := N, s₀ := s₀, H₀ := H₀, env := compEnvC scope cl C X.env, outer := X.stack, ex := fp, fn := fun _ => false, pn := [], xe := fun _ _ => False }
structure CompScope (X : Cx) (scope : Scope) (cl : List (Str × Addr)) (N : List Str) (cap : List Nat) : Prop where
  kind : scope.kind = .function
  clos : X.Ok → closureFor scope X.env = pure cl
  ncell : ∀ y ∈ scope.names, y.2 ≠ .cell
  names : ∀ y ∈ scope.names, y.2 = .local → scope.names.lookup y.1 = some .local
  nd : N.Nodup
  has : ∀ y, ((relabel scope X.env).names.lookup y = some .cell ∨ (relabel scope X.env).names.lookup y = some .free) → ∃ c, cl.lookup y = some c
  sub : X.Ok → ∀ y c, cl.lookup y = some c → X.env.cells.lookup y = some c
  len : N.length = cap.length + 1
  cap : ∀ (j i : Nat) (y : Str), N[j + 1]? = some y → cap[j]? = some i → X.N[i]? = some y ∧ Vis X.env.scope y ∧ X.env.kindOf y ≠ some .local ∧ ((relabel scope X.env).names.lookup y = some .cell ∨ (relabel scope X.env).names.lookup y = some .free)
def capOf (σ : St) (cap : List Nat) : St := cap.map fun i => (σ[i]?).join
section
variable {X : Cx} {pins : List (Addr × Obj)} {σ : St} {H : Hp} {s : Shared} {scope : Scope} {cl : List (Str × Addr)} {N : List Str} {cap : List Nat}
end

def PTs (X : Cx) (ifs : List Expr) (t : TT) : Prop :=
  ∀ (pins : List (Addr × Obj)) (s : Shared) (σ : St) (H : Hp) (Q : Bool → Hp → Prop), Inv X pins σ H s → t σ H Q →
    wpAny (model X.prog X.w) X.A (forIn ifs true fun c r => if r = true then do let ok ← isTrue c X.env (eval c X.env); pure (ForInStep.yield ok) else pure (ForInStep.yield r)) (TP X pins σ Q) X.xe s
def tYes : TT := fun _ H Q => Q true H
theorem pts_nil {X : Cx} : PTs X [] tYes := fun _ _ _ H _ I h => wpAny_tests_nil ⟨H, I, h⟩
theorem pts_one {X : Cx} {c : Expr} {t : TT} (h : PT X c t) : PTs X [c] t := fun pins s σ H Q I q => wpAny_tests_one (h pins s σ H Q I q)
section
variable {X : Cx} {scope : Scope} {cl : List (Str × Addr)} {N : List Str} {cap : List Nat} {x : Str} {px pos : Pos} {iter elt : Expr} {ifs : List Expr} {wi : TI} {tc : TT} {te : TE}
end
end L2

set_option Elab.async false
set_option linter.all false
set_option maxRecDepth 100000
set_option maxHeartbeats 4000000
/-! our own rules: texts -/
namespace L2
open PySem PySem.Spec PyProof.Rows
/-! ### all([..]) of bools -/
def rAll : List V → Hp → VK → Prop := fun xs H Q => ∃ (p : Addr) (bs : List Bool), xs = [.ref p] ∧ H p = some (.lst (bs.map V.bl)) ∧ Q (.bl (bs.all id)) H
/-! ### int(text) -/
/-! ### a comprehension that only reads: what it gives -/
structure Over (J : It) (xs : List V) (ok : Hp → Prop) : Prop where
  go : ∀ i H, ok H → i < xs.length → J.go i H
  stop : ∀ i H, ok H → xs.length ≤ i → J.stop i H
  yld : ∀ i H x H', ok H → i < xs.length → J.yld i H x H' → H' = H ∧ xs[i]? = some x
theorem over_list {K : PySem.W.Frag} {a : Addr} {xs : List V} : Over (Itl K a) xs (fun H => H a = some (.lst xs)) where
  go := fun i H e h => ⟨xs, xs[i], SqL.of e, List.getElem?_eq_getElem h⟩
  stop := fun i H e h => ⟨xs, SqL.of e, h⟩
  yld := fun i H v H' e h y => ⟨y.1, y.2 xs (SqL.of e)⟩
theorem over_range (lo : Int) (n : Nat) : Over (Itr lo n) ((List.range n).map fun (k : Nat) => V.int (lo + k)) (fun _ => True) where
  go := fun i H _ h => (show i < n by simpa using h)
  stop := fun i H _ h => (show n ≤ i by simpa using h)
  yld := fun i H v H' _ h y => by
    obtain ⟨e, rfl⟩ := y
    refine ⟨e, ?_⟩
    have h' : i < n := by simpa using h
    rw [List.getElem?_map, List.getElem?_range h']; rfl
/-! ### a comprehension that captures nothing -/
theorem lookup_mem {names : List (Str × NameKind)} {y : Str} {k : NameKind} (h : names.lookup y = some k) : (y, k) ∈ names := PySem.mem_of_lookup h
/-! ### f-strings of texts and ints -/
def tFmt (te : TE) : TE := fun σ H Q => te σ H fun v H1 => (∃ x, v = .str x ∧ x.length ≤ sizeLine ∧ Q (.str x) H1) ∨ ∃ i : Int, v = .int i ∧ i.natAbs.log2 < 1920 ∧ Q (.str (toString i)) H1
abbrev TJ := Str → St → Hp → (Str → Hp → Prop) → Prop
def jNil : TJ := fun out _ H Q => out.length ≤ sizeLine ∧ Q out H
def jCons (te : TE) (t : TJ) : TJ := fun out σ H Q => te σ H fun v H1 => ∃ x, v = .str x ∧ (out ++ x).length ≤ sizeLine ∧ t (out ++ x) σ H1 Q
def tJoin (t : TJ) : TE := fun σ H Q => t Str.empty σ H fun x H1 => Q (.str x) H1
end L2

set_option Elab.async false
set_option linter.all false
set_option maxRecDepth 100000
set_option maxHeartbeats 4000000
/-! our own rules: methods and slices of texts, a module's tuple -/
namespace L2
open PySem PySem.Spec PyProof.Rows
section
variable {X : Cx}
def rStarts : V → List V → Hp → VK → Prop := fun x vs H Q => ∃ a b, x = .str a ∧ vs = [.str b] ∧ Q (.bl (PySem.Txt.startswith a b)) H
def rMulS : R2 := fun x y H Q => ∃ a n, x = .str a ∧ y = .int n ∧ MulOk a n ∧ Q (.str (PySem.Txt.mul a n)) H
def rSlS : V → Option Int → Option Int → Hp → VK → Prop := fun x lo hi H Q => ∃ a, x = .str a ∧ a.length ≤ sizeLine ∧ Q (.str (PySem.Txt.slice a lo hi)) H
def rJoinS : V → List V → Hp → VK → Prop := fun x vs H Q => ∃ a l ys, x = .str a ∧ vs = [.ref l] ∧ H l = some (.lst (ys.map V.str)) ∧ JoinOk a ys = true ∧ Q (.str (PySem.Txt.join a ys)) H
def rInK (K : PySem.W.Frag) (neg : Bool) : R2 := fun x y H Q => ∃ p xs, y = .ref p ∧ (∀ H, SqT K H p xs) ∧ flatV x = true ∧ xs.all flatV = true ∧ Q (.bl (if neg then !inV x xs else inV x xs)) H
end
/-! ### comprehensions that only read, whole -/
/-! ### heap-abstract: + of lists, xs[i] = v -/
def rCatG : R2 := fun x y H Q => ∃ l b xs zs, x = .ref l ∧ y = .ref b ∧ H l = some (.lst xs) ∧ H b = some (.lst zs) ∧ xs.length + zs.length ≤ sizeLine ∧ ∀ p H', H p = none → Same H H' → H' p = some (.lst (xs ++ zs)) → Q (.ref p) H'
theorem op_catG {X : Cx} : OpR X (binaryOp .Add) rCatG := by
  intro pins s σ H x y v u Q I rx ry h
  obtain ⟨l, b, xs, zs, e1, e2, h1, h2, hz, q⟩ := h
  exact op_cat pins s σ H x y v u Q I rx ry ⟨l, b, xs, zs, e1, e2, h1, h2, hz, fresh_any q⟩
def rSetG : V → V → V → Hp → (Hp → Prop) → Prop := fun o i v H Q => ∃ p xs k j, o = .ref p ∧ i = .int k ∧ H p = some (.lst xs) ∧ ixN xs.length k = some j ∧ ∀ H', Mu H p (.lst (xs.set j v)) H' → Q H'
/-! ### a loop over anything whose items are known -/
/-! ### the state behind a statement, named -/
def tMs (t : TS) : TS := fun D σ H => ∃ Z : St → Hp → Prop, t { D with nx := Z } σ H ∧ ∀ σ' H', Z σ' H' → D.nx σ' H'
theorem ps_up {X : Cx} {st : Stmt} {t : TS} (h : PS X st t) : PS X st (tMs t) := by
  intro pins s σ H D I hq
  obtain ⟨Z, h1, h2⟩ := hq
  refine thn (h pins s σ H _ I h1) fun fl s' hs => ?_
  cases fl with
  | next => obtain ⟨σ', H', I', q⟩ := hs; exact ⟨σ', H', I', h2 _ _ q⟩
  | _ => exact hs
end L2

set_option Elab.async false
set_option linter.all false
set_option maxRecDepth 100000
set_option maxHeartbeats 4000000
/-! our own rules: enumerate, comprehensions that capture names -/
namespace L2
open PySem PySem.Spec PyProof.Rows
section
variable {X : Cx} {pins : List (Addr × Obj)} {σ : St} {H : Hp} {s : Shared} {h' : Heap}
theorem Inv.turnedL {t' : Nat} {ch : List Addr} (I : Inv X pins σ H s) (k : ∀ b o, b ∉ ch → s.heap.get? b = some o → h'.get? b = some o) (hf : ∀ b ∈ ch, FpOk X pins H b) : Inv X pins σ H { s with heap := h', toks := t' } := by
  have nit : ∀ b u, H b = some u → b ∉ ch := fun b u e z => by rw [(hf b z).1] at e; cases e
  refine I.step (g' := s.gens) (d' := s.drawn) (ch := ch) (fun b hb => ?_) (fun b o _ _ hc e _ => k b o hc e) (fun b o _ _ hc e _ => ⟨o.slots, k b o hc e⟩) (fun _ _ _ _ n => n)
    (fun b o hc e => ⟨o, k b o hc e⟩) (fun _ _ e => e) (fun _ _ _ e => e) (fun b ps e => ⟨#[], by rw [e]; simp⟩) (fun m hm => ?_) (fun b u e => ?_) I.bare
  · obtain ⟨_, f1, _, f3, f4, f5⟩ := hf b hb
    exact ⟨f3, f1, f4, f5⟩
  · obtain ⟨o, es, ep, ho, r⟩ := hm
    exact ⟨o, es, ep, k _ o (fun z => (hf _ z).2.1 rfl) ho, r⟩
  · refine (I.hok b u e).stay (fun c v hc q => k c v ?_ q) (fun _ q => q) fun _ _ q => q
    rcases hc with z | z
    · rw [z]; exact nit b u e
    · exact nit c _ z
end
/-! ### enumerate of a list -/
/-! ### a comprehension's items, by a relation -/
inductive F2 (R : V → V → Prop) : List V → List V → Prop
  | nil : F2 R [] []
  | cons {x v : V} {xs vs : List V} : R x v → F2 R xs vs → F2 R (x :: xs) (v :: vs)
theorem F2.snoc {R : V → V → Prop} {x v : V} : ∀ {xs vs : List V}, F2 R xs vs → R x v → F2 R (xs ++ [x]) (vs ++ [v])
  | _, _, .nil, r => .cons r .nil
  | _, _, .cons a t, r => .cons a (t.snoc r)
theorem F2.length {R : V → V → Prop} : ∀ {xs vs : List V}, F2 R xs vs → vs.length = xs.length
  | _, _, .nil => rfl
  | _, _, .cons _ t => by rw [List.length_cons, List.length_cons, t.length]
theorem F2.all {R : V → V → Prop} {P : V → Prop} (h : ∀ x v, R x v → P v) : ∀ {xs vs : List V}, F2 R xs vs → ∀ v ∈ vs, P v
  | _, _, .nil => fun v hv => absurd hv List.not_mem_nil
  | _, _, .cons a t => fun v hv => (List.mem_cons.mp hv).elim (fun e => e ▸ h _ _ a) (t.all h v)
/-! ### the scope of a comprehension that captures names -/
theorem forIn_yield_fold {α β : Type} {f : α → β → Sem (ForInStep β)} (g : α → β → β) : ∀ (l : List α) (b : β), (∀ x ∈ l, ∀ b, f x b = pure (.yield (g x b))) → forIn l b f = pure (l.foldl (fun b x => g x b) b)
  | [], b, _ => by rw [List.forIn_nil]; rfl
  | x :: l, b, h => by
    rw [List.forIn_cons, h x List.mem_cons_self b, pure_bind]
    exact forIn_yield_fold g l (g x b) fun y hy => h y (List.mem_cons_of_mem _ hy)
def capG (env : Env) (x : Str × NameKind) (r : List (Str × Addr)) : List (Str × Addr) := if x.2 == .free then (x.1, (env.cells.lookup x.1).getD 0) :: r else r
def clOf (env : Env) (scope : Scope) : List (Str × Addr) := scope.names.foldl (fun r x => capG env x r) []
theorem closure_of {scope : Scope} {env : Env} (h : ∀ y ∈ scope.names, y.2 = .free → ∃ c, env.cells.lookup y.1 = some c) : closureFor scope env = pure (clOf env scope) := by
  simp only [closureFor]
  rw [forIn_yield_fold (capG env) scope.names [] (fun x hx b => by
    obtain ⟨n, k⟩ := x
    cases hk : (k == NameKind.free) with
    | false => simp [capG, hk]
    | true =>
      have e : k = .free := by simpa using hk
      obtain ⟨c, hc⟩ := h _ hx e
      have hc' : env.cells.lookup n = some c := hc
      simp [capG, hk, cellOf, hc'])]
  rfl
theorem cl_sub {env : Env} : ∀ (names : List (Str × NameKind)) (acc : List (Str × Addr)), (∀ y ∈ names, y.2 = .free → ∃ c, env.cells.lookup y.1 = some c) → (∀ y c, acc.lookup y = some c → env.cells.lookup y = some c) →
    ∀ y c, (names.foldl (fun r x => capG env x r) acc).lookup y = some c → env.cells.lookup y = some c
  | [], acc, _, ha, y, c, e => ha y c e
  | (n, k) :: names, acc, h, ha, y, c, e => by
    refine cl_sub names (capG env (n, k) acc) (fun z hz => h z (List.mem_cons_of_mem _ hz)) (fun z d ez => ?_) y c e
    unfold capG at ez
    split at ez
    · rename_i hk
      have hk' : k = .free := by simpa using hk
      obtain ⟨c', hc'⟩ := h _ List.mem_cons_self hk'
      have hc' : env.cells.lookup n = some c' := hc'
      rw [List.lookup_cons] at ez
      split at ez
      · rename_i hzn
        have : z = n := by simpa using hzn
        subst this
        rw [hc'] at ez ⊢
        exact ez
      · exact ha z d ez
    · exact ha z d ez
theorem cl_has {env : Env} : ∀ (names : List (Str × NameKind)) (acc : List (Str × Addr)) (y : Str), ((y, NameKind.free) ∈ names ∨ (acc.lookup y).isSome) → ((names.foldl (fun r x => capG env x r) acc).lookup y).isSome
  | [], acc, y, h => h.elim (fun z => absurd z List.not_mem_nil) id
  | (n, k) :: names, acc, y, h => by
    refine cl_has names (capG env (n, k) acc) y ?_
    rcases h with h | h
    · rcases List.mem_cons.mp h with h | h
      · obtain ⟨rfl, rfl⟩ := Prod.mk.inj h
        right
        simp [capG]
      · exact .inl h
    · right
      unfold capG
      split
      · rw [List.lookup_cons]
        split
        · rfl
        · exact h
      · exact h
theorem lookup_relabel_free {env : Env} : ∀ {names : List (Str × NameKind)} {x : Str}, names.lookup x = some .free →
    (names.map fun (n, k) => if (k == NameKind.free && env.scope.kind == .function && env.kindOf n == some .cell) then (n, NameKind.cell) else (n, k)).lookup x = some .cell ∨
    (names.map fun (n, k) => if (k == NameKind.free && env.scope.kind == .function && env.kindOf n == some .cell) then (n, NameKind.cell) else (n, k)).lookup x = some .free
  | [], _, h => by simp at h
  | (n, k) :: r, x, h => by
    have ih := @lookup_relabel_free env r x
    rw [List.lookup_cons] at h
    rw [List.map_cons]
    cases hx : x == n with
    | true =>
      rw [hx] at h
      have hk : k = .free := by simpa using h
      subst hk
      dsimp only
      split
      · left; rw [List.lookup_cons, hx]
      · right; rw [List.lookup_cons, hx]
    | false =>
      rw [hx] at h
      dsimp only
      split
      · rw [List.lookup_cons, hx]; exact ih h
      · rw [List.lookup_cons, hx]; exact ih h
/-! ### str(x) of a text or an int; try .. except C: -/
def tTry0 (K : PySem.W.Frag) (B : Addr) (t : TX) (th : TS) : TS := fun D σ H => t σ H (fun _ H1 => D.nx σ H1) fun cls _ H1 => ∃ C, cls = .ref C ∧ PySem.W.exmOne K (.ref C) (.ref B) = some true ∧ th D σ H1
section
variable {X : Cx} {B : Addr} {cx : Str} {e : Expr} {b0 : Stmt} {suite : List Stmt} {ep np hpos pos : Pos} {t : TX} {th : TS}
end
/-! ### a loop, its iterable read first -/
def ForJ (J : It) (g : TG) (tb : TS) (D : Ends) (σ : St) (H1 : Hp) : Prop := ∃ W : Nat → Nat → St → Hp → Prop, (∃ m, W 0 m σ H1) ∧ ∀ i m σ H, W i m σ H →
  (J.stop i H ∧ D.nx σ H) ∨ (J.go i H ∧ ∃ N : St → Hp → Prop, (∀ σ' H', N σ' H' → ∃ m', m' < m ∧ W (i + 1) m' σ' H') ∧ ∀ x H', J.yld i H x H' → g x σ H' fun σ2 H2 => tb { D with nx := N, ct := N, bk := D.nx } σ2 H2)
theorem tfor_in {wi : TI} {g : TG} {tb : TS} {D : Ends} {σ : St} {H : Hp} (h : wi σ H fun J H1 => ForJ J g tb D σ H1) : tFor wi g tb D σ H := h
end L2

set_option Elab.async false
set_option linter.all false
set_option maxRecDepth 100000
set_option maxHeartbeats 4000000
/-! our own rules: for k in d (d a tracked dict), list.pop, list * int, over the abstract heap -/
namespace L2
open PySem PySem.Spec PyProof.Rows
section
variable {X : Cx} {pins : List (Addr × Obj)} {σ : St} {H : Hp} {s : Shared}
def NoFz (X : Cx) (d : Addr) : Prop := ∀ o u, X.H₀ d ≠ some (.frz o u)
theorem Inv.retag {d : Addr} {u u' : HO} (I : Inv X pins σ H s) (hd : H d = some u) (n1 : ∀ xs, u ≠ .tup xs) (n2 : NoFz X d) (n3 : ∀ ps, u ≠ .tbl ps) (n4 : ∀ x, u ≠ .own x) (new : ObjOk X.prog X.w (upd H d u') s.heap d u') : Inv X pins σ (upd H d u') s := by
  have ne : ∀ {b : Addr}, H b = none → b ≠ d := fun h z => by rw [z, hd] at h; cases h
  have sub : ∀ {b : Addr}, H b = none → upd H d u' b = none := fun {b} h => by rw [upd_ne (ne h)]; exact h
  have bs := I.base
  refine ⟨I.ok, I.os, I.bare, ⟨bs.keep, bs.slot, fun b o e n hx => sub (bs.free b o e n hx), bs.there, fun b xs e => ?_, fun b o v e => ?_, fun b ps e => ?_⟩, I.loc, I.cell, sub I.free, fun x c e => sub (I.freeC x c e), fun p hp => ?_, fun a v e => ?_, I.len⟩
  · have := bs.tups b xs e
    have nb : b ≠ d := fun z => by rw [z, hd] at this; exact n1 xs (Option.some.inj this)
    rw [upd_ne nb]; exact this
  · have nb : b ≠ d := fun z => n2 o v (by rw [← z]; exact e)
    rw [upd_ne nb]; exact bs.frzs b o v e
  · obtain ⟨more, h1⟩ := bs.tbls b ps e
    have nb : b ≠ d := fun z => by rw [z, hd] at h1; exact n3 _ (Option.some.inj h1)
    exact ⟨more, by rw [upd_ne nb]; exact h1⟩
  · obtain ⟨p1, p2, p3, p4, p5⟩ := I.pin p hp
    exact ⟨p1, sub p2, p3, p4, p5⟩
  · by_cases ha : a = d
    · subst ha
      rw [upd_same] at e
      cases e
      exact new
    · rw [upd_ne ha] at e
      refine (I.hok a v e).stay (fun _ _ _ q => q) (fun b q => ?_) fun b xs q => ?_
      · have nb : b ≠ d := fun z => by rw [z, hd] at q; exact n4 _ (Option.some.inj q)
        rw [upd_ne nb]; exact q
      · have nb : b ≠ d := fun z => by rw [z, hd] at q; exact n1 _ (Option.some.inj q)
        rw [upd_ne nb]; exact q
theorem Inv.nofz {d : Addr} {kvs : List (Key × V)} (I : Inv X pins σ H s) (hd : H d = some (.dK kvs)) : NoFz X d := fun o u e => by
  have := I.base.frzs d o u e
  rw [hd] at this; cases this
end
/-! ### for k in d -/
theorem relV_key {k : Key} {v : Value} (h : keyIs k v = true) : RelV (kV k) v := by
  rcases keyIs_shape h with ⟨i, t, rfl, rfl⟩ | ⟨x, t, rfl, rfl⟩
  · exact ⟨t, rfl⟩
  · exact ⟨t, rfl⟩
def tDGetR (td ty : TE) : TE := fun σ H Q => td σ H fun x H1 => ty σ H1 fun y H2 => ∃ a kvs k v, x = .ref a ∧ Rd H2 a (.dK kvs) ∧ keyOf y = some k ∧ valV kvs k = some v ∧ Q v H2
/-! ### pop, and a list taken n times -/
section
variable {X : Cx}
def rPopG : V → List V → Hp → VK → Prop := fun x vs H Q => ∃ l xs y, x = .ref l ∧ vs = [] ∧ H l = some (.lst (xs ++ [y])) ∧ ∀ H', Mu H l (.lst xs) H' → Q y H'
def rRepG : R2 := fun x y H Q => ∃ l k xs, x = .ref l ∧ y = .int k ∧ H l = some (.lst xs) ∧ -(2 ^ 63) ≤ k ∧ k < 2 ^ 63 ∧ xs.length * k.toNat ≤ sizeLine ∧ ∀ p H', H p = none → Same H H' → H' p = some (.lst (List.replicate k.toNat xs).flatten) → Q (.ref p) H'
theorem op_repG : OpR X (binaryOp .Mult) rRepG := by
  intro pins s σ H x y v u Q I rx ry h
  obtain ⟨l, k, xs, e1, e2, h1, h2, h3, h4, q⟩ := h
  exact op_rep pins s σ H x y v u Q I rx ry ⟨l, k, xs, e1, e2, h1, h2, h3, h4, fresh_any q⟩
end
/-! ### a list unpacked -/
section
variable {prog : Program} {w : World} {A : Around} {E : Value → Shared → Prop} {s : Shared}
theorem draw_list {it t : Addr} {items : Array Value} (hne : t ≠ it) : ∀ (n i : Nat) (s : Shared) (Q : List Value → Shared → Prop), s.heap.IsListIter it t i → s.heap.IsList t items → i + n ≤ items.size →
    (∀ h', h'.IsListIter it t (i + n) → Heap.SameBut it s.heap h' → Q ((items.toList.drop i).take n) { s with heap := h' }) → wpAny (model prog w) A (draw (.ref it) n) Q E s
  | 0, i, s, Q, hit, _, _, hQ => by
    show wpAny _ _ (pure []) Q E s
    exact wpAny_pure (by simpa using hQ s.heap hit (Heap.SameBut.refl ..))
  | n + 1, i, s, Q, hit, ht, hle, hQ => by
    have hlt : i < items.size := by omega
    show wpAny _ _ (pyNext (.ref it) >>= _) Q E s
    refine wpAny_bind (wpAny_pyNext_list_item hit ht (x := items[i]) (by simp [hlt]) fun h₁ hit₁ hs₁ => ?_)
    refine wpAny_bind (wpAny_holding (draw_list hne n (i + 1) _ _ hit₁ (ht.at fun o e => (hs₁.2 t hne).trans e) (by omega) fun h₂ hit₂ hs₂ => wpAny_pure ?_))
    have hd : items.toList.drop i = items[i] :: items.toList.drop (i + 1) := by simp [List.drop_eq_getElem_cons, hlt]
    have := hQ h₂ (by rw [show i + (n + 1) = i + 1 + n by omega]; exact hit₂) (hs₁.trans hs₂)
    rw [hd, List.take_succ_cons] at this
    exact this
theorem unpackItems_list {t : Addr} {items : Array Value} {Q : List Value → Shared → Prop} (hh : A.handled = none) (ht : s.heap.IsList t items)
    (hQ : ∀ h', Heap.ExtBut s.heap.objs.size s.heap h' → Q items.toList { s with heap := h' }) : wpAny (model prog w) A (unpackItems (.ref t) items.size none) Q E s := by
  have hlt : t ≠ s.heap.objs.size := by obtain ⟨o, ho, _⟩ := ht; exact Nat.ne_of_lt (Heap.lt_size ho)
  unfold unpackItems
  refine wpAny_bind ?_
  unfold notIterableAtAll
  refine wpAny_bind (wpAny_specialOf ht.typeIs F.slot_list_iter.lookup ?_)
  refine wpAny_pure ?_
  simp only [Bool.false_eq_true, if_false]
  refine wpAny_bind (wpAny_holding (wpAny_pyIter_list ht ?_))
  refine wpAny_bind (wpAny_holding (draw_list hlt items.size 0 _ _ ⟨_, Heap.get?_push_size _ rfl, rfl, rfl⟩ (ht.at fun o e => Heap.get?_push_of_some _ e) (by omega) fun h₁ hit₁ hs₁ => ?_))
  have hall : List.take items.size (List.drop 0 items.toList) = items.toList := by
    rw [List.drop_zero]; exact List.take_of_length_le (by simp)
  rw [hall]
  rw [if_neg (by simp)]
  have ht₁ : h₁.IsList t items := (ht.at fun o e => Heap.get?_push_of_some _ e).at fun o e => (hs₁.2 t hlt).trans e
  refine wpAny_bind (wpAny_holding (wpAny_pyNext_list_end hh hit₁ ht₁ (by simp) fun h₂ he₂ => ?_))
  simp only [Option.isSome_none, Bool.false_eq_true, if_false]
  refine wpAny_pure (hQ h₂ fun b o hb e => he₂ b o hb (hs₁.extBut b o hb (Heap.get?_push_of_some _ e)))
end
def gLstG (n : Nat) (t : TGs) : TG := fun v σ H Q => ∃ a xs, v = .ref a ∧ H a = some (.lst xs) ∧ xs.length = n ∧ t xs σ H Q
theorem pg_lstG {X : Cx} {es : List Expr} {k : Nat} {t : TGs} {pos : Pos} (n : Nat) (hc : X.calm = true) (h : PGs X es t)
    (hn : (assignEach es X.env).length = n := by rfl) (hst : (assignEach es X.env).findIdx? (·.1) = none := by rfl) : PG X (.Tuple es k pos) (gLstG n t) := by
  intro pins s σ H v u Q I r hw
  obtain ⟨a, xs, e1, hq, hl, hw⟩ := hw
  subst e1
  cases r
  obtain ⟨its, rv, p, hz⟩ := I.list (SqL.of hq)
  rw [assign_Tuple]
  refine wpAny_bind (wpAny_standAt ?_)
  unfold unpack
  have e : (assignEach es X.env).length = its.toArray.size := by simp [hn, ← hl, rv.length]
  rw [e, hst]
  refine wpAny_bind (wpAny_holding (unpackItems_list (I.ok.hd hc) p.isList fun h' hx => ?_))
  have I1 : Inv X pins σ H { s with heap := h' } := I.kept (t' := s.toks) fun b o e => hx b o (Nat.ne_of_lt (Heap.lt_size e)) e
  exact h pins _ σ H xs _ Q I1 (by simpa using rv) hw
end L2

set_option Elab.async false
set_option linter.all false
set_option maxRecDepth 100000
set_option maxHeartbeats 4000000
/-! our own rules: sum, sorted, list.insert, dict.pop, list(..), comprehensions with any target, over the abstract heap -/
namespace L2
open PySem PySem.Spec PyProof.Rows
def rSum : List V → Hp → VK → Prop := fun xs H Q => ∃ (p : Addr) (ns : List Int), xs = [.ref p] ∧ H p = some (.lst (ns.map V.int)) ∧ Q (.int ns.sum) H
def rSort : List V → Hp → VK → Prop := fun xs H Q => ∃ (p : Addr) (ns : List Int), xs = [.ref p] ∧ (H p = some (.lst (ns.map V.int)) ∨ ∃ kvs : List (Key × V), H p = some (.dK kvs) ∧ kvs.map (·.1) = ns.map Sum.inl) ∧ ns.length < 64 ∧
  ∀ D H' ms, H D = none → Same H H' → H' D = some (.lst (ms.map V.int)) → List.Perm ms ns → List.Pairwise (fun x y => x ≤ y) ms → Q (.ref D) H'
/-! ### list(..), list.insert, dict.pop -/
def rListG (K : PySem.W.Frag) : List V → Hp → VK → Prop := fun xs H Q => ∃ p ys, xs = [.ref p] ∧ (H p = some (.lst ys) ∨ H p = some (.tup ys)) ∧ ∀ l H', H l = none → Same H H' → H' l = some (.lst ys) → Q (.ref l) H'
theorem call_listG {X : Cx} : CallR X (.type "list") (rListG X.K) := by
  intro pins s σ H xs us Q I r h
  obtain ⟨p, ys, e, hp, q⟩ := h
  exact call_list_of pins s σ H xs us Q I r ⟨p, ys, e, hp.elim (fun h => .inl (SqL.of h)) (fun h => .inr (.inl (.inl h))), fresh_any q⟩
def insL (xs : List V) (k : Nat) (y : V) : List V := xs.take k ++ y :: xs.drop k
def rInsG : V → List V → Hp → VK → Prop := fun x vs H Q => ∃ l xs k y, x = .ref l ∧ vs = [.int k, y] ∧ H l = some (.lst xs) ∧ 0 ≤ k ∧ k ≤ xs.length ∧ xs.length < 1000 ∧ ∀ H', Mu H l (.lst (insL xs k.toNat y)) H' → Q .non H'
def tDPopG (td ty : TE) : TE := fun σ H Q => td σ H fun x H1 => ∃ a, x = .ref a ∧ (∃ kvs, H1 a = some (.dK kvs)) ∧ ty σ H1 fun y H2 => ∃ kvs k v, H2 a = some (.dK kvs) ∧ keyOf y = some k ∧ valV kvs k = some v ∧ ∀ H', Mu H2 a (.dK (dropK kvs k)) H' → Q v H'
/-! ### comprehensions with any target -/
section
variable {prog : Program} {w : World} {A : Around} {s : Shared}
theorem cl_loop {elt target iter : PySem.Expr} {ifs : List PySem.Expr} {scope : Scope} {pos : Pos} {it acc : Value} {env : Env} {R : Result → Shared → Prop} (I : Nat → Shared → Prop)
    (turn : ∀ n s, I n s → wpAny (model prog w) A (pyNext it) (fun r s₁ => match r with
      | none => R (.ok .next) s₁
      | some v => wpAny (model prog w) A (letOwnedTupleGo target it v) (fun _ s₀ => wpAny (model prog w) A (assign target env v) (fun _ s₂ =>
          wpAny (model prog w) A (forIn ifs true fun c r => if r = true then do let ok ← isTrue c env (eval c env); pure (ForInStep.yield ok) else pure (ForInStep.yield r)) (fun ok s₃ => if ok = true then wpAny (model prog w) A (eval elt env) (fun x s₄ =>
            wpAny (model prog w) A (call (.builtin "list.append") [acc, x]) (fun _ s₅ => ∃ m, m < n ∧ I m s₅) (notedBy (model prog w) A env fun e s' => R (.error e) s') s₄) (notedBy (model prog w) A env fun e s' => R (.error e) s') s₃
            else ∃ m, m < n ∧ I m s₃) (notedBy (model prog w) A env fun e s' => R (.error e) s') s₂)
          (notedBy (model prog w) A env fun e s' => R (.error e) s') s₀) (notedBy (model prog w) A env fun e s' => R (.error e) s') s₁) (notedBy (model prog w) A env fun e s' => R (.error e) s') s)
    (n : Nat) (h : I n s) : codeAny (model prog w) A (.compLoop (.ListComp elt [⟨target, iter, ifs, 0⟩] scope pos) 0 it acc env) R s := by
  refine codeAny_loop rfl I (fun n s hI => ?_) n h
  refine (show wpAny _ A ((compTurn (.ListComp elt [⟨target, iter, ifs, 0⟩] scope pos) 0 it acc env).onRaise _) _ _ s from wpAny_noted ?_)
  rw [compTurn_list]
  refine wpAny_bind (wpAny_standAt (wpAny_bind (wpAny_mono (turn n s hI) (fun r s1 q1 => ?_) fun _ _ z => z)))
  cases r with
  | none => exact wpAny_pure q1
  | some v =>
    refine wpAny_bind (wpAny_mono q1 (fun _ s2 q2 => wpAny_bind (wpAny_mono q2 (fun _ s3 q3 => wpAny_bind (wpAny_mono q3 (fun b s4 q4 => ?_) fun _ _ z => z)) fun _ _ z => z)) fun _ _ z => z)
    cases b with
    | false => exact wpAny_pure ⟨rfl, q4⟩
    | true => exact wpAny_bind (wpAny_bind (wpAny_mono q4 (fun x s5 q5 => wpAny_bind (wpAny_mono q5 (fun _ s6 q6 => wpAny_pure (wpAny_pure ⟨rfl, q6⟩)) fun _ _ z => z)) fun _ _ z => z))
end
structure CompScopeN (X : Cx) (scope : Scope) (cl : List (Str × Addr)) (N : List Str) (cap : List Nat) (k : Nat) : Prop where
  kind : scope.kind = .function
  clos : X.Ok → closureFor scope X.env = pure cl
  ncell : ∀ y ∈ scope.names, y.2 ≠ .cell
  names : ∀ y ∈ scope.names, y.2 = .local → scope.names.lookup y.1 = some .local
  nd : N.Nodup
  has : ∀ y, ((relabel scope X.env).names.lookup y = some .cell ∨ (relabel scope X.env).names.lookup y = some .free) → ∃ c, cl.lookup y = some c
  sub : X.Ok → ∀ y c, cl.lookup y = some c → X.env.cells.lookup y = some c
  len : N.length = cap.length + k
  cap : ∀ (j i : Nat) (y : Str), N[j + k]? = some y → cap[j]? = some i → X.N[i]? = some y ∧ Vis X.env.scope y ∧ X.env.kindOf y ≠ some .local ∧ ((relabel scope X.env).names.lookup y = some .cell ∨ (relabel scope X.env).names.lookup y = some .free)
def frameN (k : Nat) (σ : St) (cap : List Nat) : St := List.replicate k none ++ capOf σ cap
def tCompN (k : Nat) (cap : List Nat) (wi : TI) (g : TG) (tc : TT) (te : TE) : TE := fun σ H Q => wi σ H fun J H1 => ∀ D, H1 D = none → ∃ W : Nat → Nat → St → Hp → Prop, (∃ m, W 0 m (frameN k σ cap) (upd H1 D (.lst []))) ∧ ∀ i m σ1 H, W i m σ1 H →
  (J.stop i H ∧ Q (.ref D) H) ∨ (J.go i H ∧ ∀ x H', J.yld i H x H' → g x σ1 H' fun σ2 H1 => tc σ2 H1 fun b H2 => if b = true then te σ2 H2 fun v H3 => ∃ ys, H3 D = some (.lst ys) ∧ ys.length < sizeLine ∧ ∃ m', m' < m ∧ W (i + 1) m' σ2 (upd H3 D (.lst (ys ++ [v])))
    else ∃ m', m' < m ∧ W (i + 1) m' σ2 H2)
section
variable {X : Cx} {pins : List (Addr × Obj)} {σ : St} {H : Hp} {s : Shared} {scope : Scope} {cl : List (Str × Addr)} {N : List Str} {cap : List Nat} {k : Nat}
theorem Inv.enterN {fp : List Addr} {h' : Heap} {tk : Nat} (S : CompScopeN X scope cl N cap k) (I : Inv X pins σ H s) (f : ∀ b ∈ fp, FpOk X pins H b ∧ b < s.heap.objs.size) (hn : h'.Ns s.heap.objs.size fun _ => none)
    (kp : ∀ b o, s.heap.get? b = some o → h'.get? b = some o) : Inv (X.comp scope cl N s.heap.objs.size fp s H) [] (frameN k σ cap) H { s with heap := h', toks := tk } := by
  have nC : ∀ b o, s.heap.get? b = some o → b ≠ s.heap.objs.size := fun b o e => Nat.ne_of_lt (Heap.lt_size e)
  have ok := I.ok
  have cellOut : ∀ y c, cl.lookup y = some c → ∃ v, s.heap.IsCell c v := fun y c e => I.cell y c (S.sub I.ok y c e)
  refine ⟨⟨ok.mod, ?_, ok.glob, ok.blt, Nat.le_refl _, fun x y c a b => ok.inj x y c (S.sub I.ok x c a) (S.sub I.ok y c b), S.has, fun _ _ z => absurd z Bool.false_ne_true, ok.hd, ok.frames, .inl rfl, fun b hb => ⟨Nat.ne_of_lt (f b hb).2, fun y c e => (f b hb).1.2.2.2.2.1 y c (S.sub I.ok y c e)⟩, I.bs, Nat.le_trans ok.bsz I.sz, fun b o e hb => ?_, fun b hb z => ?_, I.stack, I.stkFree⟩,
    rfl, I.bare, Un.kept kp, ⟨_, hn, fun i y v a b c => ?_⟩, fun y c e => ?_, I.hok.fresh (Nat.le_refl _), fun y c e => I.freeC y c (S.sub I.ok y c e), fun p hp => by simp at hp, I.hok.kept kp, ?_⟩
  · exact S.kind
  · have := (f b hb).1.2.2.2.1
    rcases this with z | z
    · exact ok.noex b o e z
    · have l1 := Heap.lt_size e
      exact absurd (Nat.lt_of_lt_of_le l1 (Nat.le_trans ok.bsz z)) (Nat.lt_irrefl _)
  · rcases List.mem_cons.mp (I.stkSub b z) with q | q
    · exact (f b hb).1.2.1 q
    · exact (f b hb).1.2.2.1 q
  · unfold frameN at b
    by_cases hik : i < k
    · rw [List.getElem?_append_left (by rw [List.length_replicate]; exact hik)] at b
      simp [hik] at b
    · obtain ⟨j, rfl⟩ : ∃ j, i = j + k := ⟨i - k, by omega⟩
      rw [List.getElem?_append_right (by rw [List.length_replicate]; omega), List.length_replicate, Nat.add_sub_cancel] at b
      unfold capOf at b
      rw [List.getElem?_map] at b
      cases e : cap[j]? with
      | none => rw [e] at b; cases b
      | some i =>
        rw [e] at b
        have b : (σ[i]?).join = some v := by simpa using b
        obtain ⟨p1, p2, p3, p4⟩ := S.cap j i y a e
        have b' : σ[i]? = some (some v) := by
          cases q : σ[i]? with
          | none => rw [q] at b; cases b
          | some w => rw [q] at b; exact congrArg some b
        obtain ⟨m, hm, hl⟩ := I.loc
        obtain ⟨u, ru, l⟩ := hl i y v p1 b' p2
        refine ⟨u, ru, .inr ⟨p4, ?_⟩⟩
        rcases l with l | ⟨l, c0, e0, o', q', hd'⟩
        · exact absurd l.1 p3
        · obtain ⟨c, ec⟩ := S.has y p4
          have := S.sub I.ok y c ec
          rw [e0] at this
          cases this
          exact ⟨c0, ec, o', kp _ _ q', hd'⟩
  · obtain ⟨v, o, q, hd⟩ := cellOut y c e
    exact ⟨v, o, kp _ _ q, hd⟩
  · show (frameN k σ cap).length = N.length
    unfold frameN capOf
    rw [S.len, List.length_append, List.length_replicate, List.length_map]
    omega
end

section
variable {X : Cx} {scope : Scope} {cl : List (Str × Addr)} {N : List Str} {cap : List Nat} {k : Nat} {tg : Expr} {g : TG} {pos : Pos} {iter elt : Expr} {ifs : List Expr} {wi : TI} {tc : TT} {te : TE}
theorem comp_coreN {use : Option (Value → Sem Unit)} {Qv : Value → Shared → Prop} {pins : List (Addr × Obj)} {s : Shared} {σ : St} {H : Hp} {Q : VK} {pos' : Pos} (S : CompScopeN X scope cl N cap k) (hc : X.calm = true) (hi : PI X tg iter wi) (hg : ∀ C fp s₀ H₀, PG (X.comp scope cl N C fp s₀ H₀) tg g)
    (ht : ∀ C fp s₀ H₀, PTs (X.comp scope cl N C fp s₀ H₀) ifs tc) (he : ∀ C fp s₀ H₀, PE (X.comp scope cl N C fp s₀ H₀) elt te) (hs : ∀ x, foldedSetIterable iter X.env x = pure x)
    (I : Inv X pins σ H s) (h : tCompN k cap wi g tc te σ H Q)
    (fin : ∀ (D C : Addr) (H6 : Hp) (s6 : Shared) (m : Str → Option Value), Inv X pins σ H6 s6 → FpOk X pins H6 C → s6.heap.Ns C m → Q (.ref D) H6 → compPost (model X.prog X.w) X.A X.xe use Qv (.ref D) C (.ok .next) s6) :
    wpAny (model X.prog X.w) X.A (comprehension (.ListComp elt [⟨tg, iter, ifs, 0⟩] scope pos) scope X.env pos' (newList []) false (eval iter X.env) use) Qv X.xe s := by
  refine wpAny_comprehension_free (use := use) rfl hs (S.clos I.ok) S.kind S.names (thn (hi pins s σ H _ I h) fun v s1 h1 => thn h1 fun itv s2 h2 => ?_)
  obtain ⟨it, fp, tn, J, H2, rfl, I2, T, st2, f2, q⟩ := h2
  obtain ⟨W, ⟨m0, w0⟩, turn⟩ := q s2.heap.objs.size (I2.hok.fresh (Nat.le_refl _))
  have I3 : Inv X pins σ (upd H2 s2.heap.objs.size (.lst [])) { s2 with heap := s2.heap.push { cls := .type "list", dict := none, data := .seq ([] : List Value).toArray } } :=
    I2.laid (t' := s2.toks) (fun b u e => Heap.get?_push_of_some _ e) (Nat.le_refl _) ⟨Nat.zero_le _, [], 0, .nil, Heap.get?_push_size _ rfl⟩
  refine wpAny_newObj_type (wpAny_newFunctionEnv S.ncell (by intro y hy; simp at hy) (fun h4 hns hsb => ?_) S.kind)
  generalize hs3 : ({ s2 with heap := s2.heap.push { cls := .type "list", dict := none, data := .seq ([] : List Value).toArray } } : Shared) = s3 at I3 hns hsb ⊢
  have f3 : ∀ b ∈ fp, FpOk X pins (upd H2 s2.heap.objs.size (.lst [])) b ∧ b < s3.heap.objs.size := fun b hb => by
    obtain ⟨o, ho, _⟩ := T.obj _ _ st2 b hb
    have l1 : b < s2.heap.objs.size := Heap.lt_size ho
    refine ⟨⟨?_, (f2 b hb).2⟩, ?_⟩
    · rw [upd_ne (Nat.ne_of_lt l1)]; exact (f2 b hb).1
    · rw [← hs3, Heap.size_push]; exact Nat.lt_succ_of_lt l1
  have nsN : h4.Ns s3.heap.objs.size fun _ => none := by
    have := hns
    simpa using this
  have keep4 : ∀ b o, s3.heap.get? b = some o → h4.get? b = some o := fun b o e => (hsb.2 b (Nat.ne_of_lt (Heap.lt_size e))).trans (Heap.get?_push_of_some _ e)
  have Ic := I3.enterN (tk := s3.toks + ([] : List (Str × Value)).length) S f3 nsN keep4
  have st4 : tn 0 h4 := T.keep _ _ _ st2 fun b hb o e => keep4 b o (by rw [← hs3]; exact Heap.get?_push_of_some _ e)
  have stat : ∀ {H' : Hp}, (∀ b ∈ fp, H' b = none) → ∀ b ∈ fp, FpOk (X.comp scope cl N s3.heap.objs.size fp s3 (upd H2 s2.heap.objs.size (.lst []))) [] H' b := fun hn b hb =>
    ⟨hn b hb, Nat.ne_of_lt (f3 b hb).2, fun z => (List.mem_cons.mp (I3.stkSub b z)).elim (fun q => (f3 b hb).1.2.1 q) fun q => (f3 b hb).1.2.2.1 q, .inl hb, fun y c e => (f3 b hb).1.2.2.2.2.1 y c (S.sub I.ok y c e), fun p hp => by simp at hp⟩
  have out : ∀ {σx : St} {H6 : Hp} {s6 : Shared}, Inv (X.comp scope cl N s3.heap.objs.size fp s3 (upd H2 s2.heap.objs.size (.lst []))) [] σx H6 s6 → Q (.ref s2.heap.objs.size) H6 →
      compPost (model X.prog X.w) X.A X.xe use Qv (Value.ref s2.heap.objs.size) s3.heap.objs.size (.ok .next) s6 := fun {σx H6 s6} I6 q6 => by
    obtain ⟨m, hm, _⟩ := I6.loc
    have Io : Inv X pins σ H6 s6 := I3.call' I6.os I6.base I6.hok I6.bare fun b hb => ⟨(f3 b hb).1.2.2.2.1, (f3 b hb).1.2.1, (f3 b hb).1.2.2.2.2.1, (f3 b hb).1.2.2.2.2.2⟩
    exact fin _ _ _ _ m Io (I3.fpOk (b := s3.heap.objs.size) (H' := H6) (Nat.le_refl _) I6.free) hm q6
  have loop : codeAny (model X.prog X.w) X.A (.compLoop (.ListComp elt [⟨tg, iter, ifs, 0⟩] scope pos) 0 (.ref it) (.ref s2.heap.objs.size) (compEnvC scope cl s3.heap.objs.size X.env))
      (compPost (model X.prog X.w) X.A X.xe use Qv (Value.ref s2.heap.objs.size) s3.heap.objs.size) { s3 with heap := h4, toks := s3.toks + ([] : List (Str × Value)).length } := by
    refine cl_loop (fun n s' => ∃ i σx H', Inv (X.comp scope cl N s3.heap.objs.size fp s3 (upd H2 s2.heap.objs.size (.lst []))) [] σx H' s' ∧ tn i s'.heap ∧ (∀ b ∈ fp, H' b = none) ∧ W i n σx H') ?_ m0 ⟨0, _, _, Ic, st4, fun b hb => (f3 b hb).1.1, w0⟩
    rintro n s5 ⟨i, σx, H5, I5, st5, fr5, w5⟩
    rcases turn i n σx H5 w5 with ⟨stop, qd⟩ | ⟨go, step⟩
    · refine wpAny_mono (T.done (X.comp scope cl N s3.heap.objs.size fp s3 (upd H2 s2.heap.objs.size (.lst []))) rfl rfl rfl hc i [] s5 _ H5 (fun _ _ => False) I5 (stat fr5) st5 stop) (fun r s6 ⟨hr, I6⟩ => ?_) fun _ _ z => z.elim
      subst hr
      exact out I6 qd
    · refine wpAny_mono (T.item (X.comp scope cl N s3.heap.objs.size fp s3 (upd H2 s2.heap.objs.size (.lst []))) rfl rfl rfl hc i [] s5 _ H5 (fun _ _ => False) I5 (stat fr5) st5 go) (fun r s6 ⟨u, hr, h6⟩ => ?_) fun _ _ z => z.elim
      subst hr
      refine wpAny_mono h6 (fun _ s7 ⟨v, H7, I7, r7, y7, st7, fr7⟩ => ?_) fun _ _ z => z.elim
      have I7' := I7.pinned (stat fr7) (T.obj _ _ st7)
      have again : ∀ {σ9 : St} {H9 : Hp} {s9 : Shared}, Inv (X.comp scope cl N s3.heap.objs.size fp s3 (upd H2 s2.heap.objs.size (.lst []))) ([] ++ pinsAt fp s7.heap) σ9 H9 s9 → (∃ m', m' < n ∧ W (i + 1) m' σ9 H9) →
          ∃ m', m' < n ∧ ∃ i σx H', Inv (X.comp scope cl N s3.heap.objs.size fp s3 (upd H2 s2.heap.objs.size (.lst []))) [] σx H' s9 ∧ tn i s9.heap ∧ (∀ b ∈ fp, H' b = none) ∧ W i m' σx H' := fun {σ9 H9 s9} I9 ⟨m', lt, w'⟩ => by
        refine ⟨m', lt, i + 1, σ9, H9, I9.unpinned, T.keep _ _ _ st7 fun b hb o e => (I9.pin (b, o) (List.mem_append_right _ (List.mem_append_right _ (mem_pinsAt hb e)))).1, fun b hb => ?_, w'⟩
        obtain ⟨o, e, d⟩ := T.obj _ _ st7 b hb
        exact (I9.pin (b, o) (List.mem_append_right _ (List.mem_append_right _ (mem_pinsAt hb e)))).2.1
      refine wpAny_mono (hg _ _ _ _ _ s7 σx H7 v u _ I7' r7 (step v H7 y7)) (fun _ s8 ⟨σ8, H8, I8, q8⟩ => ?_) fun _ _ z => z.elim
      refine wpAny_mono (ht _ _ _ _ _ s8 _ H8 _ I8 q8) (fun b s9 ⟨H9, I9, q9⟩ => ?_) fun _ _ z => z.elim
      cases b with
      | false => exact again I9 q9
      | true =>
        refine wpAny_mono (he _ _ _ _ _ s9 _ H9 _ I9 q9) (fun u' s10 ⟨v', H10, I10, r10, ys, hD, hz, q10⟩ => ?_) fun _ _ z => z.elim
        refine wpAny_mono (mt_append (X := X.comp scope cl N s3.heap.objs.size fp s3 (upd H2 s2.heap.objs.size (.lst []))) _ s10 _ H10 (.ref s2.heap.objs.size) [v'] (.ref s2.heap.objs.size) [u'] (fun _ H' => ∃ m', m' < n ∧ W (i + 1) m' σ8 H') I10 rfl (.cons r10 .nil) ⟨_, ys, v', rfl, rfl, hD, hz, q10⟩) (fun _ s11 ⟨_, H11, I11, _, q11⟩ => again I11 q11) fun _ _ z => z.elim
  exact codeAny_compStart_list loop (T.self _ 0 _ _ _ st4 loop)
theorem pe_compN (S : CompScopeN X scope cl N cap k) (hc : X.calm = true) (hi : PI X tg iter wi) (hg : ∀ C fp s₀ H₀, PG (X.comp scope cl N C fp s₀ H₀) tg g)
    (ht : ∀ C fp s₀ H₀, PTs (X.comp scope cl N C fp s₀ H₀) ifs tc) (he : ∀ C fp s₀ H₀, PE (X.comp scope cl N C fp s₀ H₀) elt te) (hs : ∀ x, foldedSetIterable iter X.env x = pure x := by intro _; rfl) :
    PE X (.ListComp elt [⟨tg, iter, ifs, 0⟩] scope pos) (tCompN k cap wi g tc te) := by
  intro pins s σ H Q I h
  rw [eval_ListComp]
  refine comp_coreN S hc hi hg ht he hs I h fun D C H6 s6 m Io Cf hm q6 => ?_
  exact ⟨m, hm, fun h' sb => ⟨.ref D, H6, Io.turned (it := C) (t' := s6.toks) (fun b o n e => (sb.2 b n).trans e) Cf.1 Cf.2.1 Cf.2.2.2.1 Cf.2.2.2.2.1 Cf.2.2.2.2.2, rfl, q6⟩⟩
theorem ps_setCN {i : Nat} {y : Str} {py spos : Pos} (hN : X.N.Nodup) (hiy : X.N[i]? = some y) (hy : Loc X.env.scope y) (S : CompScopeN X scope cl N cap k) (hc : X.calm = true) (hi : PI X tg iter wi) (hg : ∀ C fp s₀ H₀, PG (X.comp scope cl N C fp s₀ H₀) tg g)
    (ht : ∀ C fp s₀ H₀, PTs (X.comp scope cl N C fp s₀ H₀) ifs tc) (he : ∀ C fp s₀ H₀, PE (X.comp scope cl N C fp s₀ H₀) elt te) (hs : ∀ x, foldedSetIterable iter X.env x = pure x := by intro _; rfl)
    (hsw : swapsWith (.ListComp elt [⟨tg, iter, ifs, 0⟩] scope pos) (some (.Name y py)) spos.line X.env = pure true := by rfl)
    (hf : X.fn y = true ∨ X.env.scope.names.lookup y = some .local := by first | exact .inl rfl | exact .inr rfl | assumption) :
    PS X (.Assign [.Name y py] (.ListComp elt [⟨tg, iter, ifs, 0⟩] scope pos) spos) (tAsg (tCompN k cap wi g tc te) (gName i)) := by
  intro pins s σ H D I h
  rw [exec_Assign_Name_used _ _ _ _ hsw]
  refine wpAny_bind (wpAny_standAt (wpAny_bind ?_))
  show wpAny _ X.A (do let _ ← comprehension (.ListComp elt [⟨tg, iter, ifs, 0⟩] scope pos) scope X.env _ (newList []) false (eval iter X.env) (some (assign (.Name y py) X.env))) _ _ s
  refine wpAny_bind (wpAny_mono (comp_coreN (use := some (assign (.Name y py) X.env)) (Qv := fun _ s' => SP X pins D .next s') S hc hi hg ht he hs I h fun D' C H6 s6 m Io Cf hm q6 => ?_) (fun _ s' hq => wpAny_pure (wpAny_pure hq)) fun _ _ e => e)
  show wpAny _ X.A (assign (.Name y py) X.env (.ref D')) _ _ _
  refine wpAny_assign_Name (store_ok2 (v := .ref D') Io hN hiy hy rfl (fun s7 I7 hsb => ?_) hf)
  obtain ⟨a, sb, ha⟩ := hsb
  have hne : C ≠ a := fun e => ha.elim (fun q => Cf.2.1 (e.trans q)) fun q => Cf.2.2.2.2.1 _ _ q e.symm
  refine ⟨m, hm.at' fun o e => (sb.2 C hne).trans e, fun h' sb' => ?_⟩
  exact ⟨_, H6, I7.turned (it := C) (t' := s7.toks) (fun b o n e => (sb'.2 b n).trans e) Cf.1 Cf.2.1 Cf.2.2.2.1 Cf.2.2.2.2.1 Cf.2.2.2.2.2, q6⟩
end
theorem comp_scopeN (k : Nat) {X : Cx} {scope : Scope} {N : List Str} {cap : List Nat} (hk : scope.kind = .function) (h1 : scope.names.all (fun y => y.2 != .cell) = true) (h2 : scope.names.all (fun y => y.2 != .local || scope.names.lookup y.1 == some .local) = true)
    (h3 : scope.names.all (fun y => y.2 != .free || X.env.scope.names.lookup y.1 == some .cell || X.env.scope.names.lookup y.1 == some .free) = true)
    (nd : N.Nodup) (hl : N.length = cap.length + k) (hc : (N.drop k).map some = cap.map (fun i => X.N[i]?)) (hf : (N.drop k).all (fun y => scope.names.lookup y == some .free) = true) : CompScopeN X scope (clOf X.env scope) N cap k := by
  have fr : ∀ y : Str, (y, NameKind.free) ∈ scope.names → X.env.scope.names.lookup y = some .cell ∨ X.env.scope.names.lookup y = some .free := fun y hy => by
    have := List.all_eq_true.mp h3 _ hy
    simpa using this
  have nc : ∀ y ∈ scope.names, y.2 ≠ .cell := fun y hy => by
    have := List.all_eq_true.mp h1 y hy
    simpa using this
  have fr2 : X.Ok → ∀ y ∈ scope.names, y.2 = .free → ∃ c, X.env.cells.lookup y.1 = some c := fun ok y hy e => by
    obtain ⟨n, k⟩ := y
    have e : k = .free := e
    subst e
    exact ok.has n (fr n hy)
  refine ⟨hk, fun ok => closure_of (fr2 ok), nc, fun y hy e => ?_, nd, fun y hy => ?_, fun ok y c e => cl_sub scope.names [] (fr2 ok) (fun _ _ z => by simp at z) y c e, hl, fun j i y a b => ?_⟩
  · have := List.all_eq_true.mp h2 y hy
    simpa [e] using this
  · have hm : (y, NameKind.free) ∈ scope.names := by
      have : ∃ k', (k' = NameKind.cell ∨ k' = NameKind.free) ∧ (y, k') ∈ (relabel scope X.env).names := by
        rcases hy with hy | hy
        · exact ⟨_, .inl rfl, lookup_mem hy⟩
        · exact ⟨_, .inr rfl, lookup_mem hy⟩
      obtain ⟨k', hk', hm⟩ := this
      obtain ⟨⟨n, k⟩, hz, e⟩ := List.mem_map.mp hm
      dsimp only at e
      split at e
      · rename_i hcond
        obtain ⟨rfl, rfl⟩ := Prod.mk.inj e
        simp only [Bool.and_eq_true] at hcond
        have : k = .free := by simpa using hcond.1.1
        subst this
        exact hz
      · obtain ⟨rfl, rfl⟩ := Prod.mk.inj e
        rcases hk' with rfl | rfl
        · exact absurd rfl (nc _ hz)
        · exact hz
    have := cl_has (env := X.env) scope.names [] y (.inl hm)
    exact Option.isSome_iff_exists.mp this
  · have hy : y ∈ N.drop k := by
      refine List.mem_of_getElem? (i := j) ?_
      rw [List.getElem?_drop, Nat.add_comm]
      exact a
    have e1 : X.N[i]? = some y := by
      have := congrArg (fun l => l[j]?) hc
      simp only [List.getElem?_map, List.getElem?_drop, Nat.add_comm k j, a, b, Option.map_some] at this
      exact (Option.some.inj this).symm
    have e2 : scope.names.lookup y = some .free := by
      have := List.all_eq_true.mp hf y hy
      simpa using this
    have e3 := fr y (lookup_mem e2)
    refine ⟨e1, e3.elim (fun z => .inr (.inl z)) fun z => .inr (.inr z), ?_, lookup_relabel_free e2⟩
    intro z
    have z : X.env.scope.names.lookup y = some .local := z
    rcases e3 with e3 | e3 <;> rw [e3] at z <;> cases z
def CompJ (J : It) (g : TG) (tc : TT) (te : TE) (cs : St) (H1 : Hp) (Q : VK) : Prop := ∀ D, H1 D = none → ∃ W : Nat → Nat → St → Hp → Prop, (∃ m, W 0 m cs (upd H1 D (.lst []))) ∧ ∀ i m σ1 H, W i m σ1 H →
  (J.stop i H ∧ Q (.ref D) H) ∨ (J.go i H ∧ ∀ x H', J.yld i H x H' → g x σ1 H' fun σ2 H1 => tc σ2 H1 fun b H2 => if b = true then te σ2 H2 fun v H3 => ∃ ys, H3 D = some (.lst ys) ∧ ys.length < sizeLine ∧ ∃ m', m' < m ∧ W (i + 1) m' σ2 (upd H3 D (.lst (ys ++ [v])))
    else ∃ m', m' < m ∧ W (i + 1) m' σ2 H2)
theorem tcomp_in {k : Nat} {cap : List Nat} {wi : TI} {g : TG} {tc : TT} {te : TE} {σ : St} {H : Hp} {Q : VK} (h : wi σ H fun J H1 => CompJ J g tc te (frameN k σ cap) H1 Q) : tCompN k cap wi g tc te σ H Q := h
def CW (xs : List V) (H1 : Hp) (D : Addr) (Pv : Nat → List V → St → Hp → Prop) (i m : Nat) (σ1 : St) (H : Hp) : Prop := m = xs.length - i ∧ i ≤ xs.length ∧ Same H1 H ∧ ∃ ys, H D = some (.lst ys) ∧ ys.length ≤ i ∧ Pv i ys σ1 H
def Put (xs : List V) (H1 : Hp) (D : Addr) (Pv : Nat → List V → St → Hp → Prop) (i : Nat) (σ2 : St) (v : V) (H3 : Hp) : Prop := ∃ ys, H3 D = some (.lst ys) ∧ ys.length < sizeLine ∧ ∃ m', m' < xs.length - i ∧ CW xs H1 D Pv (i + 1) m' σ2 (upd H3 D (.lst (ys ++ [v])))
def Skip (xs : List V) (H1 : Hp) (D : Addr) (Pv : Nat → List V → St → Hp → Prop) (i : Nat) (σ2 : St) (H2 : Hp) : Prop := ∃ m', m' < xs.length - i ∧ CW xs H1 D Pv (i + 1) m' σ2 H2
structure At (xs : List V) (H1 : Hp) (D : Addr) (i : Nat) (ys : List V) (H : Hp) : Prop where
  new : H1 D = none
  lt : i < xs.length
  sz : xs.length < sizeLine
  same : Same H1 H
  lst : H D = some (.lst ys)
  le : ys.length ≤ i
theorem At.put {xs : List V} {H1 : Hp} {D : Addr} {i : Nat} {ys : List V} {H H4 : Hp} {Pv : Nat → List V → St → Hp → Prop} {σ2 : St} {v : V} (a : At xs H1 D i ys H) (g : Same H H4) (p : ∀ H5, Mu H4 D (.lst (ys ++ [v])) H5 → Pv (i + 1) (ys ++ [v]) σ2 H5) : Put xs H1 D Pv i σ2 v H4 :=
  ⟨ys, g _ _ a.lst, by have := a.le; have := a.lt; have := a.sz; omega, xs.length - (i + 1), by have := a.lt; omega, rfl, a.lt, Mu.mk'.same (a.same.trans g) a.new, _, upd_same, by have := a.le; rw [List.length_append, List.length_singleton]; omega, p _ Mu.mk'⟩
theorem At.skip {xs : List V} {H1 : Hp} {D : Addr} {i : Nat} {ys : List V} {H H4 : Hp} {Pv : Nat → List V → St → Hp → Prop} {σ2 : St} (a : At xs H1 D i ys H) (g : Same H H4) (p : Pv (i + 1) ys σ2 H4) : Skip xs H1 D Pv i σ2 H4 :=
  ⟨xs.length - (i + 1), by have := a.lt; omega, rfl, a.lt, a.same.trans g, ys, g _ _ a.lst, Nat.le_succ_of_le a.le, p⟩
/-! ### what is new in a heap -/
def nw (H H' : Hp) : Hp := fun a => match H a with | none => H' a | some _ => none
end L2

set_option Elab.async false
set_option linter.all false
set_option maxRecDepth 100000
set_option maxHeartbeats 4000000
/-! our own rules: comprehensions whose invariant knows the list that grows -/
namespace L2
open PySem PySem.Spec PyProof.Rows
def hide (D : Addr) (H : Hp) : Hp := fun c => if c = D then none else H c
theorem hide_of {D c : Addr} {H : Hp} {u : HO} (n : c ≠ D) (h : H c = some u) : hide D H c = some u := by unfold hide; rw [if_neg n]; exact h
theorem hide_inv {D c : Addr} {H : Hp} {u : HO} (h : hide D H c = some u) : c ≠ D ∧ H c = some u := by
  unfold hide at h
  by_cases e : c = D
  · rw [if_pos e] at h; cases h
  · rw [if_neg e] at h; exact ⟨e, h⟩
theorem hide_le {D : Addr} {H : Hp} : Same (hide D H) H := fun c u h => (hide_inv h).2
theorem hide_same {D : Addr} {H H' : Hp} (g : Same H H') : Same (hide D H) (hide D H') := fun c u h => hide_of (hide_inv h).1 (g _ _ (hide_inv h).2)
theorem hide_mu {D : Addr} {H H' : Hp} {o : HO} (mu : Mu H D o H') : Same (hide D H) (hide D H') := fun c u h => hide_of (hide_inv h).1 (mu.old (hide_inv h).2 (hide_inv h).1)
theorem compJD {J : It} {xs : List V} {ok : Hp → Prop} (O : Over J xs ok) {g : TG} {tc : TT} {te : TE} {cs : St} {H1 : Hp} {Q : VK} (hok : ∀ H, Same H1 H → ok H) (sz : xs.length < sizeLine) (Pv : Addr → Nat → List V → St → Hp → Prop)
    (h0 : ∀ D H', H1 D = none → Same H1 H' → H' D = some (.lst []) → Pv D 0 [] cs H')
    (hs : ∀ D i x ys σ1 H', xs[i]? = some x → At xs H1 D i ys H' → Pv D i ys σ1 H' → g x σ1 H' fun σ2 H2 => tc σ2 H2 fun b H3 => if b = true then te σ2 H3 fun v H4 => Put xs H1 D (Pv D) i σ2 v H4 else Skip xs H1 D (Pv D) i σ2 H3)
    (hd : ∀ D ys σ1 H', H1 D = none → Same H1 H' → H' D = some (.lst ys) → ys.length ≤ xs.length → Pv D xs.length ys σ1 H' → Q (.ref D) H') : CompJ J g tc te cs H1 Q := by
  intro D hD
  refine ⟨CW xs H1 D (Pv D), ⟨_, rfl, Nat.zero_le _, same_new hD _, [], upd_same, Nat.le_refl _, h0 D _ hD (same_new hD _) upd_same⟩, ?_⟩
  rintro i m σ1 H ⟨rfl, hi, sm, ys, hy, ly, p⟩
  by_cases hlt : i < xs.length
  · refine .inr ⟨O.go i _ (hok _ sm) hlt, fun x H' y => ?_⟩
    obtain ⟨rfl, hx⟩ := O.yld i _ x H' (hok _ sm) hlt y
    exact hs D i x ys σ1 H' hx ⟨hD, hlt, sz, sm, hy, ly⟩ p
  · have e : i = xs.length := by omega
    subst e
    exact .inl ⟨O.stop _ _ (hok _ sm) (Nat.le_refl _), hd D ys σ1 _ hD sm hy ly p⟩
theorem compJD_list {K : PySem.W.Frag} {a : Addr} {xs : List V} {g : TG} {tc : TT} {te : TE} {cs : St} {H1 : Hp} {Q : VK} (ha : H1 a = some (.lst xs)) (sz : xs.length < sizeLine) (Pv : Addr → Nat → List V → St → Hp → Prop)
    (h0 : ∀ D H', H1 D = none → Same H1 H' → H' D = some (.lst []) → Pv D 0 [] cs H')
    (hs : ∀ D i x ys σ1 H', xs[i]? = some x → At xs H1 D i ys H' → Pv D i ys σ1 H' → g x σ1 H' fun σ2 H2 => tc σ2 H2 fun b H3 => if b = true then te σ2 H3 fun v H4 => Put xs H1 D (Pv D) i σ2 v H4 else Skip xs H1 D (Pv D) i σ2 H3)
    (hd : ∀ D ys σ1 H', H1 D = none → Same H1 H' → H' D = some (.lst ys) → ys.length ≤ xs.length → Pv D xs.length ys σ1 H' → Q (.ref D) H') : CompJ (Itl K a) g tc te cs H1 Q :=
  compJD over_list (fun H g => g _ _ ha) sz Pv h0 hs hd
theorem compJD_range {n : Nat} {g : TG} {tc : TT} {te : TE} {cs : St} {H1 : Hp} {Q : VK} (sz : n < 100000) (Pv : Addr → Nat → List V → St → Hp → Prop)
    (h0 : ∀ D H', H1 D = none → Same H1 H' → H' D = some (.lst []) → Pv D 0 [] cs H')
    (hs : ∀ D i ys σ1 H', i < n → At ((List.range n).map fun (k : Nat) => V.int (0 + k)) H1 D i ys H' → Pv D i ys σ1 H' → g (.int (i : Nat)) σ1 H' fun σ2 H2 => tc σ2 H2 fun b H3 => if b = true then te σ2 H3 fun v H4 => Put ((List.range n).map fun (k : Nat) => V.int (0 + k)) H1 D (Pv D) i σ2 v H4 else Skip ((List.range n).map fun (k : Nat) => V.int (0 + k)) H1 D (Pv D) i σ2 H3)
    (hd : ∀ D ys σ1 H', H1 D = none → Same H1 H' → H' D = some (.lst ys) → ys.length ≤ n → Pv D n ys σ1 H' → Q (.ref D) H') : CompJ (Itr 0 n) g tc te cs H1 Q := by
  have el : ((List.range n).map fun (k : Nat) => V.int (0 + k)).length = n := by rw [List.length_map, List.length_range]
  refine compJD (over_range 0 n) (fun _ _ => trivial) (by rw [el]; unfold sizeLine; omega) Pv h0 (fun D i x ys σ1 H' hx a p => ?_) (fun D ys σ1 H' h1 h2 h3 h4 h5 => hd D ys σ1 H' h1 h2 h3 (by rw [el] at h4; exact h4) (by rw [el] at h5; exact h5))
  have hi : i < n := by have := a.lt; rw [el] at this; exact this
  have ex : x = .int (i : Nat) := by
    rw [List.getElem?_map, List.getElem?_range hi] at hx
    simp at hx
    exact hx.symm
  rw [ex]
  exact hs D i ys σ1 H' hi a p
end L2

set_option Elab.async false
set_option linter.all false
set_option maxRecDepth 100000
set_option maxHeartbeats 4000000
/-! our own rules: list.pop(i), range(n) as a value, list(range(n)), xs[::-1], over the abstract heap -/
namespace L2
open PySem PySem.Spec PyProof.Rows
section
variable {X : Cx}
def rPopAtG : V → List V → Hp → VK → Prop := fun x vs H Q => ∃ l xs i y, x = .ref l ∧ vs = [.int i] ∧ H l = some (.lst xs) ∧ 0 ≤ i ∧ i < xs.length ∧ xs.length < 100000 ∧ xs[i.toNat]? = some y ∧ ∀ H', Mu H l (.lst (xs.eraseIdx i.toNat)) H' → Q y H'
theorem mt_popAtG : MtR X "list.pop" rPopAtG := by
  intro pins s σ H x vs v us Q I rx rv h
  obtain ⟨l, xs, i, y, e1, e2, hH, h0, h1, h2, hy, q⟩ := h
  exact mt_popAt pins s σ H x vs v us Q I rx rv ⟨l, xs, i, i.toNat, y, e1, e2, hH, by omega, by omega, PySem.StrLaws.seqIndex_nonneg h0 h1, hy, q _ .mk'⟩
def tRng1 (ta : TA) : TE := fun σ H Q => ta σ H fun vs H1 => ∃ j : Int, vs = [.int j] ∧ ∀ p H', H1 p = none → Same H1 H' → H' p = some (.rng 0 j) → Q (.ref p) H'
def rListRng : List V → Hp → VK → Prop := fun xs H Q => ∃ p, ∃ n : Nat, xs = [.ref p] ∧ H p = some (.rng 0 n) ∧ n < 100000 ∧ ∀ l H', H l = none → Same H H' → H' l = some (.lst (((List.range n).map fun k => ((k : Nat) : Int)).map V.int)) → Q (.ref l) H'
def tRev (te : TE) (ts : TO) : TE := fun σ H Q => te σ H fun x H1 => ts σ H1 fun o H2 => o = some (-1) ∧ ∃ a xs, x = .ref a ∧ H2 a = some (.lst xs) ∧ ∀ p H', H2 p = none → Same H2 H' → H' p = some (.lst xs.reverse) → Q (.ref p) H'
end
end L2

set_option Elab.async false
set_option linter.all false
set_option maxRecDepth 100000
set_option maxHeartbeats 4000000
/-! our own rules: min of a list, list.index, over the abstract heap -/
namespace L2
open PySem PySem.Spec PyProof.Rows
section
variable {X : Cx}
def rMinL : List V → Hp → VK → Prop := fun xs H Q => ∃ (p : Addr) (ns : List Int), xs = [.ref p] ∧ H p = some (.lst (ns.map V.int)) ∧ 0 < ns.length ∧ ∀ M : Int, M ∈ ns → (∀ a ∈ ns, M ≤ a) → Q (.int M) H
def rIdxG : V → List V → Hp → VK → Prop := fun x vs H Q => ∃ (l : Addr) (ns : List Int) (k : Int), x = .ref l ∧ vs = [.int k] ∧ H l = some (.lst (ns.map V.int)) ∧ k ∈ ns ∧ ns.length < 100000 ∧ Q (.int (ns.idxOf k : Nat)) H
end
end L2

set_option Elab.async false
set_option linter.all false
set_option maxRecDepth 100000
set_option maxHeartbeats 4000000
/-! our own rules: instances of own classes over the abstract heap: attributes, methods, making -/
namespace L2
open PySem PySem.Spec PyProof.Rows
theorem lookup_n {f : Str} : List.lookup f ([] : List (Str × V)) = none := rfl
theorem lookup_c {f g : Str} {v : V} {r : List (Str × V)} : List.lookup f ((g, v) :: r) = if f = g then some v else List.lookup f r := by
  by_cases h : f = g
  · have hb : (f == g) = true := beq_iff_eq.mpr h
    simp only [List.lookup, hb, if_pos h]
  · have hb : (f == g) = false := beq_eq_false_iff_ne.mpr h
    simp only [List.lookup, hb, if_neg h]
theorem putF_n {f : Str} {v : V} : putF f v [] = [(f, v)] := rfl
theorem putF_c {f g : Str} {v x : V} {r : List (Str × V)} : putF f v ((g, x) :: r) = if g = f then (g, v) :: r else (g, x) :: putF f v r := rfl
structure MethAt (K : PySem.W.Frag) (C : Addr) (m q : Str) (st : Stmt) (ps : List Str) : Prop where
  ex : ∃ f fd, Meth K C m f ∧ Fun K m q st f fd ∧ Binds K fd ps []
structure OkM (P : Program) (w : World) (K : PySem.W.Frag) (mg : Str → Option Value) (base : Heap) (n : Nat) (C : Addr) (m : Str) (ps : List Str) (sp : Sp) : Prop where
  ex : ∃ f fd, Meth K C m f ∧ Binds K fd ps [] ∧ FnOk P w K mg base CX0 n f fd ps sp
  cl : Cls K C
structure MakeAt (K : PySem.W.Frag) (mg : Str → Option Value) (x : Str) (C : Addr) (q : Str) (st : Stmt) (ps : List Str) : Prop where
  ex : ∃ f fd, mg x = some (.ref C) ∧ Mk K C f ∧ Fun K "__init__" q st f fd ∧ Binds K fd ps []
structure OkC (P : Program) (w : World) (K : PySem.W.Frag) (mg : Str → Option Value) (base : Heap) (n : Nat) (x : Str) (C : Addr) (ps : List Str) (sp : Sp) : Prop where
  ex : ∃ f fd, mg x = some (.ref C) ∧ Mk K C f ∧ Binds K fd ps [] ∧ FnOk P w K mg base CX0 n f fd ps sp
section
variable {P : Program} {w : World} {K : PySem.W.Frag} {mg : Str → Option Value} {base : Heap} {x m q : Str} {st : Stmt} {N ps : List Str} {k : Nat} {sp : Sp} {C : Addr}
theorem MethAt.ok (D : MethAt K C m q st ps) (cl : Cls K C) (S : FnScope N ps (defScope st)) (len : ∀ vs H Q E, sp vs H Q E → vs.length = ps.length)
    (hbody : ∀ (f : Addr) (cdv : Value) (A : Around) (outer : List Env) (s : Shared) (H : Hp) (vs : List V) (Q : VK) (E : XK), Room k (A.deeper (envOfC q (defScope st) s.heap.objs.size f cdv)) → sp vs H Q E →
      ∃ t, PSs (cxOf CX0 P w K mg base N q (defScope st) f cdv A outer s H E).nox (defBody st) t ∧ t { nx := fun _ H' => Q .non H', rt := Q } (start N vs) H) : OkM P w K mg base (k + 1) C m ps sp := by
  obtain ⟨f, fd, hm, F, hb⟩ := D.ex
  exact ⟨⟨f, fd, hm, hb, F.ok S len (hbody f)⟩, cl⟩
theorem MakeAt.ok (D : MakeAt K mg x C q st ps) (S : FnScope N ps (defScope st)) (len : ∀ vs H Q E, sp vs H Q E → vs.length = ps.length)
    (hbody : ∀ (f : Addr) (cdv : Value) (A : Around) (outer : List Env) (s : Shared) (H : Hp) (vs : List V) (Q : VK) (E : XK), Room k (A.deeper (envOfC q (defScope st) s.heap.objs.size f cdv)) → sp vs H Q E →
      ∃ t, PSs (cxOf CX0 P w K mg base N q (defScope st) f cdv A outer s H E).nox (defBody st) t ∧ t { nx := fun _ H' => Q .non H', rt := Q } (start N vs) H) : OkC P w K mg base (k + 1) x C ps sp := by
  obtain ⟨f, fd, hg, hm, F, hb⟩ := D.ex
  exact ⟨f, fd, hg, hm, hb, F.ok S len (hbody f)⟩
theorem MethAt.mk' {f : Addr} {oc : Value} {od an : Option Addr} {osl : Array (Option Value)} {kV doc pm cdv ct : Value} (a : PySem.W.findIn K (.ref C) m = some (some (.ref f))) (i : PySem.W.isFn K (.ref f) = true)
    (l : K.lookup f = some ⟨oc, od, .func (PySem.W.fnOf m q (defArgs st) (defBody st) (defScope st) .none kV doc pm an cdv ct), osl⟩) (c : PySem.W.codeIn K cdv q = true) (k : PySem.W.keepIn K (.ref f) = true)
    (b : ∀ (kV doc pm : Value) (an : Option Addr) (cdv ct : Value) (us : List Value), us.length = ps.length → bindArgs (PySem.W.fnOf m q (defArgs st) (defBody st) (defScope st) .none kV doc pm an cdv ct) ⟨us, []⟩ = pure (ps.zip us)) : MethAt K C m q st ps :=
  have F := fun_mk (st := st) l c k
  ⟨f, _, ⟨a, i, k⟩, F, F.binds b⟩
theorem MakeAt.mk' {h : Heap} {f : Addr} {oc : Value} {od an : Option Addr} {osl : Array (Option Value)} {kV doc pm cdv ct : Value} (X : K.In h) (G : h.Ns mainGlobals mg) (g : PySem.W.nsIn K mainGlobals x = some (some (.ref C)))
    (mk : PySem.W.makesIn K C = true) (kc : PySem.W.keepIn K (.ref C) = true) (a : PySem.W.findIn K (.ref C) "__init__" = some (some (.ref f))) (i : PySem.W.isFn K (.ref f) = true)
    (l : K.lookup f = some ⟨oc, od, .func (PySem.W.fnOf "__init__" q (defArgs st) (defBody st) (defScope st) .none kV doc pm an cdv ct), osl⟩) (c : PySem.W.codeIn K cdv q = true) (k : PySem.W.keepIn K (.ref f) = true)
    (b : ∀ (kV doc pm : Value) (an : Option Addr) (cdv ct : Value) (us : List Value), us.length = ps.length → bindArgs (PySem.W.fnOf "__init__" q (defArgs st) (defBody st) (defScope st) .none kV doc pm an cdv ct) ⟨us, []⟩ = pure (ps.zip us)) : MakeAt K mg x C q st ps :=
  have F := fun_mk (st := st) l c k
  ⟨f, _, PySem.W.mg_of X G g, ⟨mk, a, i, kc⟩, F, F.binds b⟩
end
def tFldG (C : Addr) (f : Str) (ta : TE) : TE := fun σ H Q => ta σ H fun x H1 => ∃ a dx fs v, x = .ref a ∧ H1 a = some (.ins C dx fs) ∧ fs.lookup f = some v ∧ Q v H1
def sFldG (C : Addr) (f : Str) (ta tv : TE) : TS := fun D σ H => tv σ H fun y H1 => ta σ H1 fun x H2 => ∃ a dx fs, x = .ref a ∧ H2 a = some (.ins C dx fs) ∧ fs.length < 1000 ∧ ∀ H', Mu H2 a (.ins C dx (putF f y fs)) H' → D.nx σ H'
def tMethG (C : Addr) (m : Str) (sp : Sp) (ta : TE) (t : TA) : TE := fun σ H Q => ta σ H fun x H1 => ∃ a dx fs, x = .ref a ∧ H1 a = some (.ins C dx fs) ∧ fs.lookup m = none ∧ t σ H1 fun vs H2 => sp (x :: vs) H2 Q E0
def tMakeG (C : Addr) (sp : Sp) (t : TA) : TE := fun σ H Q => t σ H fun vs H1 => ∀ x dx H', H1 x = none → H1 dx = none → Same H1 H' → H' x = some (.ins C dx []) → H' dx = some (.own x) → sp (.ref x :: vs) H' (fun v H2 => v = .non ∧ Q (.ref x) H2) E0
section
variable {X : Cx} {k n : Nat} {ps : List Str} {sp : Sp} {x m f : Str} {p pos pos' apos : Pos} {o e value : Expr} {es : List Expr} {t : TA} {ta tv : TE} {C : Addr}
theorem pe_fldG (c : Cls X.K C) (nn : NoAttr X.K C f) (he : PE X e ta) (hb : attributeBase e f X.env (eval e X.env) = eval e X.env := by rfl) : PE X (.Attribute e f pos) (tFldG C f ta) := by
  intro pins s σ H Q I h
  refine attr_of hb (thn (he pins s σ H _ I h) fun u s1 ⟨x, H1, I1, rx, a, dx, fs, v, ex, ea, l, q⟩ => ?_)
  subst ex
  obtain rfl : u = Value.ref a := rx
  exact getattr_ok I1 ea c nn l fun u' s2 I2 ru => ⟨v, H1, I2, ru, q⟩
theorem ps_fldG (c : Cls X.K C) (nn : NoAttr X.K C f) (ha : PE X o ta) (hv : PE X value tv) (hs : swapsWith value (some (.Attribute o f pos')) pos.line X.env = pure false := by rfl) : PS X (.Assign [.Attribute o f pos'] value pos) (sFldG C f ta tv) := by
  intro pins s σ H D I h
  refine plainObj_wpAny_Assign_Attribute (thn (hv pins s σ H _ I h) fun u s1 ⟨y, H1, I1, ry, q⟩ => thn (ha pins s1 σ H1 _ I1 q) fun ov s2 ⟨x, H2, I2, rx, a, dx, fs, ex, ea, l, q2⟩ => ?_) hs
  subst ex
  obtain rfl : ov = Value.ref a := rx
  exact setattr_ok I2 ea c nn l ry fun s3 I3 => ⟨σ, _, I3, q2 _ .mk'⟩
theorem pe_methG {pl : Sem Bool} (G : OkM X.prog X.w X.K X.mg X.base k C m ps sp) (hr : Room n X.A) (he : PE X o ta) (ha : PA X (e :: es) t) (hk : k ≤ n := by omega) (hs : (e :: es).all notStar = true := by rfl)
    (ht : eval (.Call (.Attribute o m apos) (e :: es) [] pos) X.env = (do
      let ov ← eval o X.env
      standAt apos.atName
      let (f, first) ← holding [ov] (getMethod ov m pl)
      callWith pos f first (backTo pos (starEach (e :: es) X.env)) (backToKw pos (keywordEach [] X.env))) := by rfl) : PE X (.Call (.Attribute o m apos) (e :: es) [] pos) (tMethG C m sp ta t) := by
  obtain ⟨⟨f, fd, hm, hb, F⟩, cl⟩ := G
  intro pins s σ H Q I h
  refine pe_meth (C := C) (dvs := []) (E := E0) he cl hm F (hr.mono hk) hb .nil pass0 ha (star_of (Bool.and_eq_true_iff.mp hs).1) (star_all (Bool.and_eq_true_iff.mp hs).2) ht pins s σ H Q I ?_
  have e : ∀ y, (fun vs H1 => sp (y :: (vs ++ [])) H1 Q E0) = fun vs H1 => sp (y :: vs) H1 Q E0 := fun y => by funext vs H1; rw [List.append_nil]
  show ta σ H fun y H1 => ∃ a dx fs, y = .ref a ∧ H1 a = some (.ins C dx fs) ∧ fs.lookup m = none ∧ t σ H1 fun vs H2 => sp (y :: (vs ++ [])) H2 Q E0
  simp only [e]
  exact h
theorem pe_meth0G {pl : Sem Bool} (G : OkM X.prog X.w X.K X.mg X.base k C m ps sp) (hr : Room n X.A) (he : PE X o ta) (hk : k ≤ n := by omega)
    (ht : eval (.Call (.Attribute o m apos) [] [] pos) X.env = (do
      let ov ← eval o X.env
      standAt apos.atName
      let (f, first) ← holding [ov] (getMethod ov m pl)
      callWith pos f first (backTo pos (starEach [] X.env)) (backToKw pos (keywordEach [] X.env))) := by rfl) : PE X (.Call (.Attribute o m apos) [] [] pos) (tMethG C m sp ta tNil) := by
  obtain ⟨⟨f, fd, hm, hb, F⟩, cl⟩ := G
  exact pe_meth0 (C := C) (dvs := []) (E := E0) he cl hm F (hr.mono hk) hb .nil pass0 ht
theorem make_any {H1 : Hp} {Q : VK} {vs : List V} (h : ∀ x dx H', H1 x = none → H1 dx = none → Same H1 H' → H' x = some (.ins C dx []) → H' dx = some (.own x) → sp (.ref x :: vs) H' (fun v H2 => v = .non ∧ Q (.ref x) H2) E0) :
    ∀ x dx, H1 x = none → H1 dx = none → dx ≠ x → sp (.ref x :: (vs ++ [])) (upd (upd H1 dx (.own x)) x (.ins C dx [])) (fun v H2 => v = .non ∧ Q (.ref x) H2) E0 := fun x dx hx hdx ne => by
  rw [List.append_nil]
  exact h x dx _ hx hdx (fun c u hc => by rw [upd_ne (ne_of_none hc hx), upd_ne (ne_of_none hc hdx)]; exact hc) upd_same (by rw [upd_ne ne, upd_same])
theorem pe_makeG (G : OkC X.prog X.w X.K X.mg X.base k x C ps sp) (hr : Room n X.A) (hg : Gl X x) (ha : PA X (e :: es) t) (hk : k + 1 ≤ n := by omega) (hdb : (x == ("__debug__" : Str)) = false := by decide) (hs : (e :: es).all notStar = true := by rfl) :
    PE X (.Call (.Name x p) (e :: es) [] pos) (tMakeG C sp t) := by
  obtain ⟨f, fd, hm, M, hb, F⟩ := G.ex
  intro pins s σ H Q I h
  refine wpAny_Call_Name_kw (ld_glob I hg hm ?_ hdb)
  refine PySem.W.callWith_K (h₀ := X.base) I.ok.mod.kin M.kp (thn (ha pos pins s σ H _ I h) fun us s1 ⟨vs, H1, I1, r, q⟩ => ⟨I1.kIn, ?_⟩) (star_of (Bool.and_eq_true_iff.mp hs).1) (star_all (Bool.and_eq_true_iff.mp hs).2)
  exact run_make (dvs := []) (ds := []) M F (hr.mono hk) hb .nil pass0 I1 r (make_any q)
end
end L2

set_option Elab.async false
set_option linter.all false
set_option maxRecDepth 100000
set_option maxHeartbeats 4000000
/-! our own rules: d.values(), d.items() walked, d.get(k, x), over the abstract heap -/
namespace L2
open PySem PySem.Spec PyProof.Rows
theorem kv_get : ∀ {kvs : List (Key × V)} {vs : List (Key × Value)}, KV kvs vs → ∀ {i : Nat} {k : Key} {x : V}, kvs[i]? = some (k, x) → ∃ u, vs[i]? = some (k, u) ∧ RelV x u
  | [], _, _, i, k, x, e => by simp at e
  | p :: kvs, [], r, i, k, x, e => by cases r
  | p :: kvs, (k', u) :: vs, r, i, k, x, e => by
    cases r with
    | cons h r =>
      cases i with
      | zero =>
        simp at e
        subst e
        have h1 : k = k' := h.1
        exact ⟨u, by simp [h1], h.2⟩
      | succ i => simpa using kv_get (kvs := kvs) (vs := vs) r (i := i) (k := k) (x := x) (by simpa using e)
def Itv (d : Addr) (o : Obj) (kvs : List (Key × V)) : It :=
  ⟨fun i H => i < kvs.length ∧ H d = some (.frz o (.dK kvs)), fun i H x H' => H' = H ∧ ∃ k, kvs[i]? = some (k, x), fun i H => kvs.length ≤ i ∧ H d = some (.frz o (.dK kvs))⟩
def Iti (d : Addr) (o : Obj) (kvs : List (Key × V)) : It :=
  ⟨fun i H => i < kvs.length ∧ H d = some (.frz o (.dK kvs)), fun i H v H' => ∃ p k x, v = .ref p ∧ H p = none ∧ Same H H' ∧ H' p = some (.tup [kV k, x]) ∧ kvs[i]? = some (k, x), fun i H => kvs.length ≤ i ∧ H d = some (.frz o (.dK kvs))⟩
theorem turn_vals {P : Program} {w : World} {K : PySem.W.Frag} {tg : Expr} (d it : Addr) (o : Obj) (kvs : List (Key × V)) (vs : List (Key × Value)) (ep : Nat) (hne : d ≠ it) (rel : KV kvs vs) (D0 : ∀ h : Heap, h.get? d = some o → h.DictAt (mixKind P w) d vs ep) :
    Turn P w K tg (Itv d o kvs) [it] it (fun i h => h.IsValIter it d i vs.length ep) where
  mem := List.mem_singleton_self _
  obj := fun i h st b hb => by
    obtain rfl := List.mem_singleton.mp hb
    obtain ⟨o, e, c, dd⟩ := st
    exact ⟨o, e, fun v z => by rw [dd] at z; cases z⟩
  keep := fun i h h' st k => st.at fun o e => k it (List.mem_singleton_self _) o e
  item := by
    intro X hP hw hK hc i pins s σ H E I hf st hg
    subst hP hw hK
    obtain ⟨hi, hd⟩ := hg
    obtain ⟨f0, f1, f2, f3, f4, f5⟩ := hf it (List.mem_singleton_self _)
    obtain ⟨ho, _⟩ := (show ObjOk X.prog X.w H s.heap d (.frz o (.dK kvs)) from I.hok d _ hd)
    obtain ⟨u, hx, ru⟩ := kv_get rel (k := kvs[i].1) (x := kvs[i].2) (List.getElem?_eq_getElem hi)
    refine wpAny_pyNext_values_item st (D0 _ ho) hx fun h' st' sb => ?_
    have I1 : Inv X pins σ H { s with heap := h' } := I.turned (t' := s.toks) (fun b o hb e => (sb.2 b hb).trans e) f0 f1 f3 f4 f5
    obtain ⟨oi, e, c, dd⟩ := id st'
    exact ⟨u, rfl, go_of (s := { s with heap := h' }) e c dd (by decide) ⟨kvs[i].2, H, I1, ru, ⟨rfl, kvs[i].1, List.getElem?_eq_getElem hi⟩, st', fun b hb => (hf b hb).1⟩⟩
  done := by
    intro X hP hw hK hc i pins s σ H E I hf st hg
    subst hP hw hK
    obtain ⟨hi, hd⟩ := hg
    obtain ⟨f0, f1, f2, f3, f4, f5⟩ := hf it (List.mem_singleton_self _)
    obtain ⟨ho, _⟩ := (show ObjOk X.prog X.w H s.heap d (.frz o (.dK kvs)) from I.hok d _ hd)
    have hl : kvs.length = vs.length := rel.length
    exact wpAny_pyNext_values_end (I.ok.hd hc) st (D0 _ ho) (List.getElem?_eq_none (by omega)) fun h' eb => ⟨rfl, I.turned (t' := s.toks) (fun b o hb e => eb b o hb e) f0 f1 f3 f4 f5⟩
  self := fun _ _ _ _ _ st h => wpAny_pyIter_valiter st h
theorem turn_items {P : Program} {w : World} {K : PySem.W.Frag} {elts : List Expr} {kk : Nat} {tpos : Pos} (d it : Addr) (o : Obj) (kvs : List (Key × V)) (vs : List (Key × Value)) (ep : Nat) (hne : d ≠ it) (rel : KV kvs vs) (D0 : ∀ h : Heap, h.get? d = some o → h.DictAt (mixKind P w) d vs ep) :
    Turn P w K (.Tuple elts kk tpos) (Iti d o kvs) [it] it (fun i h => ∃ ok ov, IsItemIter h it d i vs.length ep ok ov) where
  mem := List.mem_singleton_self _
  obj := fun i h st b hb => by
    obtain rfl := List.mem_singleton.mp hb
    obtain ⟨ok, ov, e⟩ := st
    exact ⟨_, e, fun v z => by
      have z' : Data.fields _ = Data.cell v := z
      cases z'⟩
  keep := fun i h h' ⟨ok, ov, e⟩ k => ⟨ok, ov, k it (List.mem_singleton_self _) _ e⟩
  item := by
    intro X hP hw hK hc i pins s σ H E I hf st hg
    subst hP hw hK
    obtain ⟨hi, hd⟩ := hg
    obtain ⟨ok, ov, he⟩ := st
    obtain ⟨ho, _⟩ := (show ObjOk X.prog X.w H s.heap d (.frz o (.dK kvs)) from I.hok d _ hd)
    obtain ⟨u, hx, ru⟩ := kv_get rel (k := kvs[i].1) (x := kvs[i].2) (List.getElem?_eq_getElem hi)
    refine wpAny_pyNext_items_item he (D0 _ ho) hx fun key h' hkey hout hT hsz hk => ?_
    refine ⟨_, rfl, wpAny_letOwnedTupleGo_items hout fun h'' he'' hs => ?_⟩
    have helt : it < s.heap.objs.size := Heap.lt_size he
    have I1 : Inv X pins σ (upd H s.heap.objs.size (.tup [kV kvs[i].1, kvs[i].2])) { s with heap := s.heap.push { cls := .type "tuple", data := .seq #[key, u] }, toks := s.toks } :=
      I.laid (fun b o q => Heap.get?_push_of_some _ q) (Nat.le_refl _) ⟨by show 2 ≤ sizeLine; decide, [key, u], .cons (relV_key hkey) (.cons ru .nil), ⟨_, Heap.get?_push_size _ rfl, rfl, _, rfl⟩⟩
    have hf' : ∀ b ∈ [it], FpOk X pins (upd H s.heap.objs.size (.tup [kV kvs[i].1, kvs[i].2])) b := fun b hb => by
      obtain rfl := List.mem_singleton.mp hb
      refine ⟨?_, (hf b (List.mem_singleton_self _)).2⟩
      rw [upd_ne (Nat.ne_of_lt helt)]
      exact (hf b (List.mem_singleton_self _)).1
    have I2 : Inv X pins σ (upd H s.heap.objs.size (.tup [kV kvs[i].1, kvs[i].2])) { s with heap := h'', toks := s.toks } := I1.turnedL (t' := s.toks) (fun b o hb q => by
      have n1 : b ≠ it := fun z => hb (by simp [z])
      refine (hs.2 b n1).trans ?_
      by_cases hbT : b = s.heap.objs.size
      · subst hbT
        have q' : (s.heap.push { cls := .type "tuple", data := .seq #[key, u] }).get? s.heap.objs.size = some o := q
        rw [Heap.get?_push_size _ rfl] at q'
        cases q'
        exact hT
      · have q' : (s.heap.push { cls := .type "tuple", data := .seq #[key, u] }).get? b = some o := q
        rw [Heap.get?_push_ne _ _ _ hbT] at q'
        exact hk b o n1 q') hf'
    exact ⟨.ref s.heap.objs.size, _, I2, rfl, ⟨_, kvs[i].1, kvs[i].2, rfl, I.hok.fresh (Nat.le_refl _), same_new (I.hok.fresh (Nat.le_refl _)) _, upd_same, List.getElem?_eq_getElem hi⟩, ⟨_, _, he''⟩, fun b hb => (hf' b hb).1⟩
  done := by
    intro X hP hw hK hc i pins s σ H E I hf st hg
    subst hP hw hK
    obtain ⟨hi, hd⟩ := hg
    obtain ⟨ok, ov, he⟩ := st
    obtain ⟨f0, f1, f2, f3, f4, f5⟩ := hf it (List.mem_singleton_self _)
    obtain ⟨ho, _⟩ := (show ObjOk X.prog X.w H s.heap d (.frz o (.dK kvs)) from I.hok d _ hd)
    have hl : kvs.length = vs.length := rel.length
    exact wpAny_pyNext_items_end (I.ok.hd hc) he (D0 _ ho) (List.getElem?_eq_none (by omega)) fun h' eb => ⟨rfl, I.turned (t' := s.toks) (fun b o hb e => eb b o hb e) f0 f1 f3 f4 f5⟩
  self := fun _ _ _ _ _ st h => by
    obtain ⟨ok, ov, he⟩ := st
    exact PySem.W.kcp_self he h
def iVals (nf : Addr → Prop) (tl : TE) : TI := fun σ H R => tl σ H fun x H1 => ∃ d kvs, x = .ref d ∧ H1 d = some (.dK kvs) ∧ ∀ o, nf d → R (Itv d o kvs) (upd H1 d (.frz o (.dK kvs)))
def iItems (nf : Addr → Prop) (tl : TE) : TI := fun σ H R => tl σ H fun x H1 => ∃ d kvs, x = .ref d ∧ H1 d = some (.dK kvs) ∧ ∀ o, nf d → R (Iti d o kvs) (upd H1 d (.frz o (.dK kvs)))
theorem pi_vals {X : Cx} {tg l : Expr} {tl : TE} {apos cpos : Pos} (hl : PE X l tl) (hbase : attributeBase l "values" X.env (eval l X.env) = eval l X.env := by rfl) (hline : (apos.endLine == cpos.line) = true := by rfl) :
    PI X tg (.Call (.Attribute l "values" apos) [] [] cpos) (iVals (NoFz X) tl) := by
  intro pins s σ H R I h
  refine wpAny_Call_method0_late hbase hline (thn (hl pins s σ H _ I h) fun v s1 ⟨x, H1, I1, r1, q1⟩ => ?_)
  obtain ⟨d, kvs, e, hd, q⟩ := q1
  subst e
  cases r1
  obtain ⟨z1, z2, vs, rel, o, es, ep, ho, r⟩ := dk_of I1.hok hd
  have D0 : ∀ h : Heap, h.get? d = some o → h.DictAt (mixKind X.prog X.w) d vs ep := fun h e => ⟨o, es, e, r⟩
  have nf := I1.nofz hd
  have If : Inv X pins σ (upd H1 d (.frz o (.dK kvs))) s1 := I1.retag hd (fun _ z => by cases z) nf (fun _ z => by cases z) (fun _ z => by cases z) ⟨ho, z1, z2, vs, rel, o, es, ep, ho, r⟩
  obtain ⟨h1, h2⟩ := tyV_is (T := "dict") I1 (show RelV (.ref d) (.ref d) from rfl) (.inr (.inr (.inl ⟨rfl, .inl ⟨_, hd⟩⟩)))
  refine ⟨"dict", "dict.values", PySem.F.plainAttrs_dict, PySem.F.slot_dict_values, PySem.F.type_dict_values, h1, h2, Calls.callWith_builtin rfl (PySem.evalArgs_none ?_)⟩
  refine call_meetsIn PySem.F.slot_dict_values h1 PySem.F.entry_dict_values (PySem.F.args_dict_values_1 _) (meets_dict_values (mixKind X.prog X.w) d z2) ⟨⟨vs, (D0 _ ho).dictOf⟩, ?_⟩
  have I2 := If.kept (t' := s1.toks) (h' := s1.heap.push { cls := .type "dict_values", data := .fields #[.ref d] }) fun b o e => Heap.get?_push_of_some _ e
  have ho2 : (s1.heap.push { cls := .type "dict_values", data := .fields #[.ref d] }).get? d = some o := Heap.get?_push_of_some _ ho
  refine wpAny_pyIter_values ⟨_, Heap.get?_push_size _ rfl, rfl, rfl⟩ (D0 _ ho2) ?_
  refine ⟨_, [_], _, _, _, rfl, I2.kept (t' := s1.toks) fun b o e => Heap.get?_push_of_some _ e, turn_vals d _ o kvs vs ep (Nat.ne_of_lt (Heap.lt_size ho2)) rel D0, ⟨_, Heap.get?_push_size _ rfl, rfl, rfl⟩, fun b hb => ?_, q o nf⟩
  obtain rfl := List.mem_singleton.mp hb
  exact I2.fpOk (Nat.le_refl _) (I2.hok.fresh (Nat.le_refl _))
theorem pi_items {X : Cx} {elts : List Expr} {kk : Nat} {tpos : Pos} {l : Expr} {tl : TE} {apos cpos : Pos} (hl : PE X l tl) (hbase : attributeBase l "items" X.env (eval l X.env) = eval l X.env := by rfl) (hline : (apos.endLine == cpos.line) = true := by rfl) :
    PI X (.Tuple elts kk tpos) (.Call (.Attribute l "items" apos) [] [] cpos) (iItems (NoFz X) tl) := by
  intro pins s σ H R I h
  refine wpAny_Call_method0_late hbase hline (thn (hl pins s σ H _ I h) fun v s1 ⟨x, H1, I1, r1, q1⟩ => ?_)
  obtain ⟨d, kvs, e, hd, q⟩ := q1
  subst e
  cases r1
  obtain ⟨z1, z2, vs, rel, o, es, ep, ho, r⟩ := dk_of I1.hok hd
  have D0 : ∀ h : Heap, h.get? d = some o → h.DictAt (mixKind X.prog X.w) d vs ep := fun h e => ⟨o, es, e, r⟩
  have nf := I1.nofz hd
  have If : Inv X pins σ (upd H1 d (.frz o (.dK kvs))) s1 := I1.retag hd (fun _ z => by cases z) nf (fun _ z => by cases z) (fun _ z => by cases z) ⟨ho, z1, z2, vs, rel, o, es, ep, ho, r⟩
  obtain ⟨h1, h2⟩ := tyV_is (T := "dict") I1 (show RelV (.ref d) (.ref d) from rfl) (.inr (.inr (.inl ⟨rfl, .inl ⟨_, hd⟩⟩)))
  refine ⟨"dict", "dict.items", PySem.F.plainAttrs_dict, PySem.F.slot_dict_items, PySem.F.type_dict_items, h1, h2, Calls.callWith_builtin rfl (PySem.evalArgs_none ?_)⟩
  refine call_meetsIn PySem.F.slot_dict_items h1 PySem.F.entry_dict_items (PySem.F.args_dict_items_1 _) (meets_dict_items (mixKind X.prog X.w) d z2) ⟨⟨vs, (D0 _ ho).dictOf⟩, ?_⟩
  have I2 := If.kept (t' := s1.toks) (h' := s1.heap.push { cls := .type "dict_items", data := .fields #[.ref d] }) fun b o e => Heap.get?_push_of_some _ e
  have ho2 : (s1.heap.push { cls := .type "dict_items", data := .fields #[.ref d] }).get? d = some o := Heap.get?_push_of_some _ ho
  refine wpAny_pyIter_items ⟨_, Heap.get?_push_size _ rfl, rfl, rfl⟩ (D0 _ ho2) ?_
  refine ⟨_, [_], _, _, _, rfl, I2.kept (t' := s1.toks) fun b o e => Heap.get?_push_of_some _ e, turn_items d _ o kvs vs ep (Nat.ne_of_lt (Heap.lt_size ho2)) rel D0, ⟨_, _, Heap.get?_push_size _ rfl⟩, fun b hb => ?_, q o nf⟩
  obtain rfl := List.mem_singleton.mp hb
  exact I2.fpOk (Nat.le_refl _) (I2.hok.fresh (Nat.le_refl _))
def tUnf (nf : Addr → Prop) (t : TE) : TE := fun σ H Q => t σ H fun v H' => ∃ d o kvs, nf d ∧ H' d = some (.frz o (.dK kvs)) ∧ Q v (upd H' d (.dK kvs))
theorem pe_unf {X : Cx} {e : Expr} {t : TE} (h : PE X e t) : PE X e (tUnf (NoFz X) t) := by
  intro pins s σ H Q I hw
  refine thn (h pins s σ H _ I hw) fun u s1 ⟨v, H', I', r', d, o, kvs, nf, hd, q⟩ => ?_
  obtain ⟨_, z⟩ := (show ObjOk X.prog X.w H' s1.heap d (.frz o (.dK kvs)) from I'.hok d _ hd)
  refine ⟨v, _, I'.retag (u' := .dK kvs) hd (fun _ z => by cases z) nf (fun _ z => by cases z) (fun _ z => by cases z) ?_, r', q⟩
  exact z
def tDGetDG (td ty tx : TE) : TE := fun σ H Q => td σ H fun x H1 => ∃ a, x = .ref a ∧ (∃ kvs, H1 a = some (.dK kvs)) ∧ ty σ H1 fun y H2 => tx σ H2 fun z H3 => ∃ kvs k, H3 a = some (.dK kvs) ∧ keyOf y = some k ∧ Q ((valV kvs k).getD z) H3
theorem pe_dgetDG {X : Cx} {o e f : Expr} {apos cpos : Pos} {td ty tx : TE} (hu : X.A.units + 1 < cLine) (ho : PE X o td) (he : PE X e ty) (hf : PE X f tx) (m : M2 X o "get" apos e f cpos) : PE X (.Call (.Attribute o "get" apos) [e, f] [] cpos) (tDGetDG td ty tx) := by
  intro pins s σ H Q I h
  exact pe_dget2 hu ho.up he.up hf.up m pins s σ H Q I ⟨_, h, fun x H1 ⟨a, e, ⟨kvs, hk⟩, q⟩ => ⟨a, e, .inl ⟨kvs, Rd.of hk⟩, _, q, fun y H2 q => ⟨_, q, fun z H3 ⟨kvs, k, h3, ek, q⟩ => ⟨_, by rw [kV_of ek]; exact DGet.k h3, q⟩⟩⟩⟩
end L2

set_option Elab.async false
set_option linter.all false
set_option maxRecDepth 100000
set_option maxHeartbeats 4000000
/-! our own rules: dict(list of pairs) over the abstract heap -/
namespace L2
open PySem PySem.Spec PyProof.Rows
theorem keys_miss : typeLookup (.type "list") "keys" = pure none := by rw [typeLookup_type, builtinLookup_eq_fast]; kernel_rfl
theorem keys_none {prog : Program} {w : World} {A : Around} {E : Value → Shared → Prop} {s : Shared} {a : Addr} {xs : Array Value} {k : Nat} {Q : Option Value → Shared → Prop}
    (hx : s.heap.get? a = some { cls := .type "list", dict := none, data := .seq xs k, slots := #[] }) (hA : A.handled = none)
    (h : ∀ h' tk, (∀ b o, s.heap.get? b = some o → h'.get? b = some o) → Q none { s with heap := h', toks := tk }) : wpAny (model prog w) A (getAttr? (.ref a) "keys") Q E s := by
  obtain ⟨hp, g, d, tk, os⟩ := s
  have hT : ∀ tk', (⟨hp, g, d, tk', os⟩ : Shared).TypeIs (.ref a) "list" := fun _ => ⟨_, hx, rfl⟩
  have f1 := sub_AttributeError
  have f3 := F.slot_list_getattribute.lookup
  have f4 := F.slot_list_getattribute.bind (.ref a)
  have f5 := am_list_getattr_none
  unfold getAttr? getAttrBy? getAttrBy
  repeat (any_goals (first | assumption | exact hT _ | ((with_reducible show wpAny _ _ (call (Value.builtin "list.__getattribute__") _ _) _ _ _); refine call_meets F.slot_list_getattribute (hT _) am_entry_list_getattribute (F.args_list_getattribute_2 _ _) (meets_getattribute_miss_list a xs k #[] "keys" _ keys_miss (by decide +kernel)) ⟨hx, hA, fun h' tk' e hx' => ?_⟩) | wp_step))
  obtain ⟨t', u', he⟩ := hx'.there
  show wpAny _ _ (getattributeRaised _ _ _ _ _ _ _) _ _ _
  unfold getattributeRaised
  have hE : ∀ tk', (⟨h', g, d, tk', os⟩ : Shared).TypeIs (.ref e) "AttributeError" := fun _ => ⟨_, he, rfl⟩
  repeat (any_goals (first | assumption | exact hE _ | exact h _ _ hx'.keeps | wp_step))
theorem entry_upd_loop : entryFor table "dict.update.loop" = some Builtin.«dict.update.loop» := entryFor_of_tree (by kernel_rfl)
section
variable {prog : Program} {w : World}
inductive ItP (prog : Program) (w : World) (h : Heap) (d it : Addr) : List Value → List (Key × Value) → Prop
  | nil : ItP prog w h d it [] []
  | cons {a : Addr} {o : Obj} {key v : Value} {k : Key} {n : Nat} {xs : List Value} {ps : List (Key × Value)} : h.get? a = some o → o.cls = .type "tuple" → o.data = .seq #[key, v] n → (mixKind prog w).is k key = true → a ≠ d → a ≠ it → ItP prog w h d it xs ps → ItP prog w h d it (.ref a :: xs) ((k, v) :: ps)
theorem ItP.keep {h h' : Heap} {d it : Addr} (g : ∀ b o, b ≠ d → b ≠ it → h.get? b = some o → h'.get? b = some o) : ∀ {xs : List Value} {ps : List (Key × Value)}, ItP prog w h d it xs ps → ItP prog w h' d it xs ps
  | _, _, .nil => .nil
  | _, _, .cons h1 h2 h3 h4 h5 h6 r => .cons (g _ _ h5 h6 h1) h2 h3 h4 h5 h6 (r.keep g)
theorem upd_loop {A : Around} {R : Result → Shared → Prop} (hh : A.handled = none) {d it l : Addr} {items : Array Value} (ndi : d ≠ it) (ndl : d ≠ l) (nil : it ≠ l) : ∀ (rest : List (Key × Value)) (i : Nat) (s : Shared) (cur : List (Key × Value)), s.heap.IsListIter it l i → s.heap.IsList l items → ItP prog w s.heap d it (items.toList.drop i) rest →
    s.heap.DictOf (mixKind prog w) d cur → cur.length + rest.length ≤ 1000 →
    (∀ h' tk, h'.DictOf (mixKind prog w) d (rest.foldl (fun c p => stored c p.1 p.2) cur) → (∀ b o, b ≠ d → b ≠ it → s.heap.get? b = some o → h'.get? b = some o) → R (.ok (.ret .none)) { s with heap := h', toks := tk }) →
    codeAny (model prog w) A (.builtin "dict.update.loop" ⟨[.ref d, .ref it, rawInt i, .none], []⟩) R s
  | [], i, s, cur, hit, hl, hp, hm, hsz, hR => by
    refine codeAny_builtin entry_upd_loop ?_
    unfold Builtin.«dict.update.loop»
    have e0 : items[i]? = none := by
      cases h : items.toList.drop i with
      | nil =>
        rw [Array.getElem?_eq_none]
        have := List.drop_eq_nil_iff.mp h
        simpa using this
      | cons x xs => rw [h] at hp; cases hp
    show wpAny _ _ (pyNext (.ref it) >>= _) _ _ s
    refine wpAny_bind (wpAny_pyNext_list_end hh hit hl e0 fun h' eb => ?_)
    show wpAny _ _ (Builtin.Dict.addKeywords d [] >>= _) _ _ _
    refine wpAny_bind (wpAny_pure (wpAny_pure ?_))
    exact hR h' s.toks (hm.extBut eb ndi) fun b o nb nb' e => eb b o nb' e
  | (k, v) :: rest, i, s, cur, hit, hl, hp, hm, hsz, hR => by
    refine codeAny_builtin entry_upd_loop ?_
    unfold Builtin.«dict.update.loop»
    obtain ⟨x, xs, ed⟩ : ∃ x xs, items.toList.drop i = x :: xs := by
      cases h : items.toList.drop i with
      | nil => rw [h] at hp; cases hp
      | cons x xs => exact ⟨x, xs, rfl⟩
    have hi : i < items.size := by
      rcases Nat.lt_or_ge i items.size with h | h
      · exact h
      · rw [List.drop_of_length_le (by simpa using h)] at ed; cases ed
    have e0 : items[i]? = some x := by
      have := congrArg (fun l => l[0]?) ed
      simp only [List.getElem?_drop, Nat.add_zero, List.getElem?_cons_zero, Array.getElem?_toList] at this
      exact this
    have e1 : items.toList.drop (i + 1) = xs := by
      rw [← List.drop_drop, ed]; rfl
    rw [ed] at hp
    cases hp with
    | @cons a o key _ _ n _ _ h1 h2 h3 h4 h5 h6 r =>
    show wpAny _ _ (pyNext (.ref it) >>= _) _ _ s
    refine wpAny_bind (wpAny_pyNext_list_item hit hl e0 fun h' hit' sb => ?_)
    have k1 : ∀ b o, b ≠ it → s.heap.get? b = some o → h'.get? b = some o := fun b o nb e => (sb.2 b nb).trans e
    have ha := k1 a o h6 h1
    have hT : ({ s with heap := h' } : Shared).TypeIs (.ref a) "tuple" := ⟨o, ha, h2⟩
    refine wpAny_bind (wpAny_holding (wpAny_bind (wpAny_tryCatch ?_)))
    unfold Builtin.Dict.pairItems
    refine wpAny_bind (wpAny_typeOf hT ?_)
    rw [if_pos (by decide)]
    refine wpAny_bind (wpAny_seqItems (s := { s with heap := h' }) ha h3 (wpAny_pure ?_))
    show wpAny _ _ (holding [key, v] (dictSet d key v)) _ _ _
    refine wpAny_holding (wpAny_dictSet_pairs h4 (hm.sameBut sb ndi) (fun h'' hm'' sb'' => ?_) (by unfold sizeLine; simp only [List.length_cons] at hsz; omega))
    have k2 : ∀ b o, b ≠ d → b ≠ it → s.heap.get? b = some o → h''.get? b = some o := fun b o nb nb' e => (sb''.2 b nb).trans (k1 b o nb' e)
    refine wpAny_pure ⟨Code.quiet_builtin _ (by decide +kernel), ?_⟩
    have hlen := stored_length_le cur k v
    have ih := upd_loop hh ndi ndl nil rest (i + 1) { s with heap := h'', toks := s.toks + 1 } (stored cur k v) (hit'.at fun o e => (sb''.2 it (Ne.symm ndi)).trans e) (hl.at fun o e => (sb''.2 l (Ne.symm ndl)).trans (k1 l o (Ne.symm nil) e)) (by rw [e1]; exact r.keep k2) hm'' (by simp only [List.length_cons] at hsz; omega) fun h3 tk hm3 k3 => hR h3 tk hm3 fun b o nb nb' e => k3 b o nb nb' (k2 b o nb nb' e)
    have er : rawInt ((i : Int) + 1) = rawInt ((i + 1 : Nat) : Int) := by rw [show ((i + 1 : Nat) : Int) = (i : Int) + 1 by omega]
    show codeAny _ A (.builtin "dict.update.loop" ⟨[.ref d, .ref it, rawInt ((i : Int) + 1), .none], []⟩) R _
    rw [er]
    exact ih
end
inductive PrK (H : Hp) : List V → List (Key × V) → Prop
  | nil : PrK H [] []
  | cons {a : Addr} {k : Key} {v : V} {xs : List V} {ps : List (Key × V)} : H a = some (.tup [kV k, v]) → PrK H xs ps → PrK H (.ref a :: xs) ((k, v) :: ps)
def putAll (ps : List (Key × V)) : List (Key × V) := ps.foldl (fun c p => putK c p.1 p.2) []
def rDictP : List V → Hp → VK → Prop := fun xs H Q => ∃ (p : Addr) (ys : List V) (ps : List (Key × V)), xs = [.ref p] ∧ H p = some (.lst ys) ∧ PrK H ys ps ∧ ps.length < 1000 ∧ ∀ l H', H l = none → Same H H' → H' l = some (.dK (putAll ps)) → Q (.ref l) H'
theorem prk_at {X : Cx} {pins : List (Addr × Obj)} {σ : St} {H : Hp} {s : Shared} (I : Inv X pins σ H s) {d it : Addr} (hd : s.heap.objs.size ≤ d) (hi : s.heap.objs.size ≤ it) : ∀ {ys : List V} {ps : List (Key × V)} {its : List Value}, PrK H ys ps → Vals ys its → ∃ us, ItP X.prog X.w s.heap d it its us ∧ KV ps us
  | _, _, _, .nil, .nil => ⟨[], .nil, .nil⟩
  | _, _, _, @PrK.cons _ a k v xs ps h r, .cons rv rr => by
    obtain ⟨us, h1, h2⟩ := prk_at I hd hi r rr
    cases rv
    obtain ⟨_, its, rt, o, e1, e2, n, e3⟩ := (show ObjOk X.prog X.w H s.heap a (.tup [kV k, v]) from I.hok a _ h)
    obtain ⟨key, u, rfl, ra, rb⟩ := rt.two
    have lt := Heap.lt_size e1
    exact ⟨(k, u) :: us, .cons e1 e2 e3 (kV_is ra) (Nat.ne_of_lt (Nat.lt_of_lt_of_le lt hd)) (Nat.ne_of_lt (Nat.lt_of_lt_of_le lt hi)) h1, .cons ⟨rfl, rb⟩ h2⟩
theorem kv_all : ∀ {ps : List (Key × V)} {us : List (Key × Value)} {cs : List (Key × V)} {ds : List (Key × Value)}, KV ps us → KV cs ds → KV (ps.foldl (fun c p => putK c p.1 p.2) cs) (us.foldl (fun c p => stored c p.1 p.2) ds)
  | [], [], _, _, _, h => h
  | [], _ :: _, _, _, h, _ => by cases h
  | _ :: _, [], _, _, h, _ => by cases h
  | (k, x) :: ps, (k', u) :: us, cs, ds, h, h' => by
    cases h with
    | cons h1 h2 =>
      have e : k = k' := h1.1
      subst e
      exact kv_all (ps := ps) (us := us) h2 (h'.put k h1.2)
theorem putAll_le (ps : List (Key × V)) : (putAll ps).length ≤ ps.length := by
  have : ∀ (ps : List (Key × V)) (c : List (Key × V)), (ps.foldl (fun c p => putK c p.1 p.2) c).length ≤ c.length + ps.length := fun ps => by
    induction ps with
    | nil => intro c; exact Nat.le_refl _
    | cons p ps ih =>
      intro c
      have h1 := ih (putK c p.1 p.2)
      have h2 := length_putK c p.1 p.2
      rw [List.foldl_cons, List.length_cons]
      omega
  have := this ps []
  unfold putAll
  simpa using this
theorem call_dictP {X : Cx} (hc : X.calm = true := by rfl) : CallR X (.type "dict") rDictP := by
  intro pins s σ H xs us Q I r h
  obtain ⟨p, ys, ps, rfl, hp, pk, hsz, q⟩ := h
  obtain ⟨u, rfl, ru⟩ := vals1 r
  cases ru
  obtain ⟨hz, its, n0, rv, e0⟩ := (show ObjOk X.prog X.w H s.heap p (.lst ys) from I.hok p _ hp)
  have hh : X.A.handled = none := I.ok.hd hc
  refine callType_codes (Q₁ := fun obj s₁ => obj = .ref s.heap.objs.size ∧ s₁ = { s with heap := s.heap.push { cls := .type "dict", data := .dict #[] } }) F.kt_called_dict (F.kt_typeCall_dict_1 _) F.entry_dict_init (kt_code_dict_new _ ⟨rfl, rfl⟩) ?_
  rintro obj s₁ ⟨rfl, rfl⟩
  have hnew : (s.heap.push { cls := .type "dict", data := .dict #[] }).DictOf (mixKind X.prog X.w) s.heap.objs.size [] := Heap.DictOf.new s.heap
  have e1 : (s.heap.push { cls := .type "dict", data := .dict #[] }).get? p = some { cls := .type "list", data := .seq its.toArray n0 } := Heap.get?_push_of_some _ e0
  have hT : ({ s with heap := s.heap.push { cls := .type "dict", data := .dict #[] } } : Shared).TypeIs (.ref p) "list" := ⟨_, e1, rfl⟩
  refine ⟨hnew.typeIs, F.args_dict_init_2 _ _, ?_⟩
  unfold Builtin.«dict.__init__»
  refine wpAny_bind ?_
  unfold Builtin.Dict.selfAndRest
  refine wpAny_bind (wpAny_notOrdered_dict hnew.typeIs ?_)
  show wpAny _ _ (pure (s.heap.objs.size, [Value.ref p])) _ _ _
  refine wpAny_pure ?_
  show wpAny _ _ (Builtin.Dict.updateFrom "dict.__init__" s.heap.objs.size (.ref p) [] .none) _ _ _
  unfold Builtin.Dict.updateFrom
  refine wpAny_bind (wpAny_typeOf hT ?_)
  rw [if_pos (by decide)]
  refine wpAny_bind (keys_none e1 hh fun h1 tk1 k1 => ?_)
  have ln : ∀ b o, s.heap.get? b = some o → h1.get? b = some o := fun b o e => k1 _ _ (Heap.get?_push_of_some _ e)
  have hm1 : h1.DictOf (mixKind X.prog X.w) s.heap.objs.size [] := by
    obtain ⟨o, es, ep, ho, r⟩ := hnew
    exact ⟨o, es, ep, k1 _ _ ho, r⟩
  have hl1 : h1.IsList p its.toArray := ⟨_, k1 _ _ e1, rfl, n0, rfl⟩
  have lt1 : s.heap.objs.size < h1.objs.size := by
    obtain ⟨o, es, ep, ho, r⟩ := hm1
    exact Heap.lt_size ho
  have ltp : p < s.heap.objs.size := Heap.lt_size e0
  simp only [Option.isNone_none, if_true]
  refine wpAny_bind (wpAny_rule ?_)
  refine wpAny_bind (wpAny_pyIter_list (s := { s with heap := h1, toks := tk1 }) hl1 ?_)
  refine wpAny_pure ⟨Code.quiet_builtin _ (by decide +kernel), ?_⟩
  obtain ⟨us, hI, hK⟩ := prk_at I (d := s.heap.objs.size) (it := h1.objs.size) (Nat.le_refl _) (Nat.le_of_lt lt1) pk rv
  have hlu : us.length = ps.length := (KV.length hK).symm
  refine upd_loop (prog := X.prog) (w := X.w) (A := X.A.in1) hh (l := p) (Nat.ne_of_lt lt1) (Nat.ne_of_gt ltp) (Nat.ne_of_gt (Nat.lt_trans ltp lt1)) us 0 _ [] ⟨_, Heap.get?_push_size _ rfl, rfl, rfl⟩ (hl1.at fun o e => Heap.get?_push_of_some _ e) ?_ (hm1.push _) (by simp only [List.length_nil]; omega) fun h2 tk2 hm2 k2 => ?_
  · show ItP X.prog X.w _ _ _ (its.toArray.toList.drop 0) us
    rw [List.drop_zero]
    exact hI.keep fun b o _ _ e => Heap.get?_push_of_some _ (ln b o e)
  · refine ⟨rfl, ?_⟩
    have kp : ∀ b o, s.heap.get? b = some o → h2.get? b = some o := fun b o e => by
      have lb := Heap.lt_size e
      exact k2 b o (Nat.ne_of_lt lb) (Nat.ne_of_lt (Nat.lt_trans lb lt1)) (Heap.get?_push_of_some _ (ln b o e))
    have fr : H s.heap.objs.size = none := I.hok.fresh (Nat.le_refl _)
    have hs : (s.heap.objs.size == sysModules) = false := beq_eq_false_iff_ne.mpr (Nat.ne_of_gt I.big)
    have kv : KV (putAll ps) (us.foldl (fun c p => stored c p.1 p.2) []) := kv_all hK .nil
    have le := putAll_le ps
    have I2 := I.laid (a := s.heap.objs.size) (o := .dK (putAll ps)) (t' := tk2) kp (Nat.le_refl _) (show ObjOk X.prog X.w _ h2 _ (.dK (putAll ps)) from ⟨by unfold sizeLine; omega, hs, _, kv, hm2⟩)
    exact ⟨.ref s.heap.objs.size, _, I2, rfl, q _ _ fr (same_new fr _) upd_same⟩
end L2

set_option Elab.async false
set_option linter.all false
set_option maxRecDepth 100000
set_option maxHeartbeats 4000000
/-! our own rules: sorted of pairs of whole numbers: some order of the same -/
namespace L2
open PySem PySem.Spec PyProof.Rows PySem.W
def Gd {α : Type} (N : Nat) (R : α → Prop) : KasT α → Prop
  | .ret a => R a
  | .ask i j k => i < N ∧ j < N ∧ ∀ b, Gd N R (k b)
theorem Gd.bind {α β : Type} {N : Nat} {R : α → Prop} {S : β → Prop} {f : α → KasT β} (hf : ∀ a, R a → Gd N S (f a)) : ∀ {t : KasT α}, Gd N R t → Gd N S (t.bind f)
  | .ret a, h => hf a h
  | .ask i j k, ⟨h1, h2, h3⟩ => ⟨h1, h2, fun b => Gd.bind hf (h3 b)⟩
theorem Gd.wp {α : Type} {N : Nat} {R : α → Prop} {cmp : Nat → Nat → (Bool → Shared → Prop) → Shared → Prop} {Q : α → Shared → Prop} {s : Shared} (hc : ∀ i j, i < N → j < N → ∀ C : Bool → Shared → Prop, (∀ b, C b s) → cmp i j C s) (hq : ∀ a, R a → Q a s) : ∀ {t : KasT α}, Gd N R t → t.kasWp cmp Q s
  | .ret a, h => hq a h
  | .ask i j k, ⟨h1, h2, h3⟩ => hc i j h1 h2 _ fun b => Gd.wp hc hq (h3 b)
def Ord (n : Nat) (p : Array Nat) : Prop := p.Perm (List.toArray (List.range n))
theorem Ord.size {n : Nat} {p : Array Nat} (h : Ord n p) : p.size = n := by have := h.size_eq; simpa using this
theorem Ord.get {n : Nat} {p : Array Nat} (h : Ord n p) (hn : 0 < n) (i : Nat) : p.getD i 0 < n := by
  by_cases c : i < p.size
  · have e : p.getD i 0 = p[i] := by simp [Array.getD, c]
    rw [e]
    have hm : p[i] ∈ p.toList := by simp
    have := (Array.perm_iff_toList_perm.mp h).mem_iff.mp hm
    simpa using this
  · have e : p.getD i 0 = 0 := by simp [Array.getD, c]
    rw [e]; exact hn
theorem Ord.rev {n : Nat} {p : Array Nat} (h : Ord n p) (i j : Nat) : Ord n (kas_rev p i j) := (mirror_perm p i j _).trans h
theorem Ord.bub {n : Nat} {p : Array Nat} (h : Ord n p) (i j : Nat) : Ord n (bubble p i j) := (bubble_perm p i j).trans h
section
variable {N : Nat} (hN : 0 < N)
include hN
theorem gd_asc {p : Array Nat} (hp : Ord N p) : ∀ f n, Gd N (fun _ => True) (kas_asc p f n)
  | 0, n => trivial
  | f + 1, n => ⟨hp.get hN _, hp.get hN _, fun b => by
    cases b with
    | true => exact trivial
    | false => exact gd_asc hp f (n + 1)⟩
theorem gd_desc : ∀ (f : Nat) {p : Array Nat} (n q : Nat), Ord N p → Gd N (fun r => Ord N r.1) (kas_desc f p n q)
  | 0, p, n, q, hp => hp
  | f + 1, p, n, q, hp => ⟨hp.get hN _, hp.get hN _, fun b => by
    cases b with
    | true =>
      show Gd N _ (if true = true then (if q > 0 then kas_desc f (kas_rev p (n - (q + 1)) n) (n + 1) 0 else kas_desc f p (n + 1) 0) else _)
      rw [if_pos rfl]
      by_cases c : q > 0
      · rw [if_pos c]; exact gd_desc f _ _ (hp.rev _ _)
      · rw [if_neg c]; exact gd_desc f _ _ hp
    | false =>
      show Gd N _ (if false = true then _ else KasT.ask (p.getD (n - 1) 0) (p.getD n 0) fun d => if d = true then .ret (p, n, q) else kas_desc f p (n + 1) (q + 1))
      rw [if_neg (by decide)]
      refine ⟨hp.get hN _, hp.get hN _, fun b => ?_⟩
      cases b with
      | true => exact hp
      | false => exact gd_desc f _ _ hp⟩
theorem gd_tail3 {p : Array Nat} (hp : Ord N p) (n m : Nat) : Gd N (fun r => Ord N r.2) (kas_tail3 n m p) := by
  unfold kas_tail3
  refine Gd.bind (R := fun _ => True) (fun a _ => ?_) (gd_asc hN (hp.rev _ _) _ _)
  exact hp.rev _ _
theorem gd_descPart {p : Array Nat} (hp : Ord N p) (n m : Nat) : Gd N (fun r => Ord N r.2) (kas_descPart n m p) := (gd_desc hN _ _ _ hp).bind fun r hr => by
  by_cases c : r.2.2 > 0
  · rw [if_pos c]; exact gd_tail3 hN (hr.rev _ _) _ _
  · rw [if_neg c]; exact gd_tail3 hN hr _ _
theorem gd_count {p : Array Nat} (hp : Ord N p) (m : Nat) : Gd N (fun r => Ord N r.2) (kas_count m p) := (gd_asc hN hp _ _).bind fun n _ => by
  by_cases c : (n == m) = true
  · rw [if_pos c]; exact hp
  · rw [if_neg c]
    by_cases c2 : n > 1
    · rw [if_pos c2]
      refine ⟨hp.get hN _, hp.get hN _, fun b => ?_⟩
      cases b with
      | true => exact hp
      | false => exact gd_descPart hN (hp.rev _ _) _ _
    · rw [if_neg c2]; exact gd_descPart hN hp _ _
theorem gd_place {p : Array Nat} (hp : Ord N p) (k : Nat) : ∀ f l r, Gd N (fun _ => True) (kas_place p k f l r)
  | 0, l, r => trivial
  | f + 1, l, r => by
    show Gd N _ (if l ≥ r then KasT.ret l else _)
    by_cases c : l ≥ r
    · rw [if_pos c]; exact trivial
    · rw [if_neg c]
      refine ⟨hp.get hN _, hp.get hN _, fun b => ?_⟩
      cases b with
      | true => exact gd_place hp k f _ _
      | false => exact gd_place hp k f _ _
theorem gd_bin : ∀ (f : Nat) {p : Array Nat} (k : Nat), Ord N p → Gd N (Ord N) (kas_bin f p k)
  | 0, p, k, hp => hp
  | f + 1, p, k, hp => (gd_place hN hp k k 0 k).bind fun l _ => gd_bin f _ (hp.bub _ _)
theorem gd_sort : Gd N (Ord N) (kas_sort N) := (gd_count hN (Array.Perm.refl _) N).bind fun r hr => by
  by_cases c : r.1 < N
  · rw [if_pos c]; exact gd_bin hN _ _ hr
  · rw [if_neg c]; exact hr
end
def Tp2 (h : Heap) (v : Value) : Prop := ∃ a o i t j t' n, v = .ref a ∧ h.get? a = some o ∧ o.cls = .type "tuple" ∧ o.data = .seq #[.int i t, .int j t'] n
section
variable {prog : Program} {w : World} {A : Around} {E : Value → Shared → Prop} {s : Shared}
theorem tp2_firsts {h : Heap} : ∀ {vs : List Value}, (∀ v ∈ vs, Tp2 h v) → ∃ fs, KatTups h vs fs ∧ fs.length = vs.length ∧ ∀ f ∈ fs, ∃ i t, f = Value.int i t
  | [], _ => ⟨[], trivial, rfl, fun f hf => absurd hf List.not_mem_nil⟩
  | v :: vs, hv => by
    obtain ⟨a, o, i, t, j, t', n, rfl, h1, h2, h3⟩ := hv v List.mem_cons_self
    obtain ⟨fs, k, l, e⟩ := tp2_firsts fun u hu => hv u (List.mem_cons_of_mem _ hu)
    exact ⟨.int i t :: fs, .cons h1 h2 h3 rfl k, by rw [List.length_cons, List.length_cons, l], fun f hf => (List.mem_cons.mp hf).elim (fun z => ⟨i, t, z⟩) (e f)⟩
theorem tp2_lt {x y : Value} {Q : Bool → Shared → Prop} (hx : Tp2 s.heap x) (hy : Tp2 s.heap y) (h : ∀ b, Q b s) : wpAny (model prog w) A (keyLt' (tuples' true) x y) Q E s := by
  obtain ⟨a, o, i, t, j, t', n, rfl, h1, h2, h3⟩ := hx
  obtain ⟨a', o', i', u, j', u', n', rfl, h1', h2', h3'⟩ := hy
  refine kat_lt h1 h3 h1' h3' (kat_cons (wpAny_eqBool_int ?_))
  refine kat_go (fun e => kat_yes (kat_cons (wpAny_eqBool_int ?_))) fun e => kat_no (oneLt_int (h _))
  exact kat_go (fun e => kat_yes (kat_nil (h _))) fun e => kat_no (kat_one _ _ (lt_int (h _)))
theorem list_sort_tp {a : Addr} {vs : List Value} {n : Nat} {P : Fin → Shared → Prop} (hh : A.handled = none) (ho : s.heap.get? a = some (seqObj "list" vs.toArray n)) (tv : ∀ v ∈ vs, Tp2 s.heap v ∧ v ≠ .ref a) (h64 : vs.length < 64)
    (h : ∀ out : List Value, out.Perm vs → P (.done (.ret .none)) { s with heap := sortedHeap s.heap a vs out.toArray }) :
    wpAny (model prog w) A (Builtin.«list.sort» ⟨[.ref a], []⟩) P E s := by
  rw [list_sort_plain]
  have ha : a < s.heap.objs.size := Heap.lt_size ho
  refine wpAny_bind (listItems_at ho rfl ?_)
  refine wpAny_bind (listUpdate_at ho rfl ?_)
  obtain ⟨e1, ho1⟩ : ∃ e1, (s.heap.update a (Obj.mapSeq fun _ => #[])).get? a = some (seqObj "list" #[] e1) := ⟨_, get?_update_seq ho (fun _ => #[])⟩
  refine wpAny_bind (seqEpoch_at ho1 rfl ?_)
  refine wpAny_bind (wpAny_newTuple ?_)
  refine wpAny_bind (wpAny_newList ?_)
  refine wpAny_holding ?_
  have ho6 : (((s.heap.update a (Obj.mapSeq fun _ => #[])).push (seqObj "tuple" vs.toArray 0)).push (seqObj "list" #[] 0)).get? a = some (seqObj "list" #[] e1) := by
    rw [Heap.get?_push_ne _ _ _ (by rw [size_push', Heap.size_update]; exact Nat.ne_of_lt (Nat.lt_succ_of_lt ha)), Heap.get?_push_ne _ _ _ (by rw [Heap.size_update]; exact Nat.ne_of_lt ha)]
    exact ho1
  show wpAny (model prog w) A _ P E { s with heap := ((s.heap.update a (Obj.mapSeq fun _ => #[])).push (seqObj "tuple" vs.toArray 0)).push (seqObj "list" #[] 0) }
  dsimp only
  have hsz : vs.toArray.size = vs.length := by simp
  have tv6 : ∀ v ∈ vs, Tp2 (((s.heap.update a (Obj.mapSeq fun _ => #[])).push (seqObj "tuple" vs.toArray 0)).push (seqObj "list" #[] 0)) v := fun v hv => by
    obtain ⟨⟨b, o, i, t, j, t', n, rfl, h1, h2, h3⟩, nb⟩ := tv v hv
    refine ⟨b, o, i, t, j, t', n, rfl, Heap.get?_push_of_some _ (Heap.get?_push_of_some _ ?_), h2, h3⟩
    rw [Heap.get?_update_ne _ _ _ _ (fun e => nb (by rw [e]))]
    exact h1
  by_cases h2 : vs.toArray.size < 2
  · rw [if_pos h2, if_pos h2]
    refine wpAny_bind (wpAny_pure ?_)
    rw [StateT.run_pure]
    refine wpAny_bind (wpAny_pure ?_)
    dsimp only
    refine wpAny_bind (seqEpoch_at ho6 rfl ?_)
    refine wpAny_bind (listUpdate_at ho6 rfl ?_ (hsz2 := by rw [Array.size_map]; show (PyProof.Rows.pairsOf vs).size ≤ _; rw [PyProof.Rows.pairsOf_size, sizeLine_eq]; omega))
    simp only [bne_self_eq_false, Bool.false_eq_true, if_false]
    refine wpAny_pure ?_
    have e : ((vs.toArray.zip vs.toArray).map (·.2)) = vs.toArray := by
      apply Array.toList_inj.mp
      rw [Array.toList_map, Array.toList_zip]
      exact List.map_snd_zip (Nat.le_refl _)
    have := h vs (List.Perm.refl _)
    rw [← e] at this
    exact this
  · rw [if_neg h2, if_neg h2]
    obtain ⟨fs, k, l, e⟩ := tp2_firsts tv6
    have h2' : 2 ≤ vs.length := by omega
    refine wpAny_bind (kat_kind k (by omega) (T := .type "int") (fun f hf => ?_) (by decide) ?_)
    · obtain ⟨i, t, rfl⟩ := e f hf
      exact PySem.W.Looks.now
    refine wpAny_bind (wpAny_mono (kat_run (Q := fun st' s' => ∃ p : Array Nat, Ord vs.length p ∧ arrOf st' = p.map (kas_item (vs.toArray.zip vs.toArray)) ∧ failedOf st' = none ∧ s' = { s with heap := ((s.heap.update a (Obj.mapSeq fun _ => #[])).push (seqObj "tuple" vs.toArray 0)).push (seqObj "list" #[] 0) })
      (G := fun p s' => Ord vs.length p ∧ s' = { s with heap := ((s.heap.update a (Obj.mapSeq fun _ => #[])).push (seqObj "tuple" vs.toArray 0)).push (seqObj "list" #[] 0) }) rfl h2' h64 (fun p st' s' a1 a2 a3 a4 => ⟨p, a4.1, a2, a3, a4.2⟩) ?_) ?_ fun _ _ e => e)
    · refine Gd.wp (N := vs.length) (fun i j hi hj C hC => ?_) (fun p hp => ⟨hp, rfl⟩) (gd_sort (by omega))
      refine tp2_lt (tv6 _ ?_) (tv6 _ ?_) hC
      · rw [show vs.getD i Value.none = vs[i] by simp [hi]]; exact List.getElem_mem hi
      · rw [show vs.getD j Value.none = vs[j] by simp [hj]]; exact List.getElem_mem hj
    · rintro ⟨⟨⟩, st'⟩ s' ⟨p, hp, har, hf, rfl⟩
      dsimp only
      have hout : (arrOf st').map (·.2) = List.toArray (p.toList.map fun i => vs.getD i Value.none) := kat_snds rfl har
      have hpm : (p.toList.map fun i => vs.getD i Value.none).Perm vs := by
        have h1 := (Array.perm_iff_toList_perm.mp hp).map fun i => vs.getD i Value.none
        have h3 : ((List.range vs.length).map fun i => vs.getD i Value.none) = vs := by
          refine List.ext_getElem (by simp) fun i h1 h2 => ?_
          simp [h2]
        simp only [List.toList_toArray] at h1
        rw [h3] at h1
        exact h1
      refine wpAny_bind (seqEpoch_at ho6 rfl ?_)
      rw [hout]
      refine wpAny_bind (listUpdate_at ho6 rfl ?_ (hsz2 := by rw [List.size_toArray, hpm.length_eq, sizeLine_eq]; omega))
      rw [show failedOf st' = none from hf]
      simp only [bne_self_eq_false, Bool.false_eq_true, if_false]
      exact wpAny_pure (h _ hpm)
theorem sorted_tp {l : Addr} {vs : List Value} {Q : Value → Shared → Prop} (hh : A.handled = none) (hl : s.heap.IsList l vs.toArray) (tv : ∀ v ∈ vs, Tp2 s.heap v) (h64 : vs.length < 64)
    (h : ∀ out : List Value, out.Perm vs → Q (.ref (s.heap.objs.size + 1)) { s with heap := sortedAll s.heap vs out.toArray }) :
    wpAny (model prog w) A (call (.builtin "sorted") [.ref l]) Q E s := by
  refine Calls.call_function_entry kind_sorted plain_sorted entry_sorted (args_sorted1 _) ?_
  unfold Builtin.«sorted»
  refine wpAny_bind (m := checkCount "sorted" 1 1 _) (wpAny_pure ?_)
  refine wpAny_bind (collect_list hl ?_)
  refine wpAny_bind (wpAny_newList ?_)
  have hsz : ((s.heap.push (seqObj "list" #[] 0)).update s.heap.objs.size (Obj.mapSeq (· ++ vs.toArray))).objs.size = s.heap.objs.size + 1 := by
    rw [Heap.size_update, size_push']
  have hoL : (((s.heap.push (seqObj "list" #[] 0)).update s.heap.objs.size (Obj.mapSeq (· ++ vs.toArray))).push (seqObj "list" vs.toArray 0)).get? (s.heap.objs.size + 1) = some (seqObj "list" vs.toArray 0) := by
    rw [← hsz]; exact Heap.get?_push_size _ rfl
  have keep : ∀ b o, s.heap.get? b = some o → (((s.heap.push (seqObj "list" #[] 0)).update s.heap.objs.size (Obj.mapSeq (· ++ vs.toArray))).push (seqObj "list" vs.toArray 0)).get? b = some o := fun b o q => by
    have hlt : b < s.heap.objs.size := Heap.lt_size q
    rw [Heap.get?_push_ne _ _ _ (by rw [hsz]; exact Nat.ne_of_lt (Nat.lt_succ_of_lt hlt)), Heap.get?_update_ne _ _ _ _ (Nat.ne_of_lt hlt), Heap.get?_push_ne _ _ _ (Nat.ne_of_lt hlt)]
    exact q
  show wpAny _ _ _ _ _ { s with heap := ((s.heap.push (seqObj "list" #[] 0)).update s.heap.objs.size (Obj.mapSeq (· ++ vs.toArray))).push (seqObj "list" vs.toArray 0) }
  rw [hsz]
  refine wpAny_bind (wpAny_holding (wpAny_call_entry slot_list_sort ⟨_, hoL, rfl⟩ entry_list_sort (list_sort_tp hh hoL (fun v hv => ?_) h64 fun out hp => ⟨_, rfl, ?_⟩) (args_list_sort _)))
  · obtain ⟨a, o, i, t, j, t', n, rfl, h1, h2, h3⟩ := tv v hv
    refine ⟨⟨a, o, i, t, j, t', n, rfl, keep _ _ h1, h2, h3⟩, fun e => ?_⟩
    cases e
    exact absurd (Heap.lt_size h1) (by simp)
  · exact wpAny_pure ⟨_, rfl, h out hp⟩
end
theorem vals_perm : ∀ {ys : List V} {its out : List Value}, Vals ys its → out.Perm its → ∃ zs, Vals zs out ∧ zs.Perm ys := by
  intro ys its out r p
  induction p generalizing ys with
  | nil => exact ⟨ys, r, List.Perm.refl _⟩
  | cons x _ ih =>
    cases r with
    | cons h r =>
      obtain ⟨zs, h1, h2⟩ := ih r
      exact ⟨_ :: zs, .cons h h1, h2.cons _⟩
  | swap x y l =>
    cases r with
    | cons h r =>
    cases r with
    | cons h' r => exact ⟨_ :: _ :: _, .cons h' (.cons h r), List.Perm.swap _ _ _⟩
  | trans _ _ ih1 ih2 =>
    obtain ⟨zs, h1, h2⟩ := ih2 r
    obtain ⟨ws, h3, h4⟩ := ih1 h1
    exact ⟨ws, h3, h4.trans h2⟩
def rSortT : List V → Hp → VK → Prop := fun xs H Q => ∃ (p : Addr) (ys : List V), xs = [.ref p] ∧ H p = some (.lst ys) ∧ (∀ y ∈ ys, ∃ a i j, y = .ref a ∧ H a = some (.tup [.int i, .int j])) ∧ ys.length < 64 ∧
  ∀ D H' zs, H D = none → Same H H' → H' D = some (.lst zs) → zs.Perm ys → Q (.ref D) H'
theorem call_sortedT {X : Cx} (hc : X.calm = true) : CallR X (.builtin "sorted") rSortT := by
  intro pins s σ H xs us Q I r h
  obtain ⟨p, ys, rfl, hp, ty, h64, q⟩ := h
  obtain ⟨u, rfl, ru⟩ := vals1 r
  cases ru
  obtain ⟨its, rv, pl, hz⟩ := I.list (SqL.of hp)
  have hl := rv.length
  have tv : ∀ v ∈ its, Tp2 s.heap v := fun v hv => by
    obtain ⟨k, hk⟩ := List.mem_iff_getElem?.mp hv
    have hk' : k < ys.length := by have := (List.getElem?_eq_some_iff.mp hk).1; omega
    obtain ⟨u, hu, ru⟩ := rv.get (List.getElem?_eq_getElem hk')
    rw [hk] at hu
    cases hu
    obtain ⟨a, i, j, e, ha⟩ := ty _ (List.getElem_mem hk')
    rw [e] at ru
    cases ru
    obtain ⟨_, us, rt, o, e1, e2, n, e3⟩ := (show ObjOk X.prog X.w H s.heap a (.tup [.int i, .int j]) from I.hok a _ ha)
    obtain ⟨x, y, rfl, ⟨t, rfl⟩, ⟨t', rfl⟩⟩ := rt.two
    exact ⟨a, o, i, t, j, t', n, rfl, e1, e2, e3⟩
  refine sorted_tp (I.ok.hd hc) pl.isList tv (by omega) fun out hpm => ?_
  obtain ⟨zs, rz, pz⟩ := vals_perm rv hpm
  obtain ⟨e, he⟩ := sortedAll_at s.heap its out.toArray
  have fr : H (s.heap.objs.size + 1) = none := I.hok.fresh (Nat.le_succ _)
  have lz := pz.length_eq
  have I2 := I.laid (a := s.heap.objs.size + 1) (o := .lst zs) (t' := s.toks) (fun b u e => sortedAll_old e) (Nat.le_succ _) (show ObjOk X.prog X.w _ (sortedAll s.heap its out.toArray) _ (.lst zs) from ⟨by rw [lz]; exact hz, out, e, rz, he⟩)
  exact ⟨.ref (s.heap.objs.size + 1), _, I2, rfl, q _ _ _ fr (same_new fr _) upd_same pz⟩
end L2

set_option Elab.async false
set_option linter.all false
set_option maxRecDepth 100000
set_option maxHeartbeats 4000000
/-! our own rules: is True, comprehensions over a dict's values and items, comprehensions whose items change the heap -/
namespace L2
open PySem PySem.Spec PyProof.Rows
theorem op_notB {X : Cx} : OpR X (compareOp .IsNot) (fun x y H Q => ∃ a b, x = .bl a ∧ y = .bl b ∧ Q (.bl (!(a == b))) H) := by
  intro pins s σ H x y v u Q I rx ry h
  obtain ⟨a, b, rfl, rfl, q⟩ := h
  cases (show v = Value.bool a from rx)
  cases (show u = Value.bool b from ry)
  refine wpAny_isNot_plain rfl ⟨.bl (!(a == b)), H, I, ?_, q⟩
  cases a <;> cases b <;> rfl
theorem over_vals {d : Addr} {o : Obj} {kvs : List (Key × V)} : Over (Itv d o kvs) (kvs.map (·.2)) (fun H => H d = some (.frz o (.dK kvs))) where
  go := fun i H h lt => ⟨by simpa using lt, h⟩
  stop := fun i H h le => ⟨by simpa using le, h⟩
  yld := fun i H x H' h lt y => by
    obtain ⟨rfl, k, e⟩ := y
    exact ⟨rfl, by rw [List.getElem?_map, e]; rfl⟩
theorem compJ_items {d : Addr} {o : Obj} {kvs : List (Key × V)} {g : TG} {tc : TT} {te : TE} {cs : St} {H1 : Hp} {Q : VK} (hd1 : H1 d = some (.frz o (.dK kvs))) (sz : kvs.length < sizeLine) (Pv : Addr → Nat → List V → St → Hp → Prop)
    (h0 : ∀ D H', H1 D = none → Same H1 H' → H' D = some (.lst []) → Pv D 0 [] cs H')
    (hs : ∀ D i k x ys σ1 H' p H'', kvs[i]? = some (k, x) → At (kvs.map (·.2)) H1 D i ys H' → Pv D i ys σ1 H' → H' p = none → Same H' H'' → H'' p = some (.tup [kV k, x]) → g (.ref p) σ1 H'' fun σ2 H2 => tc σ2 H2 fun b H3 => if b = true then te σ2 H3 fun v H4 => Put (kvs.map (·.2)) H1 D (Pv D) i σ2 v H4 else Skip (kvs.map (·.2)) H1 D (Pv D) i σ2 H3)
    (hd : ∀ D ys σ1 H', H1 D = none → Same H1 H' → H' D = some (.lst ys) → ys.length ≤ kvs.length → Pv D kvs.length ys σ1 H' → Q (.ref D) H') : CompJ (Iti d o kvs) g tc te cs H1 Q := by
  have el : (kvs.map (·.2)).length = kvs.length := by rw [List.length_map]
  intro D hD
  refine ⟨CW (kvs.map (·.2)) H1 D (Pv D), ⟨_, rfl, Nat.zero_le _, same_new hD _, [], upd_same, Nat.le_refl _, h0 D _ hD (same_new hD _) upd_same⟩, ?_⟩
  rintro i m σ1 H ⟨rfl, hi, sm, ys, hy, ly, p⟩
  by_cases hlt : i < kvs.length
  · refine .inr ⟨⟨hlt, sm _ _ hd1⟩, fun v H' y => ?_⟩
    obtain ⟨pp, k, x, rfl, hn, sm2, hp, hx⟩ := y
    exact hs D i k x ys σ1 H pp H' hx ⟨hD, by rw [el]; exact hlt, by rw [el]; exact sz, sm, hy, ly⟩ p hn sm2 hp
  · have e : i = kvs.length := by rw [el] at hi; omega
    subst e
    exact .inl ⟨⟨Nat.le_refl _, sm _ _ hd1⟩, hd D ys σ1 _ hD sm hy ly p⟩
def WM (xs : List V) (D : Addr) (Pv : Nat → List V → St → Hp → Prop) (i m : Nat) (σ : St) (H : Hp) : Prop := m = xs.length - i ∧ i ≤ xs.length ∧ ∃ ys, H D = some (.lst ys) ∧ ys.length ≤ i ∧ Pv i ys σ H
def PutM (xs : List V) (D : Addr) (Pv : Nat → List V → St → Hp → Prop) (i : Nat) (σ2 : St) (v : V) (H3 : Hp) : Prop := ∃ ys, H3 D = some (.lst ys) ∧ ys.length < sizeLine ∧ ∃ m', m' < xs.length - i ∧ WM xs D Pv (i + 1) m' σ2 (upd H3 D (.lst (ys ++ [v])))
def SkipM (xs : List V) (D : Addr) (Pv : Nat → List V → St → Hp → Prop) (i : Nat) (σ2 : St) (H2 : Hp) : Prop := ∃ m', m' < xs.length - i ∧ WM xs D Pv (i + 1) m' σ2 H2
theorem putM {xs : List V} {D : Addr} {Pv : Nat → List V → St → Hp → Prop} {i : Nat} {σ2 : St} {v : V} {H3 : Hp} {ys : List V} (hi : i < xs.length) (sz : xs.length < sizeLine) (hy : H3 D = some (.lst ys)) (ly : ys.length ≤ i) (h : ∀ H5, Mu H3 D (.lst (ys ++ [v])) H5 → Pv (i + 1) (ys ++ [v]) σ2 H5) : PutM xs D Pv i σ2 v H3 :=
  ⟨ys, hy, by omega, xs.length - (i + 1), by omega, rfl, hi, _, upd_same, by rw [List.length_append, List.length_singleton]; omega, h _ .mk'⟩
theorem compM_list {K : PySem.W.Frag} {a : Addr} {xs : List V} {g : TG} {tc : TT} {te : TE} {cs : St} {H1 : Hp} {Q : VK} (Pv : Addr → Nat → List V → St → Hp → Prop)
    (hl : ∀ D i ys σ H, Pv D i ys σ H → H a = some (.lst xs))
    (h0 : ∀ D H', H1 D = none → Same H1 H' → H' D = some (.lst []) → Pv D 0 [] cs H')
    (hs : ∀ D i x ys σ1 H', xs[i]? = some x → H' D = some (.lst ys) → ys.length ≤ i → Pv D i ys σ1 H' → g x σ1 H' fun σ2 H2 => tc σ2 H2 fun b H3 => if b = true then te σ2 H3 fun v H4 => PutM xs D (Pv D) i σ2 v H4 else SkipM xs D (Pv D) i σ2 H3)
    (hd : ∀ D ys σ1 H', H' D = some (.lst ys) → Pv D xs.length ys σ1 H' → Q (.ref D) H') : CompJ (Itl K a) g tc te cs H1 Q := by
  intro D hD
  refine ⟨WM xs D (Pv D), ⟨_, rfl, Nat.zero_le _, [], upd_same, Nat.le_refl _, h0 D _ hD (same_new hD _) upd_same⟩, ?_⟩
  rintro i m σ1 H ⟨rfl, hi, ys, hy, ly, p⟩
  have q1 := hl D i ys σ1 H p
  by_cases hlt : i < xs.length
  · refine .inr ⟨⟨xs, xs[i], SqL.of q1, List.getElem?_eq_getElem hlt⟩, fun x H' y => ?_⟩
    obtain ⟨rfl, hx⟩ := y
    exact hs D i x ys σ1 H' (hx xs (SqL.of q1)) hy ly p
  · have e : i = xs.length := by omega
    subst e
    exact .inl ⟨⟨xs, SqL.of q1, Nat.le_refl _⟩, hd D ys σ1 _ hy p⟩
end L2

seal L2.PE L2.PA L2.PS L2.PSs L2.PT L2.PW L2.PG L2.PGs L2.OpR L2.CallR L2.PI L2.PSet L2.PO L2.SlR L2.IxR L2.PPs L2.PC L2.UnR L2.MtR
local macro_rules | `(tactic| walk_at "rd") => `(tactic| simp only [L2.tFldG, L2.sFldG, L2.tMethG, L2.tMakeG, L2.lookup_n, L2.lookup_c, L2.putF_n, L2.putF_c, L2.HO.ins.injEq, L2.tDGetDG, L2.tUnf, L2.rDictP, L2.rSortT, L2.rMinL, L2.rIdxG, L2.rPopAtG, L2.tRng1, L2.rListRng, L2.tRev, L2.rIxL, L2.tBreak, L2.tCont, L2.rSum, L2.rSort, L2.rListG, L2.rInsG, L2.tDPopG, L2.frameN, L2.capOf, Option.join_some, L2.tYes, L2.tChain, L2.rAll, L2.tBM, L2.tyV, L2.rStarts, L2.rInK, L2.tFmt, L2.tJoin, L2.jCons, L2.jNil, L2.tDefR, L2.tRaise, L2.rMulS, L2.rSlS, L2.rJoinS, L2.rCatG, L2.tTry1, L2.tTry0, L2.tBM0, L2.rPopG, L2.rRepG, L2.tDGetR, L2.gLstG, L2.tCallX, L2.rIsiX, L2.rIsiXT, L2.tMs, L2.rSetG, L2.gSub, L2.tSeq, L2.tNext, L2.tIfS, L2.tTest, L2.tB, L2.tOp, L2.tUn, L2.rU, L2.tVar, L2.tC, L2.rI0, L2.rI, L2.tRet, L2.tRetN, L2.tDrop, L2.tAsg, L2.gName, L2.gTup, L2.gCons, L2.gNil, L2.tNil, L2.tCons, L2.tTupG, L2.tLstG, L2.tDNewG, L2.rDictG, L2.tAppG, L2.sDPutG2, L2.pairsOf, L2.tDispG, L2.tPairs, Option.bind_some, L2.tDef, L2.tCB, L2.tAnd, L2.tOr, L2.tNot, L2.tAndV, L2.tOrV, L2.tNotV, L2.tIf, L2.rIxG, L2.rIxS, L2.rEq, L2.rNe, L2.scal_ss, L2.scal_ii, L2.scal_bb, L2.scal_nn, L2.scal_ns, L2.scal_sn, L2.scal_ni, L2.scal_in, L2.flat_s, L2.flat_i, L2.flat_n, L2.flat_b, L2.inV_nil, L2.inV_cons, L2.eqV_ss, L2.eqV_ii, L2.cx_K, L2.rInG, L2.gTupG, L2.rSlG, L2.tSl, L2.tPart, L2.tNoPart, L2.tForT, L2.tForL, L2.turns, L2.upd_same, List.all_cons, List.all_nil, Bool.and_true, Bool.true_and, Bool.and_self, Bool.or_false, Bool.or_true, Bool.false_or, Bool.true_or, L2.cutV, HT.sIx, L2.rIsiG, L2.tyG_n, L2.tyG_b, L2.tyG_i, L2.tyG_s, L2.tyG_r, L2.hoT_l, L2.hoT_t, L2.hoT_d, L2.V.ty.injEq, L2.kit_ii, L2.kit_it, L2.kit_il, L2.kit_is, L2.kit_ib, L2.kit_id, L2.kit_ni, L2.kit_nt, L2.kit_nl, L2.kit_ns, L2.kit_nb, L2.kit_nd, L2.kit_ti, L2.kit_tt, L2.kit_tl, L2.kit_ts, L2.kit_tb, L2.kit_td, L2.kit_li, L2.kit_lt, L2.kit_ll, L2.kit_ls, L2.kit_lb, L2.kit_ld, L2.kit_si, L2.kit_st, L2.kit_sl, L2.kit_ss, L2.kit_sb, L2.kit_sd, L2.kit_bi, L2.kit_bt, L2.kit_bl, L2.kit_bs, L2.kit_bb, L2.kit_bd, L2.kit_di, L2.kit_dt, L2.kit_dl, L2.kit_ds, L2.kit_db, L2.kit_dd, L2.mn1, L2.mn2, List.drop_succ_cons, List.drop_zero, List.take_succ_cons, List.take_zero, Nat.reduceEqDiff, not_false_eq_true,  L2.tDInG, L2.tDNotInG, L2.tDGetG, L2.keyOf_s, L2.keyOf_i,  List.cons.injEq,  L2.tDNewK,
  L2.start, List.map_cons, List.map_nil, List.length_cons, List.length_nil, List.replicate, List.cons_append, List.nil_append, List.getElem?_cons_zero, List.getElem?_cons_succ, List.set_cons_zero, List.set_cons_succ, Option.some.injEq, L2.V.int.injEq, L2.V.str.injEq, L2.V.ref.injEq, L2.V.bl.injEq, L2.HO.tup.injEq, L2.HO.lst.injEq, L2.HO.dK.injEq, reduceCtorEq, exists_eq_left', exists_and_left, exists_eq_left, and_assoc, exists_eq_right, L2.CPow, L2.CMul, L2.CDiv, decide_eq_true_eq, L2.ofString_inj, String.reduceEq, decide_true, decide_false, Bool.false_eq_true, if_true, if_false, if_pos, and_true, true_and, or_false, false_or, or_true, true_or, and_false, false_and, exists_const, exists_false, Bool.not_true, Bool.not_false,
  L2.sz0, L2.sz1, L2.sz2, L2.sz3, L2.sz4, L2.sz5, L2.sz6, L2.atI_0, L2.atI_1, L2.atI_2, L2.atI_3, L2.atI_4, Nat.reduceAdd, Nat.reduceSub, Nat.zero_add, Nat.reduceLeDiff, Int.reducePow, Int.reduceToNat, Int.reduceLT, Int.reduceLE, Int.reduceNeg, L2.na2, L2.na10, Nat.reducePow, Nat.reduceLT, *])

set_option Elab.async false
set_option linter.all false
set_option maxRecDepth 100000
set_option maxHeartbeats 4000000
namespace K24
open PySem L2
def top (i : Nat) : Stmt := PySem.Challenge.pw_rerunyard_k24_queues_known.main.body.getD i (.Pass ⟨0, 0, 0, 0⟩)
abbrev s__wall : Stmt := top 0
theorem sc__wall : FnScope ["k"] ["k"] (defScope s__wall) := ⟨rfl, rfl, rfl, by decide +kernel, rfl, by decide +kernel, by decide +kernel⟩
abbrev s_Tool___init__ : Stmt := inClass (top 2) 0
theorem sc_Tool___init__ : FnScope ["self", "count"] ["self", "count"] (defScope s_Tool___init__) := ⟨rfl, rfl, rfl, by decide +kernel, rfl, by decide +kernel, by decide +kernel⟩
abbrev s_Store___init__ : Stmt := inClass (top 3) 0
theorem sc_Store___init__ : FnScope ["self", "level", "most"] ["self", "level", "most"] (defScope s_Store___init__) := ⟨rfl, rfl, rfl, by decide +kernel, rfl, by decide +kernel, by decide +kernel⟩
abbrev s_Goods___init__ : Stmt := inClass (top 4) 0
theorem sc_Goods___init__ : FnScope ["self", "program"] ["self", "program"] (defScope s_Goods___init__) := ⟨rfl, rfl, rfl, by decide +kernel, rfl, by decide +kernel, by decide +kernel⟩
abbrev s_Goods_take : Stmt := inClass (top 4) 1
theorem sc_Goods_take : FnScope ["self", "hand", "name", "n", "tool"] ["self", "hand", "name", "n"] (defScope s_Goods_take) := ⟨rfl, rfl, rfl, by decide +kernel, rfl, by decide +kernel, by decide +kernel⟩
abbrev s_Goods_give : Stmt := inClass (top 4) 2
theorem sc_Goods_give : FnScope ["self", "hand", "name", "n", "tool", "given"] ["self", "hand", "name", "n"] (defScope s_Goods_give) := ⟨rfl, rfl, rfl, by decide +kernel, rfl, by decide +kernel, by decide +kernel⟩
abbrev s_Goods_put : Stmt := inClass (top 4) 3
theorem sc_Goods_put : FnScope ["self", "hand", "name", "n", "store"] ["self", "hand", "name", "n"] (defScope s_Goods_put) := ⟨rfl, rfl, rfl, by decide +kernel, rfl, by decide +kernel, by decide +kernel⟩
abbrev s_Goods_get : Stmt := inClass (top 4) 4
theorem sc_Goods_get : FnScope ["self", "hand", "name", "n", "store"] ["self", "hand", "name", "n"] (defScope s_Goods_get) := ⟨rfl, rfl, rfl, by decide +kernel, rfl, by decide +kernel, by decide +kernel⟩
abbrev s_Goods_bring : Stmt := inClass (top 4) 5
theorem sc_Goods_bring : FnScope ["self", "name", "n"] ["self", "name", "n"] (defScope s_Goods_bring) := ⟨rfl, rfl, rfl, by decide +kernel, rfl, by decide +kernel, by decide +kernel⟩
abbrev s_Goods_leave : Stmt := inClass (top 4) 6
theorem sc_Goods_leave : FnScope ["self", "hand"] ["self", "hand"] (defScope s_Goods_leave) := ⟨rfl, rfl, rfl, by decide +kernel, rfl, by decide +kernel, by decide +kernel⟩
abbrev s_Goods_tools : Stmt := inClass (top 4) 7
theorem sc_Goods_tools : FnScope ["self"] ["self"] (defScope s_Goods_tools) := ⟨rfl, rfl, rfl, by decide +kernel, rfl, by decide +kernel, by decide +kernel⟩
abbrev s_Goods_stores : Stmt := inClass (top 4) 8
theorem sc_Goods_stores : FnScope ["self"] ["self"] (defScope s_Goods_stores) := ⟨rfl, rfl, rfl, by decide +kernel, rfl, by decide +kernel, by decide +kernel⟩
abbrev s_Goods_stand : Stmt := inClass (top 4) 9
theorem sc_Goods_stand : FnScope ["self", "tools", "stores"] ["self", "tools", "stores"] (defScope s_Goods_stand) := ⟨rfl, rfl, rfl, by decide +kernel, rfl, by decide +kernel, by decide +kernel⟩
abbrev s_tools_of : Stmt := top 5
theorem sc_tools_of : FnScope ["program"] ["program"] (defScope s_tools_of) := ⟨rfl, rfl, rfl, by decide +kernel, rfl, by decide +kernel, by decide +kernel⟩
abbrev s_stores_of : Stmt := top 6
theorem sc_stores_of : FnScope ["program"] ["program"] (defScope s_stores_of) := ⟨rfl, rfl, rfl, by decide +kernel, rfl, by decide +kernel, by decide +kernel⟩
abbrev s_told_tool : Stmt := top 7
theorem sc_told_tool : FnScope ["tool"] ["tool"] (defScope s_told_tool) := ⟨rfl, rfl, rfl, by decide +kernel, rfl, by decide +kernel, by decide +kernel⟩
abbrev s_told_store : Stmt := top 8
theorem sc_told_store : FnScope ["store"] ["store"] (defScope s_told_store) := ⟨rfl, rfl, rfl, by decide +kernel, rfl, by decide +kernel, by decide +kernel⟩
abbrev s_hand_out : Stmt := top 9
theorem sc_hand_out : FnScope ["tool", "hand", "n"] ["tool", "hand", "n"] (defScope s_hand_out) := ⟨rfl, rfl, rfl, by decide +kernel, rfl, by decide +kernel, by decide +kernel⟩
abbrev s_hand_in : Stmt := top 10
theorem sc_hand_in : FnScope ["tool", "hand", "n"] ["tool", "hand", "n"] (defScope s_hand_in) := ⟨rfl, rfl, rfl, by decide +kernel, rfl, by decide +kernel, by decide +kernel⟩
abbrev s_serve_takers : Stmt := top 11
theorem sc_serve_takers : FnScope ["tool", "served", "hand", "n"] ["tool"] (defScope s_serve_takers) := ⟨rfl, rfl, rfl, by decide +kernel, rfl, by decide +kernel, by decide +kernel⟩
abbrev s_serve_by_turns : Stmt := top 12
theorem sc_serve_by_turns : FnScope ["store", "served", "hand", "n"] ["store"] (defScope s_serve_by_turns) := ⟨rfl, rfl, rfl, by decide +kernel, rfl, by decide +kernel, by decide +kernel⟩
abbrev s__law_stir : Stmt := top 14
theorem sc__law_stir : FnScope ["cell", "k", "j", "number"] ["cell", "k"] (defScope s__law_stir) := ⟨rfl, rfl, rfl, by decide +kernel, rfl, by decide +kernel, by decide +kernel⟩
abbrev s__law_next_served : Stmt := top 15
theorem sc__law_next_served : FnScope ["wants", "room", "served", "hand", "n"] ["wants", "room"] (defScope s__law_next_served) := ⟨rfl, rfl, rfl, by decide +kernel, rfl, by decide +kernel, by decide +kernel⟩
abbrev s__law_tool : Stmt := top 16
theorem sc__law_tool : FnScope ["cell", "wants", "count", "goods", "left", "free", "k", "n", "back", "served"] ["cell", "wants"] (defScope s__law_tool) := ⟨rfl, rfl, rfl, by decide +kernel, rfl, by decide +kernel, by decide +kernel⟩
abbrev s__law_store : Stmt := top 17
theorem sc__law_store : FnScope ["cell", "wants", "word", "most", "goods", "hand", "n", "found", "room", "k", "served", "level", "getters", "putters"] ["cell", "wants", "word"] (defScope s__law_store) := ⟨rfl, rfl, rfl, by decide +kernel, rfl, by decide +kernel, by decide +kernel⟩
abbrev s_law : Stmt := top 18
theorem sc_law : FnScope ["script", "cell", "wants"] ["script"] (defScope s_law) := ⟨rfl, rfl, rfl, by decide +kernel, rfl, by decide +kernel, by decide +kernel⟩
end K24

set_option Elab.async false
set_option linter.all false
set_option maxRecDepth 100000
set_option maxHeartbeats 4000000
namespace K24
open PySem L2
/-! what a tool is: what is free, who has what, who awaits -/
structure TS where
  free : Int
  held : List (Int × Int)
  que : List (Int × Int)
def getI : List (Int × Int) → Int → Int
  | [], _ => 0
  | (k, x) :: r, h => if k = h then x else getI r h
def putI : List (Int × Int) → Int → Int → List (Int × Int)
  | [], h, x => [(h, x)]
  | (k, y) :: r, h, x => if k = h then (k, x) :: r else (k, y) :: putI r h x
def outS (t : TS) (h n : Int) : TS := ⟨t.free - n, putI t.held h (getI t.held h + n), t.que⟩
def hk (held : List (Int × Int)) : List (Key × V) := held.map fun p => (Sum.inl p.1, V.int p.2)
theorem hk_get {h : Int} : ∀ held : List (Int × Int), (valV (hk held) (Sum.inl h)).getD (.int 0) = .int (getI held h)
  | [] => rfl
  | (k, x) :: r => by
    unfold hk getI
    rw [List.map_cons]
    by_cases c : k = h
    · rw [valV_pos (by rw [c]), if_pos c]; rfl
    · rw [valV_neg (fun e => c (Sum.inl.inj e)), if_neg c]
      exact hk_get r
theorem hk_put {h x : Int} : ∀ held : List (Int × Int), (held.map (·.1)).Nodup → putK (hk held) (Sum.inl h) (.int x) = hk (putI held h x)
  | [], _ => rfl
  | (k, y) :: r, nd => by
    rw [List.map_cons, List.nodup_cons] at nd
    have ih := hk_put (h := h) (x := x) r nd.2
    unfold putI
    by_cases c : k = h
    · rw [if_pos c]
      subst c
      unfold putK hk
      rw [if_pos (by rw [List.map_cons, List.any_cons]; simp), List.map_cons, List.map_cons, List.map_cons]
      congr 1
      · simp
      · rw [List.map_map]
        refine List.map_congr_left fun p hp => ?_
        have : p.1 ≠ k := fun e => nd.1 (by rw [← e]; exact List.mem_map_of_mem (f := (·.1)) hp)
        simp [this]
    · rw [if_neg c]
      unfold putK hk at ih ⊢
      rw [List.map_cons, List.any_cons]
      have e0 : decide ((Sum.inl k : Key) = Sum.inl h) = false := decide_eq_false fun e => c (Sum.inl.inj e)
      rw [e0, Bool.false_or]
      by_cases c2 : (List.map (fun p => ((Sum.inl p.1 : Key), V.int p.2)) r).any (fun kv => decide (kv.1 = Sum.inl h)) = true
      · rw [if_pos c2] at ih ⊢
        rw [List.map_cons, ih, List.map_cons]
        congr 1
        simp [c]
      · rw [if_neg c2] at ih ⊢
        rw [List.cons_append, ih, List.map_cons]
theorem putI_keys {h x : Int} : ∀ held : List (Int × Int), (held.map (·.1)).Nodup → ((putI held h x).map (·.1)).Nodup ∧ (∀ k, k ∈ (putI held h x).map (·.1) → k = h ∨ k ∈ held.map (·.1)) ∧ (putI held h x).length ≤ held.length + 1
  | [], _ => ⟨List.nodup_cons.mpr ⟨List.not_mem_nil, .nil⟩, fun k hk => .inl (List.mem_singleton.mp hk), Nat.le_refl _⟩
  | (k, y) :: r, nd => by
    rw [List.map_cons, List.nodup_cons] at nd
    obtain ⟨a, b, c⟩ := putI_keys (h := h) (x := x) r nd.2
    unfold putI
    by_cases e : k = h
    · rw [if_pos e]
      exact ⟨by rw [List.map_cons, List.nodup_cons]; exact nd, fun k' hk' => .inr hk', by simp⟩
    · rw [if_neg e, List.map_cons, List.nodup_cons]
      refine ⟨⟨fun z => (b _ z).elim (fun z => e z) nd.1, a⟩, fun k' hk' => ?_, by simp only [List.length_cons]; omega⟩
      rcases List.mem_cons.mp hk' with rfl | hk'
      · exact .inr List.mem_cons_self
      · exact (b _ hk').imp id fun z => List.mem_cons_of_mem _ z
/-- those that are served -/
def srv : List (Int × Int) → TS → List (Int × Int) × TS
  | [], t => ([], t)
  | (h, n) :: q, t => if n ≤ t.free then ((h, n) :: (srv q (outS ⟨t.free, t.held, q⟩ h n)).1, (srv q (outS ⟨t.free, t.held, q⟩ h n)).2) else ([], t)
theorem srv_cons {h n : Int} {q : List (Int × Int)} {t : TS} (c : n ≤ t.free) : srv ((h, n) :: q) t = ((h, n) :: (srv q (outS ⟨t.free, t.held, q⟩ h n)).1, (srv q (outS ⟨t.free, t.held, q⟩ h n)).2) := by
  show (if n ≤ t.free then _ else _) = _
  rw [if_pos c]
/-! ### how it lies in a heap -/
inductive Prs (H : Hp) : List V → List (Int × Int) → Prop
  | nil : Prs H [] []
  | cons {p : Addr} {h n : Int} {vs : List V} {ps : List (Int × Int)} : H p = some (.tup [.int h, .int n]) → Prs H vs ps → Prs H (.ref p :: vs) ((h, n) :: ps)
theorem Prs.mono {H H' : Hp} (g : ∀ c xs, H c = some (.tup xs) → H' c = some (.tup xs)) : ∀ {vs : List V} {ps : List (Int × Int)}, Prs H vs ps → Prs H' vs ps
  | _, _, .nil => .nil
  | _, _, .cons h r => .cons (g _ _ h) (r.mono g)
theorem Prs.length {H : Hp} : ∀ {vs : List V} {ps : List (Int × Int)}, Prs H vs ps → vs.length = ps.length
  | _, _, .nil => rfl
  | _, _, .cons _ r => by rw [List.length_cons, List.length_cons, r.length]
theorem Prs.get {H : Hp} : ∀ {vs : List V} {ps : List (Int × Int)}, Prs H vs ps → ∀ {i : Nat} {v : V}, vs[i]? = some v → ∃ p h n, v = .ref p ∧ ps[i]? = some (h, n) ∧ H p = some (.tup [.int h, .int n])
  | _, _, .nil, i, v, e => by simp at e
  | _, _, .cons hp r, i, v, e => by
    cases i with
    | zero => simp at e; exact ⟨_, _, _, e.symm, rfl, hp⟩
    | succ i => simpa using r.get (i := i) (v := v) (by simpa using e)
theorem Prs.snoc {H : Hp} {p : Addr} {h n : Int} (hp : H p = some (.tup [.int h, .int n])) : ∀ {vs : List V} {ps : List (Int × Int)}, Prs H vs ps → Prs H (vs ++ [.ref p]) (ps ++ [(h, n)])
  | _, _, .nil => .cons hp .nil
  | _, _, .cons h r => .cons h (r.snoc hp)
/-- all but the things at a, d, q is kept -/
def Fr3 (a d q : Addr) (H H' : Hp) : Prop := ∀ c u, c ≠ a → c ≠ d → c ≠ q → H c = some u → H' c = some u
def TlO (C : Addr) (H : Hp) (a d q : Addr) (t : TS) : Prop := ∃ dx qs, H a = some (.ins C dx [("free", .int t.free), ("held", .ref d), ("queue", .ref q)]) ∧ H d = some (.dK (hk t.held)) ∧ H q = some (.lst qs) ∧ Prs H qs t.que ∧ (t.held.map (·.1)).Nodup ∧ t.held.length ≤ 50 ∧ t.que.length ≤ 100
section
variable {P : Program} {w : World} {K : PySem.W.Frag} {mg : Str → Option Value} {base : Heap}
def spToolI (C : Addr) : Sp := fun vs H Q _ => ∃ (a dx : Addr) (n : Int), vs = [.ref a, .int n] ∧ H a = some (.ins C dx []) ∧ ∀ (d q : Addr) (H' : Hp), H d = none → H q = none → (∀ c u, c ≠ a → H c = some u → H' c = some u) → TlO C H' a d q ⟨n, [], []⟩ → Q .non H'
theorem ok_Tool {C : Addr} (D : MakeAt K mg "Tool" C "Tool.__init__" s_Tool___init__ ["self", "count"]) (CL_Tool : Cls K C) (N_Tool_free : NoAttr K C "free") (N_Tool_held : NoAttr K C "held") (N_Tool_queue : NoAttr K C "queue") : OkC P w K mg base 1 "Tool" C ["self", "count"] (spToolI C) := by
  refine D.ok sc_Tool___init__ (fun vs H Q E h => ?_) (fun f cdv A outer s H vs Q E hr h => ?_)
  · obtain ⟨_, _, _, rfl, _⟩ := h; rfl
  obtain ⟨a, dx, n, rfl, ha, q⟩ := h
  refine ⟨_, (pss_cons (ps_fldG CL_Tool N_Tool_free (pv 0) (pv 1))
  (pss_cons (ps_fldG CL_Tool N_Tool_held (pv 0) pe_dnewG)
  (pss_one (ps_fldG CL_Tool N_Tool_queue (pv 0) (pe_lstG pa_nil))))), ?_⟩
  walk_at "rd"
  intro H1 m1 d H2 hd g2 h2
  have a2 := g2 _ _ m1.at_
  walk_at "rd"
  intro H3 m3 q0 H4 hq g4 h4
  have a4 := g4 _ _ m3.at_
  clear a2
  walk_at "rd"
  intro H5 m5
  have nd : d ≠ a := (ne_of_none m1.at_ hd).symm
  have nq : q0 ≠ a := (ne_of_none m3.at_ hq).symm
  have d3 := m3.old h2 nd
  have hd0 : H d = none := by rw [← m1.else_ d nd]; exact hd
  have hq2 : H2 q0 = none := by rw [← m3.else_ q0 nq]; exact hq
  have hq0 : H q0 = none := by rw [← m1.else_ q0 nq]; exact g2.free hq2
  refine q d q0 H5 hd0 hq0 (fun c u nc hc => m5.old (g4 _ _ (m3.old (g2 _ _ (m1.old hc nc)) nc)) nc) ⟨dx, [], m5.at_, m5.old (g4 _ _ d3) nd, m5.old h4 nq, .nil, .nil, by simp, by simp⟩
theorem Fr3.refl {a d q : Addr} {H : Hp} : Fr3 a d q H H := fun _ _ _ _ _ h => h
theorem Fr3.trans {a d q : Addr} {H H' H'' : Hp} (g : Fr3 a d q H H') (g' : Fr3 a d q H' H'') : Fr3 a d q H H'' := fun c u h1 h2 h3 h => g' c u h1 h2 h3 (g c u h1 h2 h3 h)
def spOut (C : Addr) : Sp := fun vs H Q _ => ∃ (a d q : Addr) (t : TS) (h n : Int), vs = [.ref a, .int h, .int n] ∧ TlO C H a d q t ∧ t.held.length < 50 ∧ ∀ H', Fr3 a d q H H' → TlO C H' a d q (outS t h n) → Q .non H'
theorem ok_out {C : Addr} (D : DefAt K mg "hand_out" s_hand_out ["tool", "hand", "n"]) (CL_Tool : Cls K C) (N_Tool_free : NoAttr K C "free") (N_Tool_held : NoAttr K C "held") : OkD P w K mg base 1 "hand_out" ["tool", "hand", "n"] (spOut C) := by
  refine D.ok sc_hand_out (fun vs H Q E h => ?_) (fun f cdv A outer s H vs Q E hr h => ?_)
  · obtain ⟨_, _, _, _, _, _, rfl, _⟩ := h; rfl
  obtain ⟨a, d, q0, t, h, n, rfl, ⟨dx, qs, k1, k2, k3, k4, k5, k6, k7⟩, kl, q⟩ := h
  have hu := hu_of hr
  have big : 100000 ≤ sizeLine := by unfold sizeLine; decide
  refine ⟨_, (pss_cons (ps_fldG CL_Tool N_Tool_free (pv 0) (pe_op op_sub (pe_fldG CL_Tool N_Tool_free (pv 0)) (pv 2)))
  (pss_one (ps_dputG2 hu (pe_fldG CL_Tool N_Tool_held (pv 0)) (pv 1) (pe_op op_add (pe_dgetDG hu (pe_fldG CL_Tool N_Tool_held (pv 0)) (pv 1) pe_int ⟨rfl, rfl, rfl, rfl⟩) (pv 2))))), ?_⟩
  walk_at "rd"
  intro H1 m1
  have nda : d ≠ a := fun z => by rw [z, k1] at k2; cases k2
  have nqa : q0 ≠ a := fun z => by rw [z, k1] at k3; cases k3
  have nqd : q0 ≠ d := fun z => by rw [z, k2] at k3; cases k3
  have a1 := m1.at_
  have d1 := m1.old k2 nda
  have lh : (hk t.held).length = t.held.length := by unfold hk; rw [List.length_map]
  walk_at "rd"
  refine ⟨⟨_, rfl⟩, _, hk_get _, by omega, fun H2 m2 => ?_⟩
  obtain ⟨p1, p2, p3⟩ := putI_keys (h := h) (x := getI t.held h + n) t.held k5
  have nt : ∀ c xs, H c = some (.tup xs) → H2 c = some (.tup xs) := fun c xs hc => m2.old (m1.old hc (fun z => by rw [z, k1] at hc; cases hc)) (fun z => by rw [z, k2] at hc; cases hc)
  refine q H2 (fun c u n1 n2 _ hc => m2.old (m1.old hc n1) n2) ⟨dx, qs, m2.old a1 (Ne.symm nda), ?_, m2.old (m1.old k3 nqa) nqd, k4.mono nt, p1, by show (putI t.held h (getI t.held h + n)).length ≤ 50; omega, k7⟩
  rw [m2.at_, hk_put _ k5]
  rfl
def spIn (C : Addr) : Sp := fun vs H Q _ => ∃ (a d q : Addr) (t : TS) (h n : Int), vs = [.ref a, .int h, .int n] ∧ TlO C H a d q t ∧ t.held.length < 50 ∧ ∀ H', Fr3 a d q H H' → TlO C H' a d q (outS t h (-n)) → Q .non H'
theorem ok_in {C : Addr} (D : DefAt K mg "hand_in" s_hand_in ["tool", "hand", "n"]) (G_hand_out : OkD P w K mg base 1 "hand_out" ["tool", "hand", "n"] (spOut C)) : OkD P w K mg base 2 "hand_in" ["tool", "hand", "n"] (spIn C) := by
  refine D.ok sc_hand_in (fun vs H Q E h => ?_) (fun f cdv A outer s H vs Q E hr h => ?_)
  · obtain ⟨_, _, _, _, _, _, rfl, _⟩ := h; rfl
  obtain ⟨a, d, q0, t, h, n, rfl, tl, kl, q⟩ := h
  refine ⟨_, (pss_one (ps_expr (pe_def G_hand_out hr rfl (pa_c (pv 0) (pa_c (pv 1) (pa_c (pe_un un_neg (pv 2)) pa_nil)))))), ?_⟩
  walk_at "rd"
  exact ⟨a, d, q0, t, h, -n, rfl, tl, kl, fun H' f3 tl' => q H' f3 tl'⟩
/-- those that were served, told -/
inductive Svd (w : Str) (H : Hp) : List V → List (Int × Int) → Prop
  | nil : Svd w H [] []
  | cons {p : Addr} {h n : Int} {vs : List V} {ps : List (Int × Int)} : H p = some (.tup [.int h, .str w, .int n]) → Svd w H vs ps → Svd w H (.ref p :: vs) ((h, n) :: ps)
theorem Svd.mono {w : Str} {H H' : Hp} (g : ∀ c xs, H c = some (.tup xs) → H' c = some (.tup xs)) : ∀ {vs : List V} {ps : List (Int × Int)}, Svd w H vs ps → Svd w H' vs ps
  | _, _, .nil => .nil
  | _, _, .cons h r => .cons (g _ _ h) (r.mono g)
theorem Svd.length {w : Str} {H : Hp} : ∀ {vs : List V} {ps : List (Int × Int)}, Svd w H vs ps → vs.length = ps.length
  | _, _, .nil => rfl
  | _, _, .cons _ r => by rw [List.length_cons, List.length_cons, r.length]
theorem Svd.snoc {w : Str} {H : Hp} {p : Addr} {h n : Int} (hp : H p = some (.tup [.int h, .str w, .int n])) : ∀ {vs : List V} {ps : List (Int × Int)}, Svd w H vs ps → Svd w H (vs ++ [.ref p]) (ps ++ [(h, n)])
  | _, _, .nil => .cons hp .nil
  | _, _, .cons h r => .cons h (r.snoc hp)
theorem TlO.ne {C : Addr} {H : Hp} {a d q : Addr} {t : TS} (h : TlO C H a d q t) : ∀ c xs, H c = some (.tup xs) → c ≠ a ∧ c ≠ d ∧ c ≠ q := by
  obtain ⟨dx, qs, k1, k2, k3, _⟩ := h
  intro c xs hc
  refine ⟨fun z => ?_, fun z => ?_, fun z => ?_⟩
  · rw [z, k1] at hc; cases hc
  · rw [z, k2] at hc; cases hc
  · rw [z, k3] at hc; cases hc
theorem TlO.kt {C : Addr} {H H' : Hp} {a d q : Addr} {t : TS} (h : TlO C H a d q t) (f : Fr3 a d q H H') : ∀ c xs, H c = some (.tup xs) → H' c = some (.tup xs) := fun c xs hc => by
  obtain ⟨n1, n2, n3⟩ := h.ne c xs hc
  exact f c _ n1 n2 n3 hc
theorem tru_lst {K : PySem.W.Frag} {H : Hp} {p : Addr} {xs : List V} (h : H p = some (.lst xs)) : TruV K (.ref p) H (!xs.isEmpty) := .inl ⟨_, SqL.of h, rfl⟩
theorem TlO.grow {C : Addr} {H H' : Hp} {a d q : Addr} {t : TS} (h : TlO C H a d q t) (g : ∀ c u, (c = a ∨ c = d ∨ c = q ∨ ∃ xs, u = HO.tup xs) → H c = some u → H' c = some u) : TlO C H' a d q t := by
  obtain ⟨dx, qs, k1, k2, k3, k4, k5⟩ := h
  exact ⟨dx, qs, g _ _ (.inl rfl) k1, g _ _ (.inr (.inl rfl)) k2, g _ _ (.inr (.inr (.inl rfl))) k3, k4.mono fun c xs hc => g _ _ (.inr (.inr (.inr ⟨xs, rfl⟩))) hc, k5⟩
def StI (C a d q r : Addr) (t : TS) (H : Hp) (m : Nat) (σ : St) (H' : Hp) : Prop := ∃ (sv : List V) (dn : List (Int × Int)) (t' : TS) (v2 v3 : Option V), σ = [some (.ref a), some (.ref r), v2, v3] ∧ Fr3 a d q H H' ∧ H' r = some (.lst sv) ∧ Svd "takes" H' sv dn ∧ TlO C H' a d q t' ∧ dn ++ (srv t'.que t').1 = (srv t.que t).1 ∧ (srv t'.que t').2 = (srv t.que t).2 ∧ t'.held.length + t'.que.length ≤ 50 ∧ dn.length + t'.que.length ≤ 50 ∧ m = t'.que.length
def StZ (C a d q r : Addr) (t : TS) (H : Hp) (σ : St) (H' : Hp) : Prop := ∃ (sv : List V) (v2 v3 : Option V), σ = [some (.ref a), some (.ref r), v2, v3] ∧ Fr3 a d q H H' ∧ H' r = some (.lst sv) ∧ Svd "takes" H' sv (srv t.que t).1 ∧ TlO C H' a d q (srv t.que t).2
def spServe (C : Addr) : Sp := fun vs H Q _ => ∃ (a d q : Addr) (t : TS), vs = [.ref a] ∧ TlO C H a d q t ∧ t.held.length + t.que.length ≤ 50 ∧
  ∀ (r : Addr) (H' : Hp) (sv : List V), H r = none → Fr3 a d q H H' → H' r = some (.lst sv) → Svd "takes" H' sv (srv t.que t).1 → TlO C H' a d q (srv t.que t).2 → Q (.ref r) H'
theorem ok_serve {C : Addr} (D : DefAt K mg "serve_takers" s_serve_takers ["tool"]) (CL_Tool : Cls K C) (N_Tool_free : NoAttr K C "free") (N_Tool_queue : NoAttr K C "queue") (G_hand_out : OkD P w K mg base 1 "hand_out" ["tool", "hand", "n"] (spOut C)) : OkD P w K mg base 2 "serve_takers" ["tool"] (spServe C) := by
  refine D.ok sc_serve_takers (fun vs H Q E h => ?_) (fun f cdv A outer s H vs Q E hr h => ?_)
  · obtain ⟨_, _, _, _, rfl, _⟩ := h; rfl
  obtain ⟨a, d, q0, t, rfl, tl, kl, q⟩ := h
  have big : 100000 ≤ sizeLine := by unfold sizeLine; decide
  refine ⟨_, (pss_cons (ps_set (i := 1) sc_serve_takers.nd rfl (Or.inl rfl) (pe_lstG pa_nil))
  (pss_cons (ps_up (ps_while PassesOwn.never (PW.pt (pw_and (pt_truth (pe_fldG CL_Tool N_Tool_queue (pv 0)) (fun _ => rfl)) (pw_and1 (pt_cmpR op_le (pe_ix ix_g (pe_ix ix_g (pe_fldG CL_Tool N_Tool_queue (pv 0)) pe_int (fun _ _ => rfl)) pe_int (fun _ _ => rfl)) (pe_fldG CL_Tool N_Tool_free (pv 0)) (nomark _)))))
  (pss_cons (ps_asg (pe_bm PySem.F.plainAttrs_list PySem.F.slot_list_pop PySem.F.type_list_pop mt_popAtG (pe_fldG CL_Tool N_Tool_queue (pv 0)) (pa_c pe_int pa_nil)) (pg_tupG 2 rfl (pgs_cons (pg_name (i := 2) sc_serve_takers.nd rfl (Or.inl rfl)) (pgs_cons (pg_name (i := 3) sc_serve_takers.nd rfl (Or.inl rfl)) pgs_nil))))
  (pss_cons (ps_expr (pe_def G_hand_out hr rfl (pa_c (pv 0) (pa_c (pv 2) (pa_c (pv 3) pa_nil)))))
  (pss_one (ps_expr (pe_appG (pv 1) (pe_tupG (pa_c (pv 2) (pa_c pe_str (pa_c (pv 3) pa_nil)))))))))))
  (pss_one (ps_ret (pv 1))))), ?_⟩
  walk_at "rd"
  intro r H1 hr1 g1 h1
  refine ⟨StZ C a d q0 r t H, ?_, ?_⟩
  · refine ⟨StI C a d q0 r t H, ⟨t.que.length, ?_⟩, ?_⟩
    · unfold StI
      obtain ⟨dx, qs, k1, k2, k3, k4, k5, k6, k7⟩ := tl
      exact ⟨[], [], t, _, _, rfl, fun c u _ _ _ hc => g1 _ _ hc, h1, .nil, ⟨dx, qs, g1 _ _ k1, g1 _ _ k2, g1 _ _ k3, k4.mono fun _ _ hc => g1 _ _ hc, k5, k6, k7⟩, rfl, rfl, kl, by simp only [List.length_nil]; omega, rfl⟩
    · intro m σ H2 z
      unfold StI at z
      obtain ⟨sv, dn, t', v2, v3, rfl, f3, h2, sd, tl', e1, e2, b1, b2, rfl⟩ := z
      obtain ⟨dx, qs, k1, k2, k3, k4, k5, k6, k7⟩ := id tl'
      clear h1
      walk_at "rd"
      have nrq : r ≠ q0 := by
        obtain ⟨_, _, _, _, kq, _⟩ := tl
        exact fun z => by rw [z, kq] at hr1; cases hr1
      have fin : (srv t'.que t') = ([], t') → ∀ v2 v3, StZ C a d q0 r t H [some (.ref a), some (.ref r), v2, v3] H2 := fun e v2 v3 => by
        rw [e] at e1 e2
        unfold StZ
        refine ⟨sv, _, _, rfl, f3, h2, ?_, ?_⟩
        · rw [← e1, List.append_nil]; exact sd
        · rw [← e2]; exact tl'
      have eta : t' = ⟨t'.free, t'.held, t'.que⟩ := rfl
      refine ⟨!qs.isEmpty, tru_lst k3, ?_⟩
      cases hq : t'.que with
      | nil =>
        rw [hq] at k4
        cases k4
        exact iteF (fin (by rw [hq]; rfl) _ _)
      | cons p0 qu =>
        obtain ⟨h, n⟩ := p0
        rw [hq] at k4
        cases k4 with
        | cons hp0 pr0 =>
        rename_i pa qs'
        refine iteT ⟨_, atI_0, _, rfl, _, .inl hp0, _, atI_1, _, rfl, ite2 (fun c => ?_) fun c => fin (by rw [hq]; unfold srv; rw [if_neg c]) _ _⟩
        rw [← hq]
        refine ⟨fun σ' H' => ∃ m', m' < t'.que.length ∧ StI C a d q0 r t H m' σ' H', fun _ _ z => z, ⟨_, SqL.of k3⟩, by simp only [List.length_cons]; omega, by have := pr0.length; rw [hq] at k7; simp only [List.length_cons] at k7 ⊢; omega, _, rfl, fun H3 m3 => ?_⟩
        have npa : pa ≠ q0 := (tl'.ne pa _ hp0).2.2
        have hp3 := m3.old hp0 npa
        obtain ⟨nra, nrd⟩ : r ≠ a ∧ r ≠ d := by
          obtain ⟨_, _, ka, kd, _⟩ := tl
          exact ⟨fun z => (by rw [z, ka] at hr1; cases hr1), fun z => (by rw [z, kd] at hr1; cases hr1)⟩
        have naq : a ≠ q0 := fun z => by rw [z, k3] at k1; cases k1
        have ndq : d ≠ q0 := fun z => by rw [z, k3] at k2; cases k2
        have kt3 : ∀ c xs, H2 c = some (.tup xs) → H3 c = some (.tup xs) := fun c xs hc => m3.old hc (tl'.ne c xs hc).2.2
        have tl3 : TlO C H3 a d q0 ⟨t'.free, t'.held, qu⟩ := ⟨dx, qs', m3.old k1 naq, m3.old k2 ndq, m3.at_, pr0.mono kt3, k5, k6, by rw [hq, List.length_cons] at k7; show qu.length ≤ 100; omega⟩
        rw [hq, List.length_cons] at b1 b2
        refine ⟨pa, rfl, _, hp3, rfl, _, _, rfl, _, _, rfl, rfl, a, d, q0, ⟨t'.free, t'.held, qu⟩, h, n, rfl, tl3, by show t'.held.length < 50; omega, fun H4 f4 tl4 => ?_⟩
        have h4r := f4 r _ nra nrd nrq (m3.old h2 nrq)
        have ls := sd.length
        refine ⟨sv, h4r, fun p5 H5 hp5 g5 h5 => ⟨sv, g5 _ _ h4r, by omega, fun H6 m6 => ⟨qu.length, by rw [hq, List.length_cons]; omega, ?_⟩⟩⟩
        have kt6 : ∀ c xs, H2 c = some (.tup xs) → H6 c = some (.tup xs) := fun c xs hc => m6.old (g5 _ _ (tl3.kt f4 c xs (kt3 c xs hc))) fun z => by rw [z, h2] at hc; cases hc
        have np5 : p5 ≠ r := (ne_of_none h4r hp5).symm
        obtain ⟨p1, p2, p3⟩ := putI_keys (h := h) (x := getI t'.held h + n) t'.held k5
        unfold StI
        refine ⟨sv ++ [.ref p5], dn ++ [(h, n)], outS ⟨t'.free, t'.held, qu⟩ h n, _, _, rfl, fun c u n1 n2 n3 hc => m6.old (g5 _ _ (f4 c u n1 n2 n3 (m3.old (f3 c u n1 n2 n3 hc) n3))) (ne_of_none hc hr1), m6.at_, (sd.mono kt6).snoc (m6.old h5 np5), tl4.grow fun c u hc e => m6.old (g5 _ _ e) (fun z => ?_), ?_, ?_, ?_, ?_, rfl⟩
        · rcases hc with rfl | rfl | rfl | ⟨xs, rfl⟩
          · exact nra z.symm
          · exact nrd z.symm
          · exact nrq z.symm
          · rw [z, h4r] at e; cases e
        · rw [← e1, hq, List.append_assoc]
          congr 1
          rw [srv_cons c]
          rfl
        · rw [← e2, hq, srv_cons c]
          rfl
        · show (putI t'.held h (getI t'.held h + n)).length + qu.length ≤ 50
          omega
        · show (dn ++ [(h, n)]).length + qu.length ≤ 50
          rw [List.length_append, List.length_singleton]; omega
  · intro σ H2 z
    unfold StZ at z
    obtain ⟨sv, v2, v3, rfl, f3, h2, sd, tl'⟩ := z
    clear h1
    walk_at "rd"
    try exact q r H2 sv hr1 f3 h2 sd tl'
end
end K24

set_option Elab.async false
set_option linter.all false
set_option maxRecDepth 100000
set_option maxHeartbeats 4000000
namespace K24
open PySem L2
theorem take_snoc {α : Type} {xs : List α} {i : Nat} {x : α} (h : xs[i]? = some x) : xs.take (i + 1) = xs.take i ++ [x] := by
  obtain ⟨h1, h2⟩ := List.getElem?_eq_some_iff.mp h
  rw [← List.take_append_getElem h1, h2]
theorem hk_at {held : List (Int × Int)} {i : Nat} {k : Key} {x : V} (h : (hk held)[i]? = some (k, x)) : ∃ a n, k = Sum.inl a ∧ x = .int n ∧ held[i]? = some (a, n) := by
  unfold hk at h
  rw [List.getElem?_map] at h
  cases e : held[i]? with
  | none => rw [e] at h; cases h
  | some p => rw [e] at h; cases h; exact ⟨p.1, p.2, rfl, rfl, rfl⟩
theorem same_kt {H H' : Hp} (g : Same H H') : ∀ c xs, H c = some (.tup xs) → H' c = some (.tup xs) := fun _ _ h => g _ _ h
def Told (H0 H : Hp) (v : V) (t : TS) (hd : List (Int × Int)) : Prop := ∃ (p ph pq : Addr) (hs qs : List V), v = .ref p ∧ H p = some (.tup [.int t.free, .ref ph, .ref pq]) ∧ H ph = some (.lst hs) ∧ Prs H hs hd ∧ H pq = some (.lst qs) ∧ Prs H qs t.que ∧ H0 ph = none ∧ H0 pq = none
theorem Prs.perm {H : Hp} {ys zs : List V} (p : zs.Perm ys) : ∀ {ps : List (Int × Int)}, Prs H ys ps → ∃ qs, Prs H zs qs ∧ qs.Perm ps := by
  induction p with
  | nil => exact fun {ps} h => ⟨ps, h, List.Perm.refl _⟩
  | cons x _ ih =>
    intro ps h
    cases h with
    | cons hp r =>
      obtain ⟨qs, h1, h2⟩ := ih r
      exact ⟨_ :: qs, .cons hp h1, h2.cons _⟩
  | swap x y l =>
    intro ps h
    cases h with
    | cons h1 r =>
    cases r with
    | cons h2 r => exact ⟨_, .cons h2 (.cons h1 r), List.Perm.swap _ _ _⟩
  | trans _ _ ih1 ih2 =>
    intro ps h
    obtain ⟨q1, a1, b1⟩ := ih2 h
    obtain ⟨q2, a2, b2⟩ := ih1 a1
    exact ⟨q2, a2, b2.trans b1⟩
theorem Prs.mem {H : Hp} : ∀ {vs : List V} {ps : List (Int × Int)}, Prs H vs ps → ∀ v ∈ vs, ∃ a i j, v = .ref a ∧ H a = some (.tup [.int i, .int j])
  | _, _, .nil, v, h => absurd h List.not_mem_nil
  | _, _, .cons hp r, v, h => by
    rcases List.mem_cons.mp h with rfl | h
    · exact ⟨_, _, _, rfl, hp⟩
    · exact r.mem v h
section
variable {P : Program} {w : World} {K : PySem.W.Frag} {mg : Str → Option Value} {base : Heap}
def HtP (held : List (Int × Int)) (i : Nat) (ys : List V) (σ1 : St) (H' : Hp) : Prop := Prs H' ys ((held.take i).filter fun p => decide (0 < p.2)) ∧ ∃ v0 v1, σ1 = [v0, v1]
def spTold (C : Addr) : Sp := fun vs H Q _ => ∃ (a d q : Addr) (t : TS), vs = [.ref a] ∧ TlO C H a d q t ∧ ∀ (v : V) (H' : Hp) (hd : List (Int × Int)), Same H H' → Told H H' v t hd → hd.Perm (t.held.filter fun p => decide (0 < p.2)) → Q v H'
theorem ok_told {C : Addr} (D : DefAt K mg "told_tool" s_told_tool ["tool"]) (CL_Tool : Cls K C) (N_Tool_free : NoAttr K C "free") (N_Tool_held : NoAttr K C "held") (N_Tool_queue : NoAttr K C "queue") (hsorted : mg "sorted" = none) (hlist : mg "list" = none) : OkD P w K mg base 1 "told_tool" ["tool"] (spTold C) := by
  refine D.ok sc_told_tool (fun vs H Q E h => ?_) (fun f cdv A outer s H vs Q E hr h => ?_)
  · obtain ⟨_, _, _, _, rfl, _⟩ := h; rfl
  obtain ⟨a, d, q0, t, rfl, ⟨dx, qs, k1, k2, k3, k4, k5, k6, k7⟩, q⟩ := h
  have big : 100000 ≤ sizeLine := by unfold sizeLine; decide
  have lh : (hk t.held).length = t.held.length := by unfold hk; rw [List.length_map]
  refine ⟨_, (pss_one (ps_ret (pe_tupG (pa_c (pe_fldG CL_Tool N_Tool_free (pv 0)) (pa_c (pe_cB (call_sortedT rfl) rfl hsorted (by decide +kernel) (pa_c (pe_unf (pe_compN (comp_scopeN 2 (N := ["hand", "n"]) (cap := []) rfl rfl rfl rfl (by decide +kernel) rfl rfl rfl) rfl (pi_items (pe_fldG CL_Tool N_Tool_held (pv 0))) (fun _ _ _ _ => (pg_tupG 2 rfl (pgs_cons (pg_name (i := 0) (show List.Nodup (α := Str) ["hand", "n"] by decide +kernel) rfl (Or.inl (lookup_relabel_local rfl)) (Or.inr (lookup_relabel_local rfl))) (pgs_cons (pg_name (i := 1) (show List.Nodup (α := Str) ["hand", "n"] by decide +kernel) rfl (Or.inl (lookup_relabel_local rfl)) (Or.inr (lookup_relabel_local rfl))) pgs_nil)))) (fun _ _ _ _ => (pts_one (pt_cmpR op_gt (pv 1) pe_int (nomark _)))) (fun _ _ _ _ => (pe_tupG (pa_c (pv 0) (pa_c (pv 1) pa_nil)))))) pa_nil)) (pa_c (pe_cTy call_listG rfl hlist (by decide +kernel) (pa_c (pe_fldG CL_Tool N_Tool_queue (pv 0)) pa_nil)) pa_nil)))))), ?_⟩
  walk_at "rd"
  refine tcomp_in ?_
  simp only [iItems]
  walk_at "rd"
  intro o nf
  refine compJ_items upd_same (by omega) (fun _ => HtP t.held) (fun D H' _ _ _ => by unfold HtP; exact ⟨.nil, _, _, rfl⟩) ?_ ?_
  · rintro D i k x ys σ1 H1 p H2 hx at1 pv hp g2 h2
    unfold HtP at pv
    obtain ⟨pr, v0, v1, rfl⟩ := pv
    obtain ⟨h, n, rfl, rfl, eh⟩ := hk_at hx
    have h2 : H2 p = some (.tup [.int h, .int n]) := h2
    walk_at "rd"
    refine ite2 (fun c p3 H3 hp3 g3 h3 => at1.put (g2.trans g3) fun H4 mu => ?_) fun c => at1.skip g2 ?_
    · unfold HtP
      refine ⟨?_, _, _, rfl⟩
      rw [take_snoc eh, List.filter_append, List.filter_cons, if_pos (by simpa using c), List.filter_nil]
      have nD : p3 ≠ D := (ne_of_none (g2 _ _ at1.lst) hp3).symm
      exact (pr.mono fun c xs hc => mu.old (g3 _ _ (g2 _ _ hc)) fun z => (by rw [z, at1.lst] at hc; cases hc)).snoc (mu.old h3 nD)
    · unfold HtP
      refine ⟨?_, _, _, rfl⟩
      rw [take_snoc eh, List.filter_append, List.filter_cons, if_neg (by simpa using c), List.filter_nil, List.append_nil]
      exact pr.mono fun c xs hc => g2 _ _ hc
  · rintro D ys σ1 H1 hD g1 hy hle pv
    unfold HtP at pv
    obtain ⟨pr, _⟩ := pv
    rw [List.take_of_length_le (by omega)] at pr
    have nDd : D ≠ d := fun z => by rw [z, upd_same] at hD; cases hD
    have SH : Same H (upd H1 d (.dK (hk t.held))) := fun c u hc => by
      by_cases z : c = d
      · rw [z, upd_same]; rw [z, k2] at hc; exact hc
      · rw [upd_ne z]
        exact g1 _ _ (by rw [upd_ne z]; exact hc)
    have d1 : H1 d = some (.frz o (.dK (hk t.held))) := g1 _ _ upd_same
    have pr1 : Prs (upd H1 d (.dK (hk t.held))) ys (t.held.filter fun p => decide (0 < p.2)) := pr.mono fun c xs hc => by
      rw [upd_ne (fun z => by rw [z, d1] at hc; cases hc)]; exact hc
    have lf := pr.length
    have lf2 := List.length_filter_le (fun p : Int × Int => decide (0 < p.2)) t.held
    refine ⟨d, nf, o, _, d1, D, rfl, ys, by rw [upd_ne nDd]; exact hy, fun y hm => ?_, by omega, fun DS H2 zs hDS g2 h2 pz => ?_⟩
    · obtain ⟨b, i, j, e, hb⟩ := pr1.mem y hm
      exact ⟨b, e, i, j, hb⟩
    · obtain ⟨hd, pz2, pm⟩ := pr1.perm pz
      have S2 := SH.trans g2
      have a2 := S2 _ _ k1
      have q2 := S2 _ _ k3
      clear k1 k3
      walk_at "rd"
      intro l3 H3 hl3 g3 h3 p4 H4 hp4 g4 h4
      exact q (.ref p4) H4 hd ((S2.trans g3).trans g4) ⟨p4, DS, l3, zs, qs, rfl, h4, g4 _ _ (g3 _ _ h2), pz2.mono fun c xs hc => g4 _ _ (g3 _ _ (g2 _ _ hc)), g4 _ _ h3, k4.mono fun c xs hc => g4 _ _ (g3 _ _ (S2 _ _ hc)), SH.free hDS, S2.free hl3⟩ pm
end
end K24

set_option Elab.async false
set_option linter.all false
set_option maxRecDepth 100000
set_option maxHeartbeats 4000000
namespace K24
open PySem L2
/-- a tool and its name, by the places where its parts lie -/
structure Ent where
  name : Str
  a : Addr
  d : Addr
  q : Addr
  t : TS
def kvE (es : List Ent) : List (Key × V) := es.map fun e => (Sum.inr e.name, V.ref e.a)
inductive PrN (H : Hp) : List V → List (Str × Int) → Prop
  | nil : PrN H [] []
  | cons {p : Addr} {s : Str} {n : Int} {vs : List V} {ps : List (Str × Int)} : H p = some (.tup [.str s, .int n]) → PrN H vs ps → PrN H (.ref p :: vs) ((s, n) :: ps)
theorem PrN.get {H : Hp} : ∀ {vs : List V} {ps : List (Str × Int)}, PrN H vs ps → ∀ {i : Nat} {v : V}, vs[i]? = some v → ∃ p s n, v = .ref p ∧ ps[i]? = some (s, n) ∧ H p = some (.tup [.str s, .int n])
  | _, _, .nil, i, v, e => by simp at e
  | _, _, .cons hp r, i, v, e => by
    cases i with
    | zero => simp at e; exact ⟨_, _, _, e.symm, rfl, hp⟩
    | succ i => simpa using r.get (i := i) (v := v) (by simpa using e)
theorem PrN.length {H : Hp} : ∀ {vs : List V} {ps : List (Str × Int)}, PrN H vs ps → vs.length = ps.length
  | _, _, .nil => rfl
  | _, _, .cons _ r => by rw [List.length_cons, List.length_cons, r.length]
inductive PrT (C : Addr) (H : Hp) : List V → List Ent → Prop
  | nil : PrT C H [] []
  | cons {p : Addr} {e : Ent} {vs : List V} {es : List Ent} : H p = some (.tup [.str e.name, .ref e.a]) → TlO C H e.a e.d e.q e.t → PrT C H vs es → PrT C H (.ref p :: vs) (e :: es)
theorem TlO.same {C : Addr} {H H' : Hp} {a d q : Addr} {t : TS} (g : Same H H') (h : TlO C H a d q t) : TlO C H' a d q t := h.grow fun c u _ e => g _ _ e
theorem PrT.mono {C : Addr} {H H' : Hp} (g : Same H H') : ∀ {vs : List V} {es : List Ent}, PrT C H vs es → PrT C H' vs es
  | _, _, .nil => .nil
  | _, _, .cons h t r => .cons (g _ _ h) (t.same g) (r.mono g)
theorem PrT.snoc {C : Addr} {H : Hp} {p : Addr} {e : Ent} (hp : H p = some (.tup [.str e.name, .ref e.a])) (ht : TlO C H e.a e.d e.q e.t) : ∀ {vs : List V} {es : List Ent}, PrT C H vs es → PrT C H (vs ++ [.ref p]) (es ++ [e])
  | _, _, .nil => .cons hp ht .nil
  | _, _, .cons h t r => .cons h t (r.snoc hp ht)
theorem PrT.prk {C : Addr} {H : Hp} : ∀ {vs : List V} {es : List Ent}, PrT C H vs es → PrK H vs (kvE es)
  | _, _, .nil => .nil
  | _, _, .cons h _ r => .cons h r.prk
theorem PrT.at {C : Addr} {H : Hp} : ∀ {vs : List V} {es : List Ent}, PrT C H vs es → ∀ e ∈ es, TlO C H e.a e.d e.q e.t
  | _, _, .nil, e, h => absurd h List.not_mem_nil
  | _, _, .cons _ t r, e, h => by
    rcases List.mem_cons.mp h with rfl | h
    · exact t
    · exact r.at e h
theorem putAll_one {ps : List (Key × V)} (h : ps.length ≤ 1) : putAll ps = ps := by
  match ps, h with
  | [], _ => rfl
  | [p], _ => rfl
section
variable {P : Program} {w : World} {K : PySem.W.Frag} {mg : Str → Option Value} {base : Heap}
def ToP (C : Addr) (H : Hp) (pr : List (Str × Int)) (D : Addr) (i : Nat) (ys : List V) (σ1 : St) (H' : Hp) : Prop := ∃ (es : List Ent) (v0 v1 : Option V), σ1 = [v0, v1] ∧ PrT C (hide D H') ys es ∧ es.map (fun e => (e.name, e.t)) = (pr.take i).map (fun p => (p.1, ⟨p.2, [], []⟩)) ∧ ∀ e ∈ es, H e.a = none ∧ H e.d = none ∧ H e.q = none
def spToolsOf (C : Addr) : Sp := fun vs H Q _ => ∃ (pp p0 : Addr) (x1 x2 x3 : V) (ys : List V) (pr : List (Str × Int)), vs = [.ref pp] ∧ H pp = some (.tup [.ref p0, x1, x2, x3]) ∧ H p0 = some (.lst ys) ∧ PrN H ys pr ∧ pr.length ≤ 1 ∧
  ∀ (d : Addr) (H' : Hp) (es : List Ent), H d = none → Same H H' → H' d = some (.dK (kvE es)) → (∀ e ∈ es, TlO C H' e.a e.d e.q e.t) → es.map (fun e => (e.name, e.t)) = pr.map (fun p => (p.1, ⟨p.2, [], []⟩)) → (∀ e ∈ es, H e.a = none ∧ H e.d = none ∧ H e.q = none) → Q (.ref d) H'
theorem ok_toolsOf {C : Addr} (D : DefAt K mg "tools_of" s_tools_of ["program"]) (G_Tool : OkC P w K mg base 1 "Tool" C ["self", "count"] (spToolI C)) (hdict : mg "dict" = none) : OkD P w K mg base 3 "tools_of" ["program"] (spToolsOf C) := by
  refine D.ok sc_tools_of (fun vs H Q E h => ?_) (fun f cdv A outer s H vs Q E hr h => ?_)
  · obtain ⟨_, _, _, _, _, _, _, rfl, _⟩ := h; rfl
  obtain ⟨pp, p0, x1, x2, x3, ys, pr, rfl, h1, h2, h3, h4, q⟩ := h
  have big : 100000 ≤ sizeLine := by unfold sizeLine; decide
  have ly := h3.length
  refine ⟨_, (pss_one (ps_ret (pe_cTy call_dictP rfl hdict (by decide +kernel) (pa_c (pe_compN (comp_scopeN 2 (N := ["name", "count"]) (cap := []) rfl rfl rfl rfl (by decide +kernel) rfl rfl rfl) rfl (pi_list (pe_ix ix_g (pv 0) pe_int (fun _ _ => rfl))) (fun _ _ _ _ => (pg_tupG 2 rfl (pgs_cons (pg_name (i := 0) (show List.Nodup (α := Str) ["name", "count"] by decide +kernel) rfl (Or.inl (lookup_relabel_local rfl)) (Or.inr (lookup_relabel_local rfl))) (pgs_cons (pg_name (i := 1) (show List.Nodup (α := Str) ["name", "count"] by decide +kernel) rfl (Or.inl (lookup_relabel_local rfl)) (Or.inr (lookup_relabel_local rfl))) pgs_nil)))) (fun _ _ _ _ => pts_nil) (fun _ _ _ _ => (pe_tupG (pa_c (pv 0) (pa_c (pe_makeG G_Tool hr rfl (pa_c (pv 1) pa_nil)) pa_nil))))) pa_nil)))), ?_⟩
  walk_at "rd"
  refine tcomp_in ?_
  simp only [iList]
  walk_at "rd"
  refine ⟨⟨_, SqL.of h2⟩, compJD_list h2 (by omega) (ToP C H pr) (fun D H' _ _ _ => by unfold ToP; exact ⟨[], _, _, rfl, .nil, rfl, fun e he => absurd he List.not_mem_nil⟩) ?_ ?_⟩
  · rintro D i x zs σ1 H1 hx at1 pv
    unfold ToP at pv
    obtain ⟨es, v0, v1, rfl, pt, em, fr⟩ := pv
    obtain ⟨p, nm, n, rfl, en, hp⟩ := h3.get hx
    have hp1 := at1.same _ _ hp
    walk_at "rd"
    intro x dx H2 hx0 hdx g2 hx2 hdx2
    refine ⟨x, dx, n, rfl, hx2, fun d0 q0 H3 hd0 hq0 k3 tl3 => ⟨rfl, fun p4 H4 hp4 g4 h4 => ?_⟩⟩
    have nxD : ∀ {c u}, H1 c = some u → c ≠ x := fun hc => ne_of_none hc hx0
    have S13 : Same H1 H3 := fun c u hc => k3 c u (nxD hc) (g2 _ _ hc)
    have hD1 := at1.lst
    refine at1.put (S13.trans g4) fun H5 mu => ?_
    unfold ToP
    have SD : Same (hide D H1) (hide D H5) := (hide_same (S13.trans g4)).trans (hide_mu mu)
    have nD : ∀ {c}, H1 c = none → c ≠ D := fun hc => (ne_of_none hD1 hc).symm
    have hd1 : H1 d0 = none := g2.free hd0
    have hq1 : H1 q0 = none := g2.free hq0
    have hp1' : H1 p4 = none := S13.free hp4
    refine ⟨es ++ [⟨nm, x, d0, q0, ⟨n, [], []⟩⟩], _, _, rfl, (pt.mono SD).snoc (hide_of (nD hp1') (mu.old h4 (nD hp1'))) (tl3.grow fun c u hc e => ?_), by rw [List.map_append, em, take_snoc en, List.map_append]; rfl, fun e he => ?_⟩
    · have nc : c ≠ D := by
        rcases hc with rfl | rfl | rfl | ⟨xs, rfl⟩
        · exact nD hx0
        · exact nD hd1
        · exact nD hq1
        · exact fun z => by rw [z, S13 _ _ hD1] at e; cases e
      exact hide_of nc (mu.old (g4 _ _ e) nc)
    · rcases List.mem_append.mp he with he | he
      · exact fr e he
      · rw [List.mem_singleton.mp he]
        exact ⟨at1.same.free hx0, at1.same.free hd1, at1.same.free hq1⟩
  · rintro D zs σ1 H1 hD g1 hy hle pv
    unfold ToP at pv
    obtain ⟨es, v0, v1, rfl, pt, em, fr⟩ := pv
    rw [List.take_of_length_le (by omega)] at em
    have le : es.length = pr.length := by have := congrArg List.length em; rw [List.length_map, List.length_map] at this; exact this
    walk_at "rd"
    refine ⟨kvE es, (pt.mono hide_le).prk, by unfold kvE; rw [List.length_map]; omega, fun l H2 hl g2 h2' => ?_⟩
    rw [putAll_one (by unfold kvE; rw [List.length_map]; omega)] at h2'
    exact q l H2 es (g1.free hl) (g1.trans g2) h2' (fun e he => ((pt.mono hide_le).mono g2).at e he) em fr
end
end K24

set_option Elab.async false
set_option linter.all false
set_option maxRecDepth 100000
set_option maxHeartbeats 4000000
namespace K24
open PySem L2
/-! ### a store -/
structure SS where
  level : Int
  most : Int
  gets : List (Int × Int)
  puts : List (Int × Int)
def stpP (s : SS) : Option ((Int × Bool × Int) × SS) := match s.puts with
  | [] => none
  | (h, n) :: p => if s.level + n ≤ s.most then some ((h, false, n), ⟨s.level + n, s.most, s.gets, p⟩) else none
def stp (s : SS) : Option ((Int × Bool × Int) × SS) := match s.gets with
  | [] => stpP s
  | (h, n) :: g => if n ≤ s.level then some ((h, true, n), ⟨s.level - n, s.most, g, s.puts⟩) else stpP s
inductive Sbt : SS → List (Int × Bool × Int) → SS → Prop
  | done {s : SS} : stp s = none → Sbt s [] s
  | step {s s1 s' : SS} {it : Int × Bool × Int} {its : List (Int × Bool × Int)} : stp s = some (it, s1) → Sbt s1 its s' → Sbt s (it :: its) s'
def wordOf (b : Bool) : Str := if b = true then "gets" else "puts"
inductive Sv3 (H : Hp) : List V → List (Int × Bool × Int) → Prop
  | nil : Sv3 H [] []
  | cons {p : Addr} {h n : Int} {b : Bool} {vs : List V} {ps : List (Int × Bool × Int)} : H p = some (.tup [.int h, .str (wordOf b), .int n]) → Sv3 H vs ps → Sv3 H (.ref p :: vs) ((h, b, n) :: ps)
theorem Sv3.mono {H H' : Hp} (g : ∀ c xs, H c = some (.tup xs) → H' c = some (.tup xs)) : ∀ {vs : List V} {ps : List (Int × Bool × Int)}, Sv3 H vs ps → Sv3 H' vs ps
  | _, _, .nil => .nil
  | _, _, .cons h r => .cons (g _ _ h) (r.mono g)
theorem Sv3.length {H : Hp} : ∀ {vs : List V} {ps : List (Int × Bool × Int)}, Sv3 H vs ps → vs.length = ps.length
  | _, _, .nil => rfl
  | _, _, .cons _ r => by rw [List.length_cons, List.length_cons, r.length]
theorem Sv3.snoc {H : Hp} {p : Addr} {h n : Int} {b : Bool} (hp : H p = some (.tup [.int h, .str (wordOf b), .int n])) : ∀ {vs : List V} {ps : List (Int × Bool × Int)}, Sv3 H vs ps → Sv3 H (vs ++ [.ref p]) (ps ++ [(h, b, n)])
  | _, _, .nil => .cons hp .nil
  | _, _, .cons h r => .cons h (r.snoc hp)
def StO (C : Addr) (H : Hp) (a g p : Addr) (s : SS) : Prop := ∃ dx gs ps, H a = some (.ins C dx [("level", .int s.level), ("most", .int s.most), ("getters", .ref g), ("putters", .ref p)]) ∧ H g = some (.lst gs) ∧ Prs H gs s.gets ∧ H p = some (.lst ps) ∧ Prs H ps s.puts ∧ g ≠ p ∧ s.gets.length ≤ 100 ∧ s.puts.length ≤ 100
theorem StO.grow {C : Addr} {H H' : Hp} {a g p : Addr} {s : SS} (h : StO C H a g p s) (k : ∀ c u, (c = a ∨ c = g ∨ c = p ∨ ∃ xs, u = HO.tup xs) → H c = some u → H' c = some u) : StO C H' a g p s := by
  obtain ⟨dx, gs, ps, k1, k2, k3, k4, k5, k6⟩ := h
  exact ⟨dx, gs, ps, k _ _ (.inl rfl) k1, k _ _ (.inr (.inl rfl)) k2, k3.mono fun c xs hc => k _ _ (.inr (.inr (.inr ⟨xs, rfl⟩))) hc, k _ _ (.inr (.inr (.inl rfl))) k4, k5.mono fun c xs hc => k _ _ (.inr (.inr (.inr ⟨xs, rfl⟩))) hc, k6⟩
theorem StO.same {C : Addr} {H H' : Hp} {a g p : Addr} {s : SS} (k : Same H H') (h : StO C H a g p s) : StO C H' a g p s := h.grow fun _ _ _ e => k _ _ e
theorem StO.ne {C : Addr} {H : Hp} {a g p : Addr} {s : SS} (h : StO C H a g p s) : ∀ c xs, H c = some (.tup xs) → c ≠ a ∧ c ≠ g ∧ c ≠ p := by
  obtain ⟨dx, gs, ps, k1, k2, k3, k4, _⟩ := h
  intro c xs hc
  refine ⟨fun z => ?_, fun z => ?_, fun z => ?_⟩
  · rw [z, k1] at hc; cases hc
  · rw [z, k2] at hc; cases hc
  · rw [z, k4] at hc; cases hc
section
variable {P : Program} {w : World} {K : PySem.W.Frag} {mg : Str → Option Value} {base : Heap}
def spStoreI (C : Addr) : Sp := fun vs H Q _ => ∃ (a dx : Addr) (l m : Int), vs = [.ref a, .int l, .int m] ∧ H a = some (.ins C dx []) ∧ ∀ (g p : Addr) (H' : Hp), H g = none → H p = none → (∀ c u, c ≠ a → H c = some u → H' c = some u) → StO C H' a g p ⟨l, m, [], []⟩ → Q .non H'
theorem ok_Store {C : Addr} (D : MakeAt K mg "Store" C "Store.__init__" s_Store___init__ ["self", "level", "most"]) (CL_Store : Cls K C) (N_Store_level : NoAttr K C "level") (N_Store_most : NoAttr K C "most") (N_Store_getters : NoAttr K C "getters") (N_Store_putters : NoAttr K C "putters") : OkC P w K mg base 1 "Store" C ["self", "level", "most"] (spStoreI C) := by
  refine D.ok sc_Store___init__ (fun vs H Q E h => ?_) (fun f cdv A outer s H vs Q E hr h => ?_)
  · obtain ⟨_, _, _, _, rfl, _⟩ := h; rfl
  obtain ⟨a, dx, l, m, rfl, ha, q⟩ := h
  refine ⟨_, (pss_cons (ps_fldG CL_Store N_Store_level (pv 0) (pv 1))
  (pss_cons (ps_fldG CL_Store N_Store_most (pv 0) (pv 2))
  (pss_cons (ps_fldG CL_Store N_Store_getters (pv 0) (pe_lstG pa_nil))
  (pss_one (ps_fldG CL_Store N_Store_putters (pv 0) (pe_lstG pa_nil)))))), ?_⟩
  walk_at "rd"
  intro H1 m1
  have a1 := m1.at_
  walk_at "rd"
  intro H2 m2 g0 H3 hg g3 h3
  have a3 := g3 _ _ m2.at_
  clear a1
  walk_at "rd"
  intro H4 m4 p0 H5 hp g5 h5
  have a5 := g5 _ _ m4.at_
  clear a3
  walk_at "rd"
  intro H6 m6
  have ng : g0 ≠ a := (ne_of_none m2.at_ hg).symm
  have np : p0 ≠ a := (ne_of_none m4.at_ hp).symm
  have hg4 := m4.old h3 ng
  have hg0 : H g0 = none := by rw [← m1.else_ g0 ng, ← m2.else_ g0 ng]; exact hg
  have hp3 : H3 p0 = none := by rw [← m4.else_ p0 np]; exact hp
  have hp0 : H p0 = none := by rw [← m1.else_ p0 np, ← m2.else_ p0 np]; exact g3.free hp3
  refine q g0 p0 H6 hg0 hp0 (fun c u nc hc => m6.old (g5 _ _ (m4.old (g3 _ _ (m2.old (m1.old hc nc) nc)) nc)) nc) ⟨dx, [], [], m6.at_, m6.old (g5 _ _ hg4) ng, .nil, m6.old h5 np, .nil, ne_of_none hg4 hp, by simp, by simp⟩
/-- a store told: its level, and who awaits -/
def ToldS (H0 H : Hp) (v : V) (s : SS) : Prop := ∃ (r pg pp : Addr) (gs ps : List V), v = .ref r ∧ H r = some (.tup [.int s.level, .ref pg, .ref pp]) ∧ H pg = some (.lst gs) ∧ Prs H gs s.gets ∧ H pp = some (.lst ps) ∧ Prs H ps s.puts ∧ H0 pg = none ∧ H0 pp = none
def spToldS (C : Addr) : Sp := fun vs H Q _ => ∃ (a g p : Addr) (s : SS), vs = [.ref a] ∧ StO C H a g p s ∧ ∀ (v : V) (H' : Hp), Same H H' → ToldS H H' v s → Q v H'
theorem ok_toldS {C : Addr} (D : DefAt K mg "told_store" s_told_store ["store"]) (CL_Store : Cls K C) (N_Store_level : NoAttr K C "level") (N_Store_getters : NoAttr K C "getters") (N_Store_putters : NoAttr K C "putters") (hlist : mg "list" = none) : OkD P w K mg base 1 "told_store" ["store"] (spToldS C) := by
  refine D.ok sc_told_store (fun vs H Q E h => ?_) (fun f cdv A outer s H vs Q E hr h => ?_)
  · obtain ⟨_, _, _, _, rfl, _⟩ := h; rfl
  obtain ⟨a, g, p, ss, rfl, ⟨dx, gs, ps, k1, k2, k3, k4, k5, k6, k7, k8⟩, q⟩ := h
  refine ⟨_, (pss_one (ps_ret (pe_tupG (pa_c (pe_fldG CL_Store N_Store_level (pv 0)) (pa_c (pe_cTy call_listG rfl hlist (by decide +kernel) (pa_c (pe_fldG CL_Store N_Store_getters (pv 0)) pa_nil)) (pa_c (pe_cTy call_listG rfl hlist (by decide +kernel) (pa_c (pe_fldG CL_Store N_Store_putters (pv 0)) pa_nil)) pa_nil)))))), ?_⟩
  walk_at "rd"
  intro l1 H1 hl1 g1 h1
  have a1 := g1 _ _ k1
  have p1 := g1 _ _ k4
  clear k1 k4
  walk_at "rd"
  intro l2 H2 hl2 g2 h2 r3 H3 hr3 g3 h3
  exact q (.ref r3) H3 ((g1.trans g2).trans g3) ⟨r3, l1, l2, gs, ps, rfl, h3, g3 _ _ (g2 _ _ h1), k3.mono fun c xs hc => g3 _ _ (g2 _ _ (g1 _ _ hc)), g3 _ _ h2, k5.mono fun c xs hc => g3 _ _ (g2 _ _ (g1 _ _ hc)), hl1, g1.free hl2⟩
end
end K24

set_option Elab.async false
set_option linter.all false
set_option maxRecDepth 100000
set_option maxHeartbeats 4000000
namespace K24
open PySem L2
structure EntS where
  name : Str
  a : Addr
  g : Addr
  p : Addr
  s : SS
def kvS (es : List EntS) : List (Key × V) := es.map fun e => (Sum.inr e.name, V.ref e.a)
inductive PrM (H : Hp) : List V → List (Str × Int × Int) → Prop
  | nil : PrM H [] []
  | cons {p : Addr} {s : Str} {n m : Int} {vs : List V} {ps : List (Str × Int × Int)} : H p = some (.tup [.str s, .int n, .int m]) → PrM H vs ps → PrM H (.ref p :: vs) ((s, n, m) :: ps)
theorem PrM.get {H : Hp} : ∀ {vs : List V} {ps : List (Str × Int × Int)}, PrM H vs ps → ∀ {i : Nat} {v : V}, vs[i]? = some v → ∃ p s n m, v = .ref p ∧ ps[i]? = some (s, n, m) ∧ H p = some (.tup [.str s, .int n, .int m])
  | _, _, .nil, i, v, e => by simp at e
  | _, _, .cons hp r, i, v, e => by
    cases i with
    | zero => simp at e; exact ⟨_, _, _, _, e.symm, rfl, hp⟩
    | succ i => simpa using r.get (i := i) (v := v) (by simpa using e)
theorem PrM.length {H : Hp} : ∀ {vs : List V} {ps : List (Str × Int × Int)}, PrM H vs ps → vs.length = ps.length
  | _, _, .nil => rfl
  | _, _, .cons _ r => by rw [List.length_cons, List.length_cons, r.length]
inductive PrS (C : Addr) (H : Hp) : List V → List EntS → Prop
  | nil : PrS C H [] []
  | cons {p : Addr} {e : EntS} {vs : List V} {es : List EntS} : H p = some (.tup [.str e.name, .ref e.a]) → StO C H e.a e.g e.p e.s → PrS C H vs es → PrS C H (.ref p :: vs) (e :: es)
theorem PrS.mono {C : Addr} {H H' : Hp} (g : Same H H') : ∀ {vs : List V} {es : List EntS}, PrS C H vs es → PrS C H' vs es
  | _, _, .nil => .nil
  | _, _, .cons h t r => .cons (g _ _ h) (t.same g) (r.mono g)
theorem PrS.snoc {C : Addr} {H : Hp} {p : Addr} {e : EntS} (hp : H p = some (.tup [.str e.name, .ref e.a])) (ht : StO C H e.a e.g e.p e.s) : ∀ {vs : List V} {es : List EntS}, PrS C H vs es → PrS C H (vs ++ [.ref p]) (es ++ [e])
  | _, _, .nil => .cons hp ht .nil
  | _, _, .cons h t r => .cons h t (r.snoc hp ht)
theorem PrS.prk {C : Addr} {H : Hp} : ∀ {vs : List V} {es : List EntS}, PrS C H vs es → PrK H vs (kvS es)
  | _, _, .nil => .nil
  | _, _, .cons h _ r => .cons h r.prk
theorem PrS.at {C : Addr} {H : Hp} : ∀ {vs : List V} {es : List EntS}, PrS C H vs es → ∀ e ∈ es, StO C H e.a e.g e.p e.s
  | _, _, .nil, e, h => absurd h List.not_mem_nil
  | _, _, .cons _ t r, e, h => by
    rcases List.mem_cons.mp h with rfl | h
    · exact t
    · exact r.at e h
section
variable {P : Program} {w : World} {K : PySem.W.Frag} {mg : Str → Option Value} {base : Heap}
def SoP (C : Addr) (H : Hp) (pr : List (Str × Int × Int)) (D : Addr) (i : Nat) (ys : List V) (σ1 : St) (H' : Hp) : Prop := ∃ (es : List EntS) (v0 v1 v2 : Option V), σ1 = [v0, v1, v2] ∧ PrS C (hide D H') ys es ∧ es.map (fun e => (e.name, e.s)) = (pr.take i).map (fun p => (p.1, ⟨p.2.1, p.2.2, [], []⟩)) ∧ ∀ e ∈ es, H e.a = none ∧ H e.g = none ∧ H e.p = none
def spStoresOf (C : Addr) : Sp := fun vs H Q _ => ∃ (pp p1 : Addr) (x0 x2 x3 : V) (ys : List V) (pr : List (Str × Int × Int)), vs = [.ref pp] ∧ H pp = some (.tup [x0, .ref p1, x2, x3]) ∧ H p1 = some (.lst ys) ∧ PrM H ys pr ∧ pr.length ≤ 1 ∧
  ∀ (d : Addr) (H' : Hp) (es : List EntS), H d = none → Same H H' → H' d = some (.dK (kvS es)) → (∀ e ∈ es, StO C H' e.a e.g e.p e.s) → es.map (fun e => (e.name, e.s)) = pr.map (fun p => (p.1, ⟨p.2.1, p.2.2, [], []⟩)) → (∀ e ∈ es, H e.a = none ∧ H e.g = none ∧ H e.p = none) → Q (.ref d) H'
theorem ok_storesOf {C : Addr} (D : DefAt K mg "stores_of" s_stores_of ["program"]) (G_Store : OkC P w K mg base 1 "Store" C ["self", "level", "most"] (spStoreI C)) (hdict : mg "dict" = none) : OkD P w K mg base 3 "stores_of" ["program"] (spStoresOf C) := by
  refine D.ok sc_stores_of (fun vs H Q E h => ?_) (fun f cdv A outer s H vs Q E hr h => ?_)
  · obtain ⟨_, _, _, _, _, _, _, rfl, _⟩ := h; rfl
  obtain ⟨pp, p1, x0, x2, x3, ys, pr, rfl, h1, h2, h3, h4, q⟩ := h
  have big : 100000 ≤ sizeLine := by unfold sizeLine; decide
  have ly := h3.length
  refine ⟨_, (pss_one (ps_ret (pe_cTy call_dictP rfl hdict (by decide +kernel) (pa_c (pe_compN (comp_scopeN 3 (N := ["name", "level", "most"]) (cap := []) rfl rfl rfl rfl (by decide +kernel) rfl rfl rfl) rfl (pi_list (pe_ix ix_g (pv 0) pe_int (fun _ _ => rfl))) (fun _ _ _ _ => (pg_tupG 3 rfl (pgs_cons (pg_name (i := 0) (show List.Nodup (α := Str) ["name", "level", "most"] by decide +kernel) rfl (Or.inl (lookup_relabel_local rfl)) (Or.inr (lookup_relabel_local rfl))) (pgs_cons (pg_name (i := 1) (show List.Nodup (α := Str) ["name", "level", "most"] by decide +kernel) rfl (Or.inl (lookup_relabel_local rfl)) (Or.inr (lookup_relabel_local rfl))) (pgs_cons (pg_name (i := 2) (show List.Nodup (α := Str) ["name", "level", "most"] by decide +kernel) rfl (Or.inl (lookup_relabel_local rfl)) (Or.inr (lookup_relabel_local rfl))) pgs_nil))))) (fun _ _ _ _ => pts_nil) (fun _ _ _ _ => (pe_tupG (pa_c (pv 0) (pa_c (pe_makeG G_Store hr rfl (pa_c (pv 1) (pa_c (pv 2) pa_nil))) pa_nil))))) pa_nil)))), ?_⟩
  walk_at "rd"
  refine tcomp_in ?_
  simp only [iList]
  walk_at "rd"
  refine ⟨⟨_, SqL.of h2⟩, compJD_list h2 (by omega) (SoP C H pr) (fun D H' _ _ _ => by unfold SoP; exact ⟨[], _, _, _, rfl, .nil, rfl, fun e he => absurd he List.not_mem_nil⟩) ?_ ?_⟩
  · rintro D i x zs σ1 H1 hx at1 pv
    unfold SoP at pv
    obtain ⟨es, v0, v1, v2, rfl, pt, em, fr⟩ := pv
    obtain ⟨p, nm, n, m, rfl, en, hp⟩ := h3.get hx
    have hp1 := at1.same _ _ hp
    walk_at "rd"
    intro x dx H2 hx0 hdx g2 hx2 hdx2
    refine ⟨x, dx, n, m, rfl, hx2, fun d0 q0 H3 hd0 hq0 k3 tl3 => ⟨rfl, fun p4 H4 hp4 g4 h4 => ?_⟩⟩
    have nxD : ∀ {c u}, H1 c = some u → c ≠ x := fun hc => ne_of_none hc hx0
    have S13 : Same H1 H3 := fun c u hc => k3 c u (nxD hc) (g2 _ _ hc)
    have hD1 := at1.lst
    refine at1.put (S13.trans g4) fun H5 mu => ?_
    unfold SoP
    have SD : Same (hide D H1) (hide D H5) := (hide_same (S13.trans g4)).trans (hide_mu mu)
    have nD : ∀ {c}, H1 c = none → c ≠ D := fun hc => (ne_of_none hD1 hc).symm
    have hd1 : H1 d0 = none := g2.free hd0
    have hq1 : H1 q0 = none := g2.free hq0
    have hp1' : H1 p4 = none := S13.free hp4
    refine ⟨es ++ [⟨nm, x, d0, q0, ⟨n, m, [], []⟩⟩], _, _, _, rfl, (pt.mono SD).snoc (hide_of (nD hp1') (mu.old h4 (nD hp1'))) (tl3.grow fun c u hc e => ?_), by rw [List.map_append, em, take_snoc en, List.map_append]; rfl, fun e he => ?_⟩
    · have nc : c ≠ D := by
        rcases hc with rfl | rfl | rfl | ⟨xs, rfl⟩
        · exact nD hx0
        · exact nD hd1
        · exact nD hq1
        · exact fun z => by rw [z, S13 _ _ hD1] at e; cases e
      exact hide_of nc (mu.old (g4 _ _ e) nc)
    · rcases List.mem_append.mp he with he | he
      · exact fr e he
      · rw [List.mem_singleton.mp he]
        exact ⟨at1.same.free hx0, at1.same.free hd1, at1.same.free hq1⟩
  · rintro D zs σ1 H1 hD g1 hy hle pv
    unfold SoP at pv
    obtain ⟨es, v0, v1, v2, rfl, pt, em, fr⟩ := pv
    rw [List.take_of_length_le (by omega)] at em
    have le : es.length = pr.length := by have := congrArg List.length em; rw [List.length_map, List.length_map] at this; exact this
    walk_at "rd"
    refine ⟨kvS es, (pt.mono hide_le).prk, by unfold kvS; rw [List.length_map]; omega, fun l H2 hl g2 h2' => ?_⟩
    rw [putAll_one (by unfold kvS; rw [List.length_map]; omega)] at h2'
    exact q l H2 es (g1.free hl) (g1.trans g2) h2' (fun e he => ((pt.mono hide_le).mono g2).at e he) em fr
def TbI (C a g p r : Addr) (s : SS) (H : Hp) (m : Nat) (σ : St) (H' : Hp) : Prop := ∃ (sv : List V) (dn : List (Int × Bool × Int)) (s' : SS) (v2 v3 : Option V), σ = [some (.ref a), some (.ref r), v2, v3] ∧ Fr3 a g p H H' ∧ H' r = some (.lst sv) ∧ Sv3 H' sv dn ∧ StO C H' a g p s' ∧ (∀ its z, Sbt s' its z → Sbt s (dn ++ its) z) ∧ dn.length + s'.gets.length + s'.puts.length ≤ 200 ∧ m = s'.gets.length + s'.puts.length
def spTurns (C : Addr) : Sp := fun vs H Q _ => ∃ (a g p : Addr) (s : SS), vs = [.ref a] ∧ StO C H a g p s ∧
  ∀ (r : Addr) (H' : Hp) (sv : List V) (its : List (Int × Bool × Int)) (s' : SS), H r = none → Fr3 a g p H H' → H' r = some (.lst sv) → Sv3 H' sv its → StO C H' a g p s' → Sbt s its s' → Q (.ref r) H'
theorem ok_turns {C : Addr} (D : DefAt K mg "serve_by_turns" s_serve_by_turns ["store"]) (CL_Store : Cls K C) (N_Store_level : NoAttr K C "level") (N_Store_most : NoAttr K C "most") (N_Store_getters : NoAttr K C "getters") (N_Store_putters : NoAttr K C "putters") : OkD P w K mg base 1 "serve_by_turns" ["store"] (spTurns C) := by
  refine D.ok sc_serve_by_turns (fun vs H Q E h => ?_) (fun f cdv A outer s H vs Q E hr h => ?_)
  · obtain ⟨_, _, _, _, rfl, _⟩ := h; rfl
  obtain ⟨a, g, p, ss, rfl, tl, q⟩ := h
  have big : 100000 ≤ sizeLine := by unfold sizeLine; decide
  refine ⟨_, (pss_cons (ps_set (i := 1) sc_serve_by_turns.nd rfl (Or.inl rfl) (pe_lstG pa_nil))
  (pss_one (ps_while PassesOwn.never (pt_val pe_bl)
  (pss_one (ps_if (PW.pt (pw_and (pt_truth (pe_fldG CL_Store N_Store_getters (pv 0)) (fun _ => rfl)) (pw_and1 (pt_cmpR op_le (pe_ix ix_g (pe_ix ix_g (pe_fldG CL_Store N_Store_getters (pv 0)) pe_int (fun _ _ => rfl)) pe_int (fun _ _ => rfl)) (pe_fldG CL_Store N_Store_level (pv 0)) (nomark _)))))
  (pss_cons (ps_asg (pe_bm PySem.F.plainAttrs_list PySem.F.slot_list_pop PySem.F.type_list_pop mt_popAtG (pe_fldG CL_Store N_Store_getters (pv 0)) (pa_c pe_int pa_nil)) (pg_tupG 2 rfl (pgs_cons (pg_name (i := 2) sc_serve_by_turns.nd rfl (Or.inl rfl)) (pgs_cons (pg_name (i := 3) sc_serve_by_turns.nd rfl (Or.inl rfl)) pgs_nil))))
  (pss_cons (ps_fldG CL_Store N_Store_level (pv 0) (pe_op op_sub (pe_fldG CL_Store N_Store_level (pv 0)) (pv 3)))
  (pss_one (ps_expr (pe_appG (pv 1) (pe_tupG (pa_c (pv 2) (pa_c pe_str (pa_c (pv 3) pa_nil)))))))))
  (pss_one (ps_if (PW.pt (pw_and (pt_truth (pe_fldG CL_Store N_Store_putters (pv 0)) (fun _ => rfl)) (pw_and1 (pt_cmpR op_le (pe_op op_add (pe_fldG CL_Store N_Store_level (pv 0)) (pe_ix ix_g (pe_ix ix_g (pe_fldG CL_Store N_Store_putters (pv 0)) pe_int (fun _ _ => rfl)) pe_int (fun _ _ => rfl))) (pe_fldG CL_Store N_Store_most (pv 0)) (nomark _)))))
  (pss_cons (ps_asg (pe_bm PySem.F.plainAttrs_list PySem.F.slot_list_pop PySem.F.type_list_pop mt_popAtG (pe_fldG CL_Store N_Store_putters (pv 0)) (pa_c pe_int pa_nil)) (pg_tupG 2 rfl (pgs_cons (pg_name (i := 2) sc_serve_by_turns.nd rfl (Or.inl rfl)) (pgs_cons (pg_name (i := 3) sc_serve_by_turns.nd rfl (Or.inl rfl)) pgs_nil))))
  (pss_cons (ps_fldG CL_Store N_Store_level (pv 0) (pe_op op_add (pe_fldG CL_Store N_Store_level (pv 0)) (pv 3)))
  (pss_one (ps_expr (pe_appG (pv 1) (pe_tupG (pa_c (pv 2) (pa_c pe_str (pa_c (pv 3) pa_nil)))))))))
  (pss_one (ps_ret (pv 1)))))))))), ?_⟩
  walk_at "rd"
  intro r H1 hr1 g1 h1
  refine ⟨TbI C a g p r ss H, ⟨ss.gets.length + ss.puts.length, ?_⟩, ?_⟩
  · unfold TbI
    have b := tl
    obtain ⟨_, _, _, _, _, _, _, _, _, b1, b2⟩ := b
    exact ⟨[], [], ss, _, _, rfl, fun c u _ _ _ hc => g1 _ _ hc, h1, .nil, tl.same g1, fun its z h => h, by simp only [List.length_nil]; omega, rfl⟩
  · intro m σ H2 z
    unfold TbI at z
    obtain ⟨sv, dn, s', v2, v3, rfl, f3, h2, sd, tl', rel, bd, rfl⟩ := z
    obtain ⟨dx, gs, ps, k1, k2, k3, k4, k5, k6, k7, k8⟩ := id tl'
    clear h1
    walk_at "rd"
    have no : stp s' = none → Q (.ref r) H2 := fun e => q r H2 sv dn s' hr1 f3 h2 sd tl' (by have := rel [] s' (.done e); rw [List.append_nil] at this; exact this)
    refine ⟨fun σ' H' => ∃ m', m' < s'.gets.length + s'.puts.length ∧ TbI C a g p r ss H m' σ' H', fun _ _ z => z, !gs.isEmpty, tru_lst k2, ?_⟩
    have nra : r ≠ a ∧ r ≠ g ∧ r ≠ p := by
      obtain ⟨_, _, _, ka, kg, _, kp, _⟩ := tl
      exact ⟨fun z => (by rw [z, ka] at hr1; cases hr1), fun z => (by rw [z, kg] at hr1; cases hr1), fun z => (by rw [z, kp] at hr1; cases hr1)⟩
    have nag : a ≠ g := fun z => by rw [z, k2] at k1; cases k1
    have nap : a ≠ p := fun z => by rw [z, k4] at k1; cases k1
    have ls := sd.length
    have k3s := k3
    have k7s := k7
    cases hg : s'.gets with
    | nil =>
      have eg := congrArg List.length hg
      rw [List.length_nil] at eg
      rw [hg] at k3
      cases k3
      have eP : stp s' = stpP s' := by unfold stp; rw [hg]
      refine iteF ?_
      refine ⟨!ps.isEmpty, tru_lst k4, ?_⟩
      cases hpu : s'.puts with
      | nil =>
        rw [hpu] at k5
        cases k5
        exact iteF (no (by rw [eP]; unfold stpP; rw [hpu]))
      | cons p1 pu =>
        obtain ⟨h', n'⟩ := p1
        rw [hpu] at k5
        cases k5 with
        | cons hq0 qr0 =>
        rename_i pb ps'
        refine iteT ⟨_, atI_0, _, rfl, _, .inl hq0, _, atI_1, _, rfl, ite2 (fun c2 => ?_) fun c2 => no (by rw [eP]; unfold stpP; rw [hpu]; show (if s'.level + n' ≤ s'.most then _ else _) = _; rw [if_neg c2])⟩
        have lp := qr0.length
        have ep := congrArg List.length hpu
        rw [List.length_cons] at ep
        refine ⟨⟨_, SqL.of k4⟩, by simp only [List.length_cons]; omega, by simp only [List.length_cons]; omega, _, rfl, fun H3 m3 => ?_⟩
        have npb : pb ≠ p := (tl'.ne pb _ hq0).2.2
        have hq3 := m3.old hq0 npb
        have a3 := m3.old k1 nap
        refine ⟨pb, rfl, _, hq3, rfl, _, _, rfl, _, _, rfl, rfl, ?_⟩
        walk_at "rd"
        intro H4 m4
        have h4r := m4.old (m3.old h2 nra.2.2) nra.1
        refine ⟨sv, h4r, fun p5 H5 hp5 g5 h5 => ⟨sv, g5 _ _ h4r, by omega, fun H6 m6 => ⟨s'.gets.length + pu.length, by omega, ?_⟩⟩⟩
        have kt6 : ∀ c xs, H2 c = some (.tup xs) → H6 c = some (.tup xs) := fun c xs hc => m6.old (g5 _ _ (m4.old (m3.old hc (tl'.ne c xs hc).2.2) (tl'.ne c xs hc).1)) (fun z => by rw [z, h2] at hc; cases hc)
        have np5 : p5 ≠ r := (ne_of_none h4r hp5).symm
        unfold TbI
        refine ⟨sv ++ [.ref p5], dn ++ [(h', false, n')], ⟨s'.level + n', s'.most, s'.gets, pu⟩, _, _, rfl, fun c u n1 n2 n3 hc => m6.old (g5 _ _ (m4.old (m3.old (f3 c u n1 n2 n3 hc) n3) n1)) (ne_of_none hc hr1), m6.at_, (sd.mono kt6).snoc (b := false) (m6.old h5 np5), ⟨dx, _, ps', m6.old (g5 _ _ m4.at_) (Ne.symm nra.1), m6.old (g5 _ _ (m4.old (m3.old k2 k6) (Ne.symm nag))) (Ne.symm nra.2.1), k3s.mono kt6, m6.old (g5 _ _ (m4.old m3.at_ (Ne.symm nap))) (Ne.symm nra.2.2), qr0.mono kt6, k6, k7s, by show pu.length ≤ 100; omega⟩, fun its z hz => ?_, ?_, rfl⟩
        · rw [List.append_assoc]
          exact rel _ _ (.step (by rw [eP]; unfold stpP; rw [hpu]; show (if s'.level + n' ≤ s'.most then _ else _) = _; rw [if_pos c2]) hz)
        · show (dn ++ [(h', false, n')]).length + s'.gets.length + pu.length ≤ 200
          rw [List.length_append, List.length_singleton]
          omega
    | cons p0 gu =>
      obtain ⟨h, n⟩ := p0
      have eg := congrArg List.length hg
      rw [List.length_cons] at eg
      rw [hg] at k3
      cases k3 with
      | cons hp0 pr0 =>
      rename_i pa gs'
      refine iteT ⟨_, atI_0, _, rfl, _, .inl hp0, _, atI_1, _, rfl, ite2 (fun c => ?_) fun c => ?_⟩
      · have lg := pr0.length
        rw [hg, List.length_cons] at k7
        refine ⟨⟨_, SqL.of k2⟩, by simp only [List.length_cons]; omega, by simp only [List.length_cons]; omega, _, rfl, fun H3 m3 => ?_⟩
        have npa : pa ≠ g := (tl'.ne pa _ hp0).2.1
        have hp3 := m3.old hp0 npa
        have a3 := m3.old k1 nag
        refine ⟨pa, rfl, _, hp3, rfl, _, _, rfl, _, _, rfl, rfl, ?_⟩
        walk_at "rd"
        intro H4 m4
        have h4r := m4.old (m3.old h2 nra.2.1) nra.1
        refine ⟨sv, h4r, fun p5 H5 hp5 g5 h5 => ⟨sv, g5 _ _ h4r, by omega, fun H6 m6 => ⟨gu.length + s'.puts.length, by omega, ?_⟩⟩⟩
        have kt6 : ∀ c xs, H2 c = some (.tup xs) → H6 c = some (.tup xs) := fun c xs hc => m6.old (g5 _ _ (m4.old (m3.old hc (tl'.ne c xs hc).2.1) (tl'.ne c xs hc).1)) (fun z => by rw [z, h2] at hc; cases hc)
        have np5 : p5 ≠ r := (ne_of_none h4r hp5).symm
        unfold TbI
        refine ⟨sv ++ [.ref p5], dn ++ [(h, true, n)], ⟨s'.level - n, s'.most, gu, s'.puts⟩, _, _, rfl, fun c u n1 n2 n3 hc => m6.old (g5 _ _ (m4.old (m3.old (f3 c u n1 n2 n3 hc) n2) n1)) (ne_of_none hc hr1), m6.at_, (sd.mono kt6).snoc (b := true) (m6.old h5 np5), ⟨dx, gs', ps, m6.old (g5 _ _ m4.at_) (Ne.symm nra.1), m6.old (g5 _ _ (m4.old m3.at_ (Ne.symm nag))) (Ne.symm nra.2.1), pr0.mono kt6, m6.old (g5 _ _ (m4.old (m3.old k4 (Ne.symm k6)) (Ne.symm nap))) (Ne.symm nra.2.2), k5.mono kt6, k6, by show gu.length ≤ 100; omega, k8⟩, fun its z hz => ?_, ?_, rfl⟩
        · rw [List.append_assoc]
          exact rel _ _ (.step (by unfold stp; rw [hg]; show (if n ≤ s'.level then _ else _) = _; rw [if_pos c]) hz)
        · show (dn ++ [(h, true, n)]).length + gu.length + s'.puts.length ≤ 200
          rw [List.length_append, List.length_singleton]
          omega
      · have eP : stp s' = stpP s' := by unfold stp; rw [hg]; show (if n ≤ s'.level then _ else _) = _; rw [if_neg c]
        refine ⟨!ps.isEmpty, tru_lst k4, ?_⟩
        cases hpu : s'.puts with
        | nil =>
          rw [hpu] at k5
          cases k5
          exact iteF (no (by rw [eP]; unfold stpP; rw [hpu]))
        | cons p1 pu =>
          obtain ⟨h', n'⟩ := p1
          rw [hpu] at k5
          cases k5 with
          | cons hq0 qr0 =>
          rename_i pb ps'
          refine iteT ⟨_, atI_0, _, rfl, _, .inl hq0, _, atI_1, _, rfl, ite2 (fun c2 => ?_) fun c2 => no (by rw [eP]; unfold stpP; rw [hpu]; show (if s'.level + n' ≤ s'.most then _ else _) = _; rw [if_neg c2])⟩
          have lp := qr0.length
          have ep := congrArg List.length hpu
          rw [List.length_cons] at ep
          refine ⟨⟨_, SqL.of k4⟩, by simp only [List.length_cons]; omega, by simp only [List.length_cons]; omega, _, rfl, fun H3 m3 => ?_⟩
          have npb : pb ≠ p := (tl'.ne pb _ hq0).2.2
          have hq3 := m3.old hq0 npb
          have a3 := m3.old k1 nap
          refine ⟨pb, rfl, _, hq3, rfl, _, _, rfl, _, _, rfl, rfl, ?_⟩
          walk_at "rd"
          intro H4 m4
          have h4r := m4.old (m3.old h2 nra.2.2) nra.1
          refine ⟨sv, h4r, fun p5 H5 hp5 g5 h5 => ⟨sv, g5 _ _ h4r, by omega, fun H6 m6 => ⟨s'.gets.length + pu.length, by omega, ?_⟩⟩⟩
          have kt6 : ∀ c xs, H2 c = some (.tup xs) → H6 c = some (.tup xs) := fun c xs hc => m6.old (g5 _ _ (m4.old (m3.old hc (tl'.ne c xs hc).2.2) (tl'.ne c xs hc).1)) (fun z => by rw [z, h2] at hc; cases hc)
          have np5 : p5 ≠ r := (ne_of_none h4r hp5).symm
          unfold TbI
          refine ⟨sv ++ [.ref p5], dn ++ [(h', false, n')], ⟨s'.level + n', s'.most, s'.gets, pu⟩, _, _, rfl, fun c u n1 n2 n3 hc => m6.old (g5 _ _ (m4.old (m3.old (f3 c u n1 n2 n3 hc) n3) n1)) (ne_of_none hc hr1), m6.at_, (sd.mono kt6).snoc (b := false) (m6.old h5 np5), ⟨dx, _, ps', m6.old (g5 _ _ m4.at_) (Ne.symm nra.1), m6.old (g5 _ _ (m4.old (m3.old k2 k6) (Ne.symm nag))) (Ne.symm nra.2.1), k3s.mono kt6, m6.old (g5 _ _ (m4.old m3.at_ (Ne.symm nap))) (Ne.symm nra.2.2), qr0.mono kt6, k6, k7s, by show pu.length ≤ 100; omega⟩, fun its z hz => ?_, ?_, rfl⟩
          · rw [List.append_assoc]
            exact rel _ _ (.step (by rw [eP]; unfold stpP; rw [hpu]; show (if s'.level + n' ≤ s'.most then _ else _) = _; rw [if_pos c2]) hz)
          · show (dn ++ [(h', false, n')]).length + s'.gets.length + pu.length ≤ 200
            rw [List.length_append, List.length_singleton]
            omega
end
end K24

set_option Elab.async false
set_option linter.all false
set_option maxRecDepth 100000
set_option maxHeartbeats 4000000
namespace K24
open PySem L2
def takeS (t : TS) (h n : Int) : Bool × TS := if t.que ≠ [] ∨ t.free < n then (false, ⟨t.free, t.held, t.que ++ [(h, n)]⟩) else (true, outS t h n)
def giv (t : TS) (h n : Int) : Int := if getI t.held h < n then getI t.held h else n
def giveS (t : TS) (h n : Int) : List (Int × Int) × TS := srv t.que (outS t h (-(giv t h n)))
def PutR (s : SS) (h n : Int) (b : Bool) (its : List (Int × Bool × Int)) (s' : SS) : Prop := if s.puts ≠ [] ∨ s.most < s.level + n then b = false ∧ its = [] ∧ s' = ⟨s.level, s.most, s.gets, s.puts ++ [(h, n)]⟩ else b = true ∧ Sbt ⟨s.level + n, s.most, s.gets, s.puts⟩ its s'
def GetR (s : SS) (h n : Int) (b : Bool) (its : List (Int × Bool × Int)) (s' : SS) : Prop := if s.gets ≠ [] ∨ s.level < n then b = false ∧ its = [] ∧ s' = ⟨s.level, s.most, s.gets ++ [(h, n)], s.puts⟩ else b = true ∧ Sbt ⟨s.level - n, s.most, s.gets, s.puts⟩ its s'
section
variable {P : Program} {w : World} {K : PySem.W.Frag} {mg : Str → Option Value} {base : Heap}
def spTake (CG CT : Addr) : Sp := fun vs H Q _ => ∃ (g dx dt a d q : Addr) (x : V) (kv : List (Key × V)) (nm : Str) (h n : Int) (t : TS), vs = [.ref g, .int h, .str nm, .int n] ∧ H g = some (.ins CG dx [("by_tool", .ref dt), ("by_store", x)]) ∧ H dt = some (.dK kv) ∧ valV kv (Sum.inr nm) = some (.ref a) ∧ TlO CT H a d q t ∧ t.held.length < 50 ∧ t.que.length < 100 ∧
  ∀ (H' : Hp), Fr3 a d q H H' → TlO CT H' a d q (takeS t h n).2 → Q (.bl (takeS t h n).1) H'
theorem ok_take {CG CT : Addr} (D : MethAt K CG "take" "Goods.take" s_Goods_take ["self", "hand", "name", "n"]) (CL_Goods : Cls K CG) (N_Goods_by_tool : NoAttr K CG "by_tool") (CL_Tool : Cls K CT) (N_Tool_free : NoAttr K CT "free") (N_Tool_queue : NoAttr K CT "queue") (G_hand_out : OkD P w K mg base 1 "hand_out" ["tool", "hand", "n"] (spOut CT)) : OkM P w K mg base 2 CG "take" ["self", "hand", "name", "n"] (spTake CG CT) := by
  refine D.ok CL_Goods sc_Goods_take (fun vs H Q E h => ?_) (fun f cdv A outer s H vs Q E hr h => ?_)
  · obtain ⟨_, _, _, _, _, _, _, _, _, _, _, _, rfl, _⟩ := h; rfl
  obtain ⟨g, dx, dt, a, d, q0, x, kv, nm, h, n, t, rfl, e1, e2, e3, tl, b1, b2, q⟩ := h
  have hu := hu_of hr
  have big : 100000 ≤ sizeLine := by unfold sizeLine; decide
  obtain ⟨dx', qs, k1, k2, k3, k4, k5, k6, k7⟩ := id tl
  have lq := k4.length
  refine ⟨_, (pss_cons (ps_set (i := 4) sc_Goods_take.nd rfl (Or.inl rfl) (pe_dgetG hu (pe_fldG CL_Goods N_Goods_by_tool (pv 0)) (pv 2) (fun _ _ => rfl)))
  (pss_cons (ps_if (PW.pt (pw_or (pt_truth (pe_fldG CL_Tool N_Tool_queue (pv 4)) (fun _ => rfl)) (pw_or1 (pt_cmpR op_lt (pe_fldG CL_Tool N_Tool_free (pv 4)) (pv 3) (nomark _)))))
  (pss_cons (ps_expr (pe_appG (pe_fldG CL_Tool N_Tool_queue (pv 4)) (pe_tupG (pa_c (pv 1) (pa_c (pv 3) pa_nil)))))
  (pss_one (ps_ret pe_bl)))
  pss_nil)
  (pss_cons (ps_expr (pe_def G_hand_out hr rfl (pa_c (pv 4) (pa_c (pv 1) (pa_c (pv 3) pa_nil)))))
  (pss_one (ps_ret pe_bl))))), ?_⟩
  walk_at "rd"
  have wait : (t.que ≠ [] ∨ t.free < n) → ∀ (p : Addr) (H1 : Hp), H p = none → Same H H1 → H1 p = some (.tup [.int h, .int n]) → ∃ ys, H1 q0 = some (.lst ys) ∧ ys.length < sizeLine ∧ ∀ H3, Mu H1 q0 (.lst (ys ++ [.ref p])) H3 → Q (.bl false) H3 := fun c p H1 hp g1 h1 => by
    refine ⟨qs, g1 _ _ k3, by omega, fun H3 m3 => ?_⟩
    have et : takeS t h n = (false, ⟨t.free, t.held, t.que ++ [(h, n)]⟩) := by unfold takeS; rw [if_pos c]
    rw [et] at q
    have nq : ∀ c u, c ≠ q0 → H c = some u → H3 c = some u := fun c u nc hc => m3.old (g1 _ _ hc) nc
    have naq : a ≠ q0 := fun z => by rw [z, k3] at k1; cases k1
    have ndq : d ≠ q0 := fun z => by rw [z, k3] at k2; cases k2
    have npq : p ≠ q0 := (ne_of_none k3 hp).symm
    refine q H3 (fun c u _ _ n3 hc => nq c u n3 hc) ⟨dx', qs ++ [.ref p], nq _ _ naq k1, nq _ _ ndq k2, m3.at_, (k4.mono fun c xs hc => nq c _ (tl.ne c xs hc).2.2 hc).snoc (m3.old h1 npq), k5, k6, ?_⟩
    show (t.que ++ [(h, n)]).length ≤ 100
    rw [List.length_append, List.length_singleton]; omega
  refine ⟨!qs.isEmpty, tru_lst k3, ?_⟩
  cases hq : qs with
  | cons v0 qs' =>
    have nq : t.que ≠ [] := fun z => by rw [z] at lq; rw [hq] at lq; cases lq
    exact iteT (wait (.inl nq))
  | nil =>
    have nq : t.que = [] := by
      rw [hq] at lq
      exact List.eq_nil_of_length_eq_zero lq.symm
    refine iteF (ite2 (fun c => ?_) fun c => ?_)
    · exact wait (.inr c)
    · have et : takeS t h n = (true, outS t h n) := by unfold takeS; rw [if_neg (fun z => z.elim (fun z => z nq) c)]
      rw [et] at q
      exact ⟨a, d, q0, t, h, n, rfl, tl, b1, fun H1 f1 t1 => q H1 f1 t1⟩
def spGive (CG CT : Addr) : Sp := fun vs H Q _ => ∃ (g dx dt a d q : Addr) (x : V) (kv : List (Key × V)) (nm : Str) (h n : Int) (t : TS), vs = [.ref g, .int h, .str nm, .int n] ∧ H g = some (.ins CG dx [("by_tool", .ref dt), ("by_store", x)]) ∧ H dt = some (.dK kv) ∧ valV kv (Sum.inr nm) = some (.ref a) ∧ TlO CT H a d q t ∧ t.held.length + t.que.length < 50 ∧
  ∀ (H' : Hp) (p r : Addr) (sv : List V), Fr3 a d q H H' → H r = none → H' p = some (.tup [.int (giv t h n), .ref r]) → H' r = some (.lst sv) → Svd "takes" H' sv (giveS t h n).1 → TlO CT H' a d q (giveS t h n).2 → Q (.ref p) H'
theorem ok_give {CG CT : Addr} (D : MethAt K CG "give" "Goods.give" s_Goods_give ["self", "hand", "name", "n"]) (CL_Goods : Cls K CG) (N_Goods_by_tool : NoAttr K CG "by_tool") (CL_Tool : Cls K CT) (N_Tool_held : NoAttr K CT "held") (G_hand_in : OkD P w K mg base 2 "hand_in" ["tool", "hand", "n"] (spIn CT)) (G_serve_takers : OkD P w K mg base 2 "serve_takers" ["tool"] (spServe CT)) (hmin : mg "min" = none) : OkM P w K mg base 3 CG "give" ["self", "hand", "name", "n"] (spGive CG CT) := by
  refine D.ok CL_Goods sc_Goods_give (fun vs H Q E h => ?_) (fun f cdv A outer s H vs Q E hr h => ?_)
  · obtain ⟨_, _, _, _, _, _, _, _, _, _, _, _, rfl, _⟩ := h; rfl
  obtain ⟨g, dx, dt, a, d, q0, x, kv, nm, h, n, t, rfl, e1, e2, e3, tl, b1, q⟩ := h
  have hu := hu_of hr
  obtain ⟨dx', qs, k1, k2, k3, k4, k5, k6, k7⟩ := id tl
  refine ⟨_, (pss_cons (ps_set (i := 4) sc_Goods_give.nd rfl (Or.inl rfl) (pe_dgetG hu (pe_fldG CL_Goods N_Goods_by_tool (pv 0)) (pv 2) (fun _ _ => rfl)))
  (pss_cons (ps_set (i := 5) sc_Goods_give.nd rfl (Or.inl rfl) (pe_cB (call_min2 rfl) rfl hmin (by decide +kernel) (pa_c (pv 3) (pa_c (pe_dgetDG hu (pe_fldG CL_Tool N_Tool_held (pv 4)) (pv 1) pe_int ⟨rfl, rfl, rfl, rfl⟩) pa_nil))))
  (pss_cons (ps_expr (pe_def G_hand_in hr rfl (pa_c (pv 4) (pa_c (pv 1) (pa_c (pv 5) pa_nil)))))
  (pss_one (ps_ret (pe_tupG (pa_c (pv 5) (pa_c (pe_def G_serve_takers hr rfl (pa_c (pv 4) pa_nil)) pa_nil)))))))), ?_⟩
  walk_at "rd"
  refine ⟨⟨_, rfl⟩, _, hk_get _, ?_⟩
  obtain ⟨p1, p2, p3⟩ := putI_keys (h := h) (x := getI t.held h + -(giv t h n)) t.held k5
  refine ⟨a, d, q0, t, h, giv t h n, rfl, tl, by omega, fun H1 f1 t1 => ?_⟩
  refine ⟨a, d, q0, outS t h (-(giv t h n)), rfl, t1, by show (putI t.held h (getI t.held h + -(giv t h n))).length + t.que.length ≤ 50; omega, fun r H2 sv hr2 f2 h2 sd t2 => ?_⟩
  intro p H3 hp g3 h3
  have hr0 : H r = none := by
    cases z : H r with
    | none => rfl
    | some u =>
      obtain ⟨dx1, qs1, j1, j2, j3, _⟩ := t1
      have := f1 r u (fun e => by rw [e, j1] at hr2; cases hr2) (fun e => by rw [e, j2] at hr2; cases hr2) (fun e => by rw [e, j3] at hr2; cases hr2) z
      rw [this] at hr2; cases hr2
  exact q H3 p r sv ((f1.trans f2).trans fun c u _ _ _ hc => g3 _ _ hc) hr0 h3 (g3 _ _ h2) (sd.mono fun c xs hc => g3 _ _ hc) (t2.same g3)
def spPut (CG CS : Addr) : Sp := fun vs H Q _ => ∃ (g dx ds a gg pp : Addr) (x : V) (kv : List (Key × V)) (nm : Str) (h n : Int) (s : SS), vs = [.ref g, .int h, .str nm, .int n] ∧ H g = some (.ins CG dx [("by_tool", x), ("by_store", .ref ds)]) ∧ H ds = some (.dK kv) ∧ valV kv (Sum.inr nm) = some (.ref a) ∧ StO CS H a gg pp s ∧ s.gets.length < 100 ∧ s.puts.length < 100 ∧
  ∀ (H' : Hp) (p r : Addr) (sv : List V) (b : Bool) (its : List (Int × Bool × Int)) (s' : SS), Fr3 a gg pp H H' → H r = none → H' p = some (.tup [.bl b, .ref r]) → H' r = some (.lst sv) → Sv3 H' sv its → StO CS H' a gg pp s' → PutR s h n b its s' → Q (.ref p) H'
theorem ok_put {CG CS : Addr} (D : MethAt K CG "put" "Goods.put" s_Goods_put ["self", "hand", "name", "n"]) (CL_Goods : Cls K CG) (N_Goods_by_store : NoAttr K CG "by_store") (CL_Store : Cls K CS) (N_Store_level : NoAttr K CS "level") (N_Store_most : NoAttr K CS "most") (N_Store_putters : NoAttr K CS "putters") (G_serve_by_turns : OkD P w K mg base 1 "serve_by_turns" ["store"] (spTurns CS)) : OkM P w K mg base 2 CG "put" ["self", "hand", "name", "n"] (spPut CG CS) := by
  refine D.ok CL_Goods sc_Goods_put (fun vs H Q E h => ?_) (fun f cdv A outer s H vs Q E hr h => ?_)
  · obtain ⟨_, _, _, _, _, _, _, _, _, _, _, _, rfl, _⟩ := h; rfl
  obtain ⟨g, dx, ds, a, gg, pp, x, kv, nm, h, n, ss, rfl, e1, e2, e3, tl, b1, b2, q⟩ := h
  have hu := hu_of hr
  have big : 100000 ≤ sizeLine := by unfold sizeLine; decide
  obtain ⟨dx', gs, ps, k1, k2, k3, k4, k5, k6, k7, k8⟩ := id tl
  have lq := k5.length
  have nag : gg ≠ a := fun z => by rw [z, k1] at k2; cases k2
  have nap : pp ≠ a := fun z => by rw [z, k1] at k4; cases k4
  refine ⟨_, (pss_cons (ps_set (i := 4) sc_Goods_put.nd rfl (Or.inl rfl) (pe_dgetG hu (pe_fldG CL_Goods N_Goods_by_store (pv 0)) (pv 2) (fun _ _ => rfl)))
  (pss_cons (ps_if (PW.pt (pw_or (pt_truth (pe_fldG CL_Store N_Store_putters (pv 4)) (fun _ => rfl)) (pw_or1 (pt_cmpR op_gt (pe_op op_add (pe_fldG CL_Store N_Store_level (pv 4)) (pv 3)) (pe_fldG CL_Store N_Store_most (pv 4)) (nomark _)))))
  (pss_cons (ps_expr (pe_appG (pe_fldG CL_Store N_Store_putters (pv 4)) (pe_tupG (pa_c (pv 1) (pa_c (pv 3) pa_nil)))))
  (pss_one (ps_ret (pe_tupG (pa_c pe_bl (pa_c (pe_lstG pa_nil) pa_nil))))))
  pss_nil)
  (pss_cons (ps_fldG CL_Store N_Store_level (pv 4) (pe_op op_add (pe_fldG CL_Store N_Store_level (pv 4)) (pv 3)))
  (pss_one (ps_ret (pe_tupG (pa_c pe_bl (pa_c (pe_def G_serve_by_turns hr rfl (pa_c (pv 4) pa_nil)) pa_nil)))))))), ?_⟩
  walk_at "rd"
  have wait : (ss.puts ≠ [] ∨ ss.most < ss.level + n) → ∀ (p : Addr) (H1 : Hp), H p = none → Same H H1 → H1 p = some (.tup [.int h, .int n]) → ∃ ys, H1 pp = some (.lst ys) ∧ ys.length < sizeLine ∧ ∀ H3, Mu H1 pp (.lst (ys ++ [.ref p])) H3 → ∀ (r : Addr) (H4 : Hp), H3 r = none → Same H3 H4 → H4 r = some (.lst []) → ∀ (p2 : Addr) (H5 : Hp), H4 p2 = none → Same H4 H5 → H5 p2 = some (.tup [.bl false, .ref r]) → Q (.ref p2) H5 := fun c p H1 hp g1 h1 => by
    refine ⟨ps, g1 _ _ k4, by omega, fun H3 m3 r H4 hr4 g4 h4 p2 H5 hp2 g5 h5 => ?_⟩
    have nq : ∀ c u, c ≠ pp → H c = some u → H3 c = some u := fun c u nc hc => m3.old (g1 _ _ hc) nc
    have npq : p ≠ pp := (ne_of_none k4 hp).symm
    have nrp : r ≠ pp := (ne_of_none m3.at_ hr4).symm
    have hr0 : H r = none := g1.free (by rw [← m3.else_ r nrp]; exact hr4)
    refine q H5 p2 r [] false [] ⟨ss.level, ss.most, ss.gets, ss.puts ++ [(h, n)]⟩ (fun c u _ _ n3 hc => g5 _ _ (g4 _ _ (nq c u n3 hc))) hr0 h5 (g5 _ _ h4) .nil (StO.same (g4.trans g5) ⟨dx', gs, ps ++ [.ref p], nq _ _ (Ne.symm nap) k1, nq _ _ k6 k2, k3.mono fun c xs hc => nq c _ (tl.ne c xs hc).2.2 hc, m3.at_, (k5.mono fun c xs hc => nq c _ (tl.ne c xs hc).2.2 hc).snoc (m3.old h1 npq), k6, k7, ?_⟩) ?_
    · show (ss.puts ++ [(h, n)]).length ≤ 100
      rw [List.length_append, List.length_singleton]; omega
    · unfold PutR
      rw [if_pos c]
      exact ⟨rfl, rfl, rfl⟩
  refine ⟨!ps.isEmpty, tru_lst k4, ?_⟩
  cases hq : ps with
  | cons v0 qs' =>
    have nq : ss.puts ≠ [] := fun z => by rw [z] at lq; rw [hq] at lq; cases lq
    exact iteT (wait (.inl nq))
  | nil =>
    have nq : ss.puts = [] := by
      rw [hq] at lq
      exact List.eq_nil_of_length_eq_zero lq.symm
    refine iteF (ite2 (fun c => ?_) fun c => ?_)
    · exact wait (.inr c)
    · intro H1 m1
      have kt : ∀ c xs, H c = some (.tup xs) → H1 c = some (.tup xs) := fun c xs hc => m1.old hc (tl.ne c xs hc).1
      have t1 : StO CS H1 a gg pp ⟨ss.level + n, ss.most, ss.gets, ss.puts⟩ := ⟨dx', gs, ps, m1.at_, m1.old k2 nag, k3.mono kt, m1.old k4 nap, k5.mono kt, k6, k7, k8⟩
      refine ⟨a, gg, pp, ⟨ss.level + n, ss.most, ss.gets, ss.puts⟩, rfl, t1, fun r H2 sv its s' hr2 f2 h2 sd t2 sb => ?_⟩
      intro p H3 hp g3 h3
      have nra : r ≠ a := (ne_of_none m1.at_ hr2).symm
      have hr0 : H r = none := by rw [← m1.else_ r nra]; exact hr2
      refine q H3 p r sv true its s' (fun c u n1 n2 n3 hc => g3 _ _ (f2 c u n1 n2 n3 (m1.old hc n1))) hr0 h3 (g3 _ _ h2) (sd.mono fun c xs hc => g3 _ _ hc) (t2.same g3) ?_
      unfold PutR
      rw [if_neg (fun z => z.elim (fun z => z nq) c)]
      exact ⟨rfl, sb⟩
def spGet (CG CS : Addr) : Sp := fun vs H Q _ => ∃ (g dx ds a gg pp : Addr) (x : V) (kv : List (Key × V)) (nm : Str) (h n : Int) (s : SS), vs = [.ref g, .int h, .str nm, .int n] ∧ H g = some (.ins CG dx [("by_tool", x), ("by_store", .ref ds)]) ∧ H ds = some (.dK kv) ∧ valV kv (Sum.inr nm) = some (.ref a) ∧ StO CS H a gg pp s ∧ s.gets.length < 100 ∧ s.puts.length < 100 ∧
  ∀ (H' : Hp) (p r : Addr) (sv : List V) (b : Bool) (its : List (Int × Bool × Int)) (s' : SS), Fr3 a gg pp H H' → H r = none → H' p = some (.tup [.bl b, .ref r]) → H' r = some (.lst sv) → Sv3 H' sv its → StO CS H' a gg pp s' → GetR s h n b its s' → Q (.ref p) H'
theorem ok_get {CG CS : Addr} (D : MethAt K CG "get" "Goods.get" s_Goods_get ["self", "hand", "name", "n"]) (CL_Goods : Cls K CG) (N_Goods_by_store : NoAttr K CG "by_store") (CL_Store : Cls K CS) (N_Store_level : NoAttr K CS "level") (N_Store_getters : NoAttr K CS "getters") (G_serve_by_turns : OkD P w K mg base 1 "serve_by_turns" ["store"] (spTurns CS)) : OkM P w K mg base 2 CG "get" ["self", "hand", "name", "n"] (spGet CG CS) := by
  refine D.ok CL_Goods sc_Goods_get (fun vs H Q E h => ?_) (fun f cdv A outer s H vs Q E hr h => ?_)
  · obtain ⟨_, _, _, _, _, _, _, _, _, _, _, _, rfl, _⟩ := h; rfl
  obtain ⟨g, dx, ds, a, gg, pp, x, kv, nm, h, n, ss, rfl, e1, e2, e3, tl, b1, b2, q⟩ := h
  have hu := hu_of hr
  have big : 100000 ≤ sizeLine := by unfold sizeLine; decide
  obtain ⟨dx', gs, ps, k1, k2, k3, k4, k5, k6, k7, k8⟩ := id tl
  have lq := k3.length
  have nag : gg ≠ a := fun z => by rw [z, k1] at k2; cases k2
  have nap : pp ≠ a := fun z => by rw [z, k1] at k4; cases k4
  refine ⟨_, (pss_cons (ps_set (i := 4) sc_Goods_get.nd rfl (Or.inl rfl) (pe_dgetG hu (pe_fldG CL_Goods N_Goods_by_store (pv 0)) (pv 2) (fun _ _ => rfl)))
  (pss_cons (ps_if (PW.pt (pw_or (pt_truth (pe_fldG CL_Store N_Store_getters (pv 4)) (fun _ => rfl)) (pw_or1 (pt_cmpR op_lt (pe_fldG CL_Store N_Store_level (pv 4)) (pv 3) (nomark _)))))
  (pss_cons (ps_expr (pe_appG (pe_fldG CL_Store N_Store_getters (pv 4)) (pe_tupG (pa_c (pv 1) (pa_c (pv 3) pa_nil)))))
  (pss_one (ps_ret (pe_tupG (pa_c pe_bl (pa_c (pe_lstG pa_nil) pa_nil))))))
  pss_nil)
  (pss_cons (ps_fldG CL_Store N_Store_level (pv 4) (pe_op op_sub (pe_fldG CL_Store N_Store_level (pv 4)) (pv 3)))
  (pss_one (ps_ret (pe_tupG (pa_c pe_bl (pa_c (pe_def G_serve_by_turns hr rfl (pa_c (pv 4) pa_nil)) pa_nil)))))))), ?_⟩
  walk_at "rd"
  have wait : (ss.gets ≠ [] ∨ ss.level < n) → ∀ (p : Addr) (H1 : Hp), H p = none → Same H H1 → H1 p = some (.tup [.int h, .int n]) → ∃ ys, H1 gg = some (.lst ys) ∧ ys.length < sizeLine ∧ ∀ H3, Mu H1 gg (.lst (ys ++ [.ref p])) H3 → ∀ (r : Addr) (H4 : Hp), H3 r = none → Same H3 H4 → H4 r = some (.lst []) → ∀ (p2 : Addr) (H5 : Hp), H4 p2 = none → Same H4 H5 → H5 p2 = some (.tup [.bl false, .ref r]) → Q (.ref p2) H5 := fun c p H1 hp g1 h1 => by
    refine ⟨gs, g1 _ _ k2, by omega, fun H3 m3 r H4 hr4 g4 h4 p2 H5 hp2 g5 h5 => ?_⟩
    have nq : ∀ c u, c ≠ gg → H c = some u → H3 c = some u := fun c u nc hc => m3.old (g1 _ _ hc) nc
    have npq : p ≠ gg := (ne_of_none k2 hp).symm
    have nrp : r ≠ gg := (ne_of_none m3.at_ hr4).symm
    have hr0 : H r = none := g1.free (by rw [← m3.else_ r nrp]; exact hr4)
    refine q H5 p2 r [] false [] ⟨ss.level, ss.most, ss.gets ++ [(h, n)], ss.puts⟩ (fun c u _ n2 _ hc => g5 _ _ (g4 _ _ (nq c u n2 hc))) hr0 h5 (g5 _ _ h4) .nil (StO.same (g4.trans g5) ⟨dx', gs ++ [.ref p], ps, nq _ _ (Ne.symm nag) k1, m3.at_, (k3.mono fun c xs hc => nq c _ (tl.ne c xs hc).2.1 hc).snoc (m3.old h1 npq), nq _ _ (Ne.symm k6) k4, k5.mono fun c xs hc => nq c _ (tl.ne c xs hc).2.1 hc, k6, ?_, k8⟩) ?_
    · show (ss.gets ++ [(h, n)]).length ≤ 100
      rw [List.length_append, List.length_singleton]; omega
    · unfold GetR
      rw [if_pos c]
      exact ⟨rfl, rfl, rfl⟩
  refine ⟨!gs.isEmpty, tru_lst k2, ?_⟩
  cases hq : gs with
  | cons v0 qs' =>
    have nq : ss.gets ≠ [] := fun z => by rw [z] at lq; rw [hq] at lq; cases lq
    exact iteT (wait (.inl nq))
  | nil =>
    have nq : ss.gets = [] := by
      rw [hq] at lq
      exact List.eq_nil_of_length_eq_zero lq.symm
    refine iteF (ite2 (fun c => ?_) fun c => ?_)
    · exact wait (.inr c)
    · intro H1 m1
      have kt : ∀ c xs, H c = some (.tup xs) → H1 c = some (.tup xs) := fun c xs hc => m1.old hc (tl.ne c xs hc).1
      have t1 : StO CS H1 a gg pp ⟨ss.level - n, ss.most, ss.gets, ss.puts⟩ := ⟨dx', gs, ps, m1.at_, m1.old k2 nag, k3.mono kt, m1.old k4 nap, k5.mono kt, k6, k7, k8⟩
      refine ⟨a, gg, pp, ⟨ss.level - n, ss.most, ss.gets, ss.puts⟩, rfl, t1, fun r H2 sv its s' hr2 f2 h2 sd t2 sb => ?_⟩
      intro p H3 hp g3 h3
      have nra : r ≠ a := (ne_of_none m1.at_ hr2).symm
      have hr0 : H r = none := by rw [← m1.else_ r nra]; exact hr2
      refine q H3 p r sv true its s' (fun c u n1 n2 n3 hc => g3 _ _ (f2 c u n1 n2 n3 (m1.old hc n1))) hr0 h3 (g3 _ _ h2) (sd.mono fun c xs hc => g3 _ _ hc) (t2.same g3) ?_
      unfold GetR
      rw [if_neg (fun z => z.elim (fun z => z nq) c)]
      exact ⟨rfl, sb⟩
end
end K24

set_option Elab.async false
set_option linter.all false
set_option maxRecDepth 100000
set_option maxHeartbeats 4000000
namespace K24
open PySem L2
inductive TlL (H0 H : Hp) : List V → List TS → Prop
  | nil : TlL H0 H [] []
  | cons {v : V} {t : TS} {hd : List (Int × Int)} {vs : List V} {ts : List TS} : Told H0 H v t hd → TlL H0 H vs ts → TlL H0 H (v :: vs) (t :: ts)
inductive SlL (H0 H : Hp) : List V → List SS → Prop
  | nil : SlL H0 H [] []
  | cons {v : V} {s : SS} {vs : List V} {ts : List SS} : ToldS H0 H v s → SlL H0 H vs ts → SlL H0 H (v :: vs) (s :: ts)
theorem Told.mono {H0 H H' : Hp} {v : V} {t : TS} {hd : List (Int × Int)} (g : Same H H') (h : Told H0 H v t hd) : Told H0 H' v t hd := by
  obtain ⟨p, ph, pq, hs, qs, e, h1, h2, h3, h4, h5⟩ := h
  exact ⟨p, ph, pq, hs, qs, e, g _ _ h1, g _ _ h2, h3.mono fun _ _ hc => g _ _ hc, g _ _ h4, h5.1.mono fun _ _ hc => g _ _ hc, h5.2⟩
theorem ToldS.mono {H0 H H' : Hp} {v : V} {s : SS} (g : Same H H') (h : ToldS H0 H v s) : ToldS H0 H' v s := by
  obtain ⟨p, ph, pq, hs, qs, e, h1, h2, h3, h4, h5⟩ := h
  exact ⟨p, ph, pq, hs, qs, e, g _ _ h1, g _ _ h2, h3.mono fun _ _ hc => g _ _ hc, g _ _ h4, h5.1.mono fun _ _ hc => g _ _ hc, h5.2⟩
theorem Told.hid {H0 H1 H : Hp} {v : V} {t : TS} {hd : List (Int × Int)} {D : Addr} {xs : List V} (h : Told H1 H v t hd) (hD1 : H1 D = some (.lst xs)) (hD : H D = some (.lst xs)) (k : ∀ c, H1 c = none → H0 c = none) : Told H0 (hide D H) v t hd := by
  obtain ⟨p, ph, pq, hs, qs, e, h1, h2, h3, h4, h5, h6, h7⟩ := h
  have nt : ∀ c ys, H c = some (.tup ys) → hide D H c = some (.tup ys) := fun c ys hc => hide_of (fun z => by rw [z, hD] at hc; cases hc) hc
  exact ⟨p, ph, pq, hs, qs, e, nt _ _ h1, hide_of (ne_of_none hD1 h6).symm h2, h3.mono nt, hide_of (ne_of_none hD1 h7).symm h4, h5.mono nt, k _ h6, k _ h7⟩
theorem ToldS.hid {H0 H1 H : Hp} {v : V} {t : SS} {D : Addr} {xs : List V} (h : ToldS H1 H v t) (hD1 : H1 D = some (.lst xs)) (hD : H D = some (.lst xs)) (k : ∀ c, H1 c = none → H0 c = none) : ToldS H0 (hide D H) v t := by
  obtain ⟨p, ph, pq, hs, qs, e, h1, h2, h3, h4, h5, h6, h7⟩ := h
  have nt : ∀ c ys, H c = some (.tup ys) → hide D H c = some (.tup ys) := fun c ys hc => hide_of (fun z => by rw [z, hD] at hc; cases hc) hc
  exact ⟨p, ph, pq, hs, qs, e, nt _ _ h1, hide_of (ne_of_none hD1 h6).symm h2, h3.mono nt, hide_of (ne_of_none hD1 h7).symm h4, h5.mono nt, k _ h6, k _ h7⟩
theorem TlL.mono {H0 H H' : Hp} (g : Same H H') : ∀ {vs : List V} {ts : List TS}, TlL H0 H vs ts → TlL H0 H' vs ts
  | _, _, .nil => .nil
  | _, _, .cons h r => .cons (h.mono g) (r.mono g)
theorem TlL.snoc {H0 H : Hp} {v : V} {t : TS} {hd : List (Int × Int)} (h : Told H0 H v t hd) : ∀ {vs : List V} {ts : List TS}, TlL H0 H vs ts → TlL H0 H (vs ++ [v]) (ts ++ [t])
  | _, _, .nil => .cons h .nil
  | _, _, .cons h' r => .cons h' (r.snoc h)
theorem SlL.mono {H0 H H' : Hp} (g : Same H H') : ∀ {vs : List V} {ts : List SS}, SlL H0 H vs ts → SlL H0 H' vs ts
  | _, _, .nil => .nil
  | _, _, .cons h r => .cons (h.mono g) (r.mono g)
theorem SlL.snoc {H0 H : Hp} {v : V} {t : SS} (h : ToldS H0 H v t) : ∀ {vs : List V} {ts : List SS}, SlL H0 H vs ts → SlL H0 H (vs ++ [v]) (ts ++ [t])
  | _, _, .nil => .cons h .nil
  | _, _, .cons h' r => .cons h' (r.snoc h)
theorem Told.mono2 {H0 H H' : Hp} {v : V} {t : TS} {hd : List (Int × Int)} (g : ∀ c u, (∃ xs, u = HO.tup xs ∨ u = HO.lst xs) → H c = some u → H' c = some u) (h : Told H0 H v t hd) : Told H0 H' v t hd := by
  obtain ⟨p, ph, pq, hs, qs, e, h1, h2, h3, h4, h5⟩ := h
  exact ⟨p, ph, pq, hs, qs, e, g _ _ ⟨_, .inl rfl⟩ h1, g _ _ ⟨_, .inr rfl⟩ h2, h3.mono fun _ xs hc => g _ _ ⟨xs, .inl rfl⟩ hc, g _ _ ⟨_, .inr rfl⟩ h4, h5.1.mono fun _ xs hc => g _ _ ⟨xs, .inl rfl⟩ hc, h5.2⟩
theorem ToldS.mono2 {H0 H H' : Hp} {v : V} {t : SS} (g : ∀ c u, (∃ xs, u = HO.tup xs ∨ u = HO.lst xs) → H c = some u → H' c = some u) (h : ToldS H0 H v t) : ToldS H0 H' v t := by
  obtain ⟨p, ph, pq, hs, qs, e, h1, h2, h3, h4, h5⟩ := h
  exact ⟨p, ph, pq, hs, qs, e, g _ _ ⟨_, .inl rfl⟩ h1, g _ _ ⟨_, .inr rfl⟩ h2, h3.mono fun _ xs hc => g _ _ ⟨xs, .inl rfl⟩ hc, g _ _ ⟨_, .inr rfl⟩ h4, h5.1.mono fun _ xs hc => g _ _ ⟨xs, .inl rfl⟩ hc, h5.2⟩
theorem TlL.mono2 {H0 H H' : Hp} (g : ∀ c u, (∃ xs, u = HO.tup xs ∨ u = HO.lst xs) → H c = some u → H' c = some u) : ∀ {vs : List V} {ts : List TS}, TlL H0 H vs ts → TlL H0 H' vs ts
  | _, _, .nil => .nil
  | _, _, .cons h r => .cons (h.mono2 g) (r.mono2 g)
theorem SlL.mono2 {H0 H H' : Hp} (g : ∀ c u, (∃ xs, u = HO.tup xs ∨ u = HO.lst xs) → H c = some u → H' c = some u) : ∀ {vs : List V} {ts : List SS}, SlL H0 H vs ts → SlL H0 H' vs ts
  | _, _, .nil => .nil
  | _, _, .cons h r => .cons (h.mono2 g) (r.mono2 g)
theorem kv_int {held : List (Int × Int)} {i : Nat} {nm : Str} {v : V} : (hk held)[i]? ≠ some (Sum.inr nm, v) := fun h => by
  obtain ⟨a, n, e, _⟩ := hk_at h
  cases e
theorem unfz {H H1 : Hp} {d : Addr} {o : Obj} {kv : List (Key × V)} (hd : H d = some (.dK kv)) (g1 : Same (upd H d (.frz o (.dK kv))) H1) : Same H (upd H1 d (.dK kv)) := fun c u hc => by
  by_cases z : c = d
  · rw [z, upd_same]; rw [z, hd] at hc; exact hc
  · rw [upd_ne z]
    exact g1 _ _ (by rw [upd_ne z]; exact hc)
section
variable {P : Program} {w : World} {K : PySem.W.Frag} {mg : Str → Option Value} {base : Heap}
def spGoodsI (CG CT CS : Addr) : Sp := fun vs H Q _ => ∃ (g dx pp p0 p1 : Addr) (x2 x3 : V) (ys0 ys1 : List V) (pr0 : List (Str × Int)) (pr1 : List (Str × Int × Int)), vs = [.ref g, .ref pp] ∧ H g = some (.ins CG dx []) ∧ H pp = some (.tup [.ref p0, .ref p1, x2, x3]) ∧ H p0 = some (.lst ys0) ∧ PrN H ys0 pr0 ∧ pr0.length ≤ 1 ∧ H p1 = some (.lst ys1) ∧ PrM H ys1 pr1 ∧ pr1.length ≤ 1 ∧
  ∀ (H' : Hp) (dt ds : Addr) (es : List Ent) (ss : List EntS), (∀ c u, c ≠ g → H c = some u → H' c = some u) → H' g = some (.ins CG dx [("by_tool", .ref dt), ("by_store", .ref ds)]) → H' dt = some (.dK (kvE es)) → H' ds = some (.dK (kvS ss)) → (∀ e ∈ es, TlO CT H' e.a e.d e.q e.t) → (∀ e ∈ ss, StO CS H' e.a e.g e.p e.s) →
    es.map (fun e => (e.name, e.t)) = pr0.map (fun p => (p.1, ⟨p.2, [], []⟩)) → ss.map (fun e => (e.name, e.s)) = pr1.map (fun p => (p.1, ⟨p.2.1, p.2.2, [], []⟩)) → (∀ e ∈ es, H e.a = none ∧ H e.d = none ∧ H e.q = none) → (∀ e ∈ ss, H e.a = none ∧ H e.g = none ∧ H e.p = none) → H dt = none → H ds = none → Q .non H'
theorem PrN.mono {H H' : Hp} (g : Same H H') : ∀ {vs : List V} {ps : List (Str × Int)}, PrN H vs ps → PrN H' vs ps
  | _, _, .nil => .nil
  | _, _, .cons h r => .cons (g _ _ h) (r.mono g)
theorem PrM.keep {H H' : Hp} (g : ∀ c xs, H c = some (.tup xs) → H' c = some (.tup xs)) : ∀ {vs : List V} {ps : List (Str × Int × Int)}, PrM H vs ps → PrM H' vs ps
  | _, _, .nil => .nil
  | _, _, .cons h r => .cons (g _ _ h) (r.keep g)
theorem ok_Goods {CG CT CS : Addr} (D : MakeAt K mg "Goods" CG "Goods.__init__" s_Goods___init__ ["self", "program"]) (CL_Goods : Cls K CG) (N_Goods_by_tool : NoAttr K CG "by_tool") (N_Goods_by_store : NoAttr K CG "by_store") (G_tools_of : OkD P w K mg base 3 "tools_of" ["program"] (spToolsOf CT)) (G_stores_of : OkD P w K mg base 3 "stores_of" ["program"] (spStoresOf CS)) : OkC P w K mg base 4 "Goods" CG ["self", "program"] (spGoodsI CG CT CS) := by
  refine D.ok sc_Goods___init__ (fun vs H Q E h => ?_) (fun f cdv A outer s H vs Q E hr h => ?_)
  · obtain ⟨_, _, _, _, _, _, _, _, _, _, _, rfl, _⟩ := h; rfl
  obtain ⟨g, dx, pp, p0, p1, x2, x3, ys0, ys1, pr0, pr1, rfl, hg, h1, h2, h3, h4, h5, h6, h7, q⟩ := h
  refine ⟨_, (pss_cons (ps_fldG CL_Goods N_Goods_by_tool (pv 0) (pe_def G_tools_of hr rfl (pa_c (pv 1) pa_nil)))
  (pss_one (ps_fldG CL_Goods N_Goods_by_store (pv 0) (pe_def G_stores_of hr rfl (pa_c (pv 1) pa_nil))))), ?_⟩
  walk_at "rd"
  refine ⟨pp, p0, _, _, _, ys0, pr0, rfl, h1, h2, h3, h4, fun dt H1 es hdt g1 e1 t1 m1 f1 => ?_⟩
  have hg1 := g1 _ _ hg
  have npp : pp ≠ g := fun z => by rw [z, hg] at h1; cases h1
  have np1 : p1 ≠ g := fun z => by rw [z, hg] at h5; cases h5
  have hgs := hg
  clear hg
  walk_at "rd"
  intro H2 mu2
  have hg2 := mu2.at_
  refine ⟨pp, p1, _, _, _, ys1, pr1, rfl, mu2.old (g1 _ _ h1) npp, mu2.old (g1 _ _ h5) np1, h6.keep (fun c xs hc => mu2.old (g1 _ _ hc) (fun z => by rw [z, hgs] at hc; cases hc)), h7, fun ds H3 ss hds g3 e3 t3 m3 f3 => ?_⟩
  have hg3 := g3 _ _ hg2
  clear hg1 hg2
  walk_at "rd"
  intro H4 mu4
  have ndt : dt ≠ g := (ne_of_none hgs hdt).symm
  have nds : ds ≠ g := (ne_of_none mu2.at_ hds).symm
  have k24 : ∀ c u, c ≠ g → H1 c = some u → H4 c = some u := fun c u nc hc => mu4.old (g3 _ _ (mu2.old hc nc)) nc
  have ne1 : ∀ e ∈ es, e.a ≠ g ∧ e.d ≠ g ∧ e.q ≠ g := fun e he => ⟨(ne_of_none hgs (f1 e he).1).symm, (ne_of_none hgs (f1 e he).2.1).symm, (ne_of_none hgs (f1 e he).2.2).symm⟩
  have ne3 : ∀ e ∈ ss, e.a ≠ g ∧ e.g ≠ g ∧ e.p ≠ g := fun e he => ⟨(ne_of_none mu2.at_ (f3 e he).1).symm, (ne_of_none mu2.at_ (f3 e he).2.1).symm, (ne_of_none mu2.at_ (f3 e he).2.2).symm⟩
  have back : ∀ c, H2 c = none → c ≠ g → H c = none := fun c hc nc => g1.free (by rw [← mu2.else_ c nc]; exact hc)
  refine q H4 dt ds es ss (fun c u nc hc => k24 c u nc (g1 _ _ hc)) mu4.at_ (k24 _ _ ndt e1) (mu4.old e3 nds) (fun e he => (t1 e he).grow fun c u hc hu => k24 c u (fun z => ?_) hu) (fun e he => (t3 e he).grow fun c u hc hu => mu4.old hu (fun z => ?_)) m1 m3 f1 (fun e he => ⟨back _ (f3 e he).1 (ne3 e he).1, back _ (f3 e he).2.1 (ne3 e he).2.1, back _ (f3 e he).2.2 (ne3 e he).2.2⟩) hdt (back _ hds nds)
  · rcases hc with rfl | rfl | rfl | ⟨xs, rfl⟩
    · exact (ne1 e he).1 z
    · exact (ne1 e he).2.1 z
    · exact (ne1 e he).2.2 z
    · rw [z, g1 _ _ hgs] at hu; cases hu
  · rcases hc with rfl | rfl | rfl | ⟨xs, rfl⟩
    · exact (ne3 e he).1 z
    · exact (ne3 e he).2.1 z
    · exact (ne3 e he).2.2 z
    · rw [z, hg3] at hu; cases hu
def TsP (H : Hp) (es : List Ent) (D : Addr) (i : Nat) (ys : List V) (σ1 : St) (H' : Hp) : Prop := TlL H (hide D H') ys ((es.take i).map (·.t)) ∧ ∃ v0, σ1 = [v0]
def spTools (CG CT : Addr) : Sp := fun vs H Q _ => ∃ (g dx dt : Addr) (x : V) (es : List Ent), vs = [.ref g] ∧ H g = some (.ins CG dx [("by_tool", .ref dt), ("by_store", x)]) ∧ H dt = some (.dK (kvE es)) ∧ (∀ e ∈ es, TlO CT H e.a e.d e.q e.t) ∧ es.length ≤ 100 ∧
  ∀ (r : Addr) (H' : Hp) (vs : List V), H r = none → Same H H' → H' r = some (.lst vs) → TlL H H' vs (es.map (·.t)) → Q (.ref r) H'
theorem ok_tools {CG CT : Addr} (D : MethAt K CG "tools" "Goods.tools" s_Goods_tools ["self"]) (CL_Goods : Cls K CG) (N_Goods_by_tool : NoAttr K CG "by_tool") (G_told_tool : OkD P w K mg base 1 "told_tool" ["tool"] (spTold CT)) : OkM P w K mg base 2 CG "tools" ["self"] (spTools CG CT) := by
  refine D.ok CL_Goods sc_Goods_tools (fun vs H Q E h => ?_) (fun f cdv A outer s H vs Q E hr h => ?_)
  · obtain ⟨_, _, _, _, _, rfl, _⟩ := h; rfl
  obtain ⟨g, dx, dt, x, es, rfl, e1, e2, e3, b1, q⟩ := h
  have big : 100000 ≤ sizeLine := by unfold sizeLine; decide
  have le : (kvE es).length = es.length := by unfold kvE; rw [List.length_map]
  refine ⟨_, (pss_one (ps_ret (pe_unf (pe_compN (comp_scopeN 1 (N := ["tool"]) (cap := []) rfl rfl rfl rfl (by decide +kernel) rfl rfl rfl) rfl (pi_vals (pe_fldG CL_Goods N_Goods_by_tool (pv 0))) (fun _ _ _ _ => (pg_name (i := 0) (show List.Nodup (α := Str) ["tool"] by decide +kernel) rfl (Or.inl (lookup_relabel_local rfl)) (Or.inr (lookup_relabel_local rfl)))) (fun _ _ _ _ => pts_nil) (fun _ _ _ _ => (pe_def G_told_tool hr rfl (pa_c (pv 0) pa_nil))))))), ?_⟩
  walk_at "rd"
  refine tcomp_in ?_
  simp only [iVals]
  walk_at "rd"
  intro o nf
  refine compJD over_vals (fun H g => g _ _ upd_same) (by rw [List.length_map]; omega) (TsP H es) (fun D H' _ _ _ => by unfold TsP; exact ⟨.nil, _, rfl⟩) ?_ ?_
  · rintro D i x ys σ1 H1 hx at1 pv
    unfold TsP at pv
    obtain ⟨tl, v0, rfl⟩ := pv
    obtain ⟨e, he, rfl⟩ : ∃ e, es[i]? = some e ∧ V.ref e.a = x := by
      unfold kvE at hx
      rw [List.map_map, List.getElem?_map] at hx
      cases z : es[i]? with
      | none => rw [z] at hx; cases hx
      | some e => rw [z] at hx; cases hx; exact ⟨e, rfl, rfl⟩
    walk_at "rd"
    have t0 := e3 e (List.mem_of_getElem? he)
    have t1 : TlO CT H1 e.a e.d e.q e.t := t0.grow fun c u hc hu => at1.same _ _ (by
      rw [upd_ne (fun z => ?_)]
      · exact hu
      · obtain ⟨dx1, qs1, j1, j2, j3, _⟩ := t0
        rcases hc with rfl | rfl | rfl | ⟨xs, rfl⟩
        · rw [z, e2] at j1; cases j1
        · rw [z, e2] at j2
          have j4 : kvE es = hk e.t.held := HO.dK.inj (Option.some.inj j2)
          refine kv_int (held := e.t.held) (i := i) (nm := e.name) (v := .ref e.a) ?_
          rw [← j4]
          unfold kvE
          rw [List.getElem?_map, he]; rfl
        · rw [z, e2] at j3; cases j3
        · rw [z, e2] at hu; cases hu)
    refine ⟨e.a, e.d, e.q, e.t, rfl, t1, fun v H2 hd g2 td pm => at1.put g2 fun H3 mu => ?_⟩
    unfold TsP
    rw [take_snoc he, List.map_append]
    have fre : ∀ c, H1 c = none → H c = none := fun c hc => by
      have := at1.same.free hc
      by_cases z : c = dt
      · rw [z, upd_same] at this; cases this
      · rw [upd_ne z] at this; exact this
    exact ⟨(tl.mono ((hide_same g2).trans (hide_mu mu))).snoc ((td.hid at1.lst (g2 _ _ at1.lst) fre).mono (hide_mu mu)), _, rfl⟩
  · rintro D ys σ1 H1 hD g1 hy hle pv
    unfold TsP at pv
    obtain ⟨tl, _⟩ := pv
    rw [List.length_map, le, List.take_of_length_le (Nat.le_refl _)] at tl
    have d1 : H1 dt = some (.frz o (.dK (kvE es))) := g1 _ _ upd_same
    have nDd : D ≠ dt := fun z => by rw [z, upd_same] at hD; cases hD
    have hD0 : H D = none := by rw [upd_ne nDd] at hD; exact hD
    refine ⟨dt, nf, o, _, d1, ?_⟩
    refine q D _ ys hD0 (unfz e2 g1) (by rw [upd_ne nDd]; exact hy) (tl.mono2 fun c u ⟨xs, hx⟩ hc => ?_)
    have hc := hide_le _ _ hc
    have nc : c ≠ dt := fun z => by
      rw [z, d1] at hc
      rcases hx with rfl | rfl <;> cases hc
    rw [upd_ne nc]
    exact hc
def SsP (H : Hp) (es : List EntS) (D : Addr) (i : Nat) (ys : List V) (σ1 : St) (H' : Hp) : Prop := SlL H (hide D H') ys ((es.take i).map (·.s)) ∧ ∃ v0, σ1 = [v0]
def spStores (CG CS : Addr) : Sp := fun vs H Q _ => ∃ (g dx dt : Addr) (x : V) (es : List EntS), vs = [.ref g] ∧ H g = some (.ins CG dx [("by_tool", x), ("by_store", .ref dt)]) ∧ H dt = some (.dK (kvS es)) ∧ (∀ e ∈ es, StO CS H e.a e.g e.p e.s) ∧ es.length ≤ 100 ∧
  ∀ (r : Addr) (H' : Hp) (vs : List V), H r = none → Same H H' → H' r = some (.lst vs) → SlL H H' vs (es.map (·.s)) → Q (.ref r) H'
theorem ok_stores {CG CS : Addr} (D : MethAt K CG "stores" "Goods.stores" s_Goods_stores ["self"]) (CL_Goods : Cls K CG) (N_Goods_by_store : NoAttr K CG "by_store") (G_told_store : OkD P w K mg base 1 "told_store" ["store"] (spToldS CS)) : OkM P w K mg base 2 CG "stores" ["self"] (spStores CG CS) := by
  refine D.ok CL_Goods sc_Goods_stores (fun vs H Q E h => ?_) (fun f cdv A outer s H vs Q E hr h => ?_)
  · obtain ⟨_, _, _, _, _, rfl, _⟩ := h; rfl
  obtain ⟨g, dx, dt, x, es, rfl, e1, e2, e3, b1, q⟩ := h
  have big : 100000 ≤ sizeLine := by unfold sizeLine; decide
  have le : (kvS es).length = es.length := by unfold kvS; rw [List.length_map]
  refine ⟨_, (pss_one (ps_ret (pe_unf (pe_compN (comp_scopeN 1 (N := ["store"]) (cap := []) rfl rfl rfl rfl (by decide +kernel) rfl rfl rfl) rfl (pi_vals (pe_fldG CL_Goods N_Goods_by_store (pv 0))) (fun _ _ _ _ => (pg_name (i := 0) (show List.Nodup (α := Str) ["store"] by decide +kernel) rfl (Or.inl (lookup_relabel_local rfl)) (Or.inr (lookup_relabel_local rfl)))) (fun _ _ _ _ => pts_nil) (fun _ _ _ _ => (pe_def G_told_store hr rfl (pa_c (pv 0) pa_nil))))))), ?_⟩
  walk_at "rd"
  refine tcomp_in ?_
  simp only [iVals]
  walk_at "rd"
  intro o nf
  refine compJD over_vals (fun H g => g _ _ upd_same) (by rw [List.length_map]; omega) (SsP H es) (fun D H' _ _ _ => by unfold SsP; exact ⟨.nil, _, rfl⟩) ?_ ?_
  · rintro D i x ys σ1 H1 hx at1 pv
    unfold SsP at pv
    obtain ⟨tl, v0, rfl⟩ := pv
    obtain ⟨e, he, rfl⟩ : ∃ e, es[i]? = some e ∧ V.ref e.a = x := by
      unfold kvS at hx
      rw [List.map_map, List.getElem?_map] at hx
      cases z : es[i]? with
      | none => rw [z] at hx; cases hx
      | some e => rw [z] at hx; cases hx; exact ⟨e, rfl, rfl⟩
    walk_at "rd"
    have t0 := e3 e (List.mem_of_getElem? he)
    have t1 : StO CS H1 e.a e.g e.p e.s := t0.grow fun c u hc hu => at1.same _ _ (by
      rw [upd_ne (fun z => ?_)]
      · exact hu
      · obtain ⟨dx1, gs1, ps1, j1, j2, _, j3, _⟩ := t0
        rcases hc with rfl | rfl | rfl | ⟨xs, rfl⟩
        · rw [z, e2] at j1; cases j1
        · rw [z, e2] at j2; cases j2
        · rw [z, e2] at j3; cases j3
        · rw [z, e2] at hu; cases hu)
    refine ⟨e.a, e.g, e.p, e.s, rfl, t1, fun v H2 g2 td => at1.put g2 fun H3 mu => ?_⟩
    unfold SsP
    rw [take_snoc he, List.map_append]
    have fre : ∀ c, H1 c = none → H c = none := fun c hc => by
      have := at1.same.free hc
      by_cases z : c = dt
      · rw [z, upd_same] at this; cases this
      · rw [upd_ne z] at this; exact this
    exact ⟨(tl.mono ((hide_same g2).trans (hide_mu mu))).snoc ((td.hid at1.lst (g2 _ _ at1.lst) fre).mono (hide_mu mu)), _, rfl⟩
  · rintro D ys σ1 H1 hD g1 hy hle pv
    unfold SsP at pv
    obtain ⟨tl, _⟩ := pv
    rw [List.length_map, le, List.take_of_length_le (Nat.le_refl _)] at tl
    have d1 : H1 dt = some (.frz o (.dK (kvS es))) := g1 _ _ upd_same
    have nDd : D ≠ dt := fun z => by rw [z, upd_same] at hD; cases hD
    have hD0 : H D = none := by rw [upd_ne nDd] at hD; exact hD
    refine ⟨dt, nf, o, _, d1, ?_⟩
    refine q D _ ys hD0 (unfz e2 g1) (by rw [upd_ne nDd]; exact hy) (tl.mono2 fun c u ⟨xs, hx⟩ hc => ?_)
    have hc := hide_le _ _ hc
    have nc : c ≠ dt := fun z => by
      rw [z, d1] at hc
      rcases hx with rfl | rfl <;> cases hc
    rw [upd_ne nc]
    exact hc
end
end K24

set_option Elab.async false
set_option linter.all false
set_option maxRecDepth 100000
set_option maxHeartbeats 4000000
namespace K24
open PySem L2
def nsv : List (Int × Int) → Int → List (Int × Int) × Int
  | [], r => ([], r)
  | (h, n) :: q, r => if n > r then ([], r) else ((h, n) :: (nsv q (r - n)).1, (nsv q (r - n)).2)
theorem nsv_no {h n r : Int} {q : List (Int × Int)} (c : n > r) : nsv ((h, n) :: q) r = ([], r) := by show (if n > r then _ else _) = _; rw [if_pos c]
theorem nsv_go {h n r : Int} {q : List (Int × Int)} (c : ¬ n > r) : nsv ((h, n) :: q) r = ((h, n) :: (nsv q (r - n)).1, (nsv q (r - n)).2) := by show (if n > r then _ else _) = _; rw [if_neg c]
theorem nsv_le : ∀ (q : List (Int × Int)) (r : Int), (nsv q r).1.length ≤ q.length
  | [], r => Nat.le_refl _
  | (h, n) :: q, r => by
    by_cases c : n > r
    · rw [nsv_no c]; exact Nat.zero_le _
    · rw [nsv_go c]
      have := nsv_le q (r - n)
      simp only [List.length_cons]; omega
theorem getI_put {k h x : Int} : ∀ held : List (Int × Int), k ≠ h → getI (putI held h x) k = getI held k
  | [], ne => by
    show (if h = k then x else 0) = 0
    rw [if_neg (fun e => ne e.symm)]
  | (j, y) :: r, ne => by
    show getI (if j = h then (j, x) :: r else (j, y) :: putI r h x) k = (if j = k then y else getI r k)
    by_cases c : j = h
    · rw [if_pos c]
      show (if j = k then x else getI r k) = _
      rw [if_neg (fun e => ne (e.symm.trans c)), if_neg (fun e => ne (e.symm.trans c))]
    · rw [if_neg c]
      show (if j = k then y else getI (putI r h x) k) = _
      rw [getI_put r ne]
theorem getI_self {h x : Int} : ∀ held : List (Int × Int), getI (putI held h x) h = x
  | [] => by show (if h = h then x else 0) = x; rw [if_pos rfl]
  | (j, y) :: r => by
    show getI (if j = h then (j, x) :: r else (j, y) :: putI r h x) h = x
    by_cases c : j = h
    · rw [if_pos c]
      show (if j = h then x else getI r h) = x
      rw [if_pos c]
    · rw [if_neg c]
      show (if j = h then y else getI (putI r h x) h) = x
      rw [if_neg c, getI_self r]
theorem putI_le {h x : Int} : ∀ held : List (Int × Int), (putI held h x).length ≤ held.length + 1
  | [] => Nat.le_refl _
  | (j, y) :: r => by
    show (if j = h then (j, x) :: r else (j, y) :: putI r h x).length ≤ _
    by_cases c : j = h
    · rw [if_pos c]; simp
    · rw [if_neg c]
      have := putI_le (h := h) (x := x) r
      simp only [List.length_cons]; omega
theorem srv_nsv : ∀ (q : List (Int × Int)) (t : TS), t.que = q → (srv q t).1 = (nsv q t.free).1 ∧ (srv q t).2.free = (nsv q t.free).2 ∧ (srv q t).2.que = q.drop (nsv q t.free).1.length ∧ (99 ∉ q.map (·.1) → getI (srv q t).2.held 99 = getI t.held 99) ∧ (srv q t).2.held.length ≤ t.held.length + (nsv q t.free).1.length
  | [], t, e => ⟨rfl, rfl, e, fun _ => rfl, Nat.le_refl _⟩
  | (h, n) :: q, t, e => by
    by_cases c : n ≤ t.free
    · obtain ⟨i1, i2, i3, i4, i5⟩ := srv_nsv q (outS ⟨t.free, t.held, q⟩ h n) rfl
      rw [srv_cons c, nsv_go (by omega)]
      refine ⟨by rw [i1]; rfl, i2, ?_, fun n9 => ?_, ?_⟩
      · rw [i3]; rfl
      · rw [List.map_cons] at n9
        rw [i4 (fun z => n9 (List.mem_cons_of_mem _ z))]
        exact getI_put _ fun z => n9 (z ▸ List.mem_cons_self)
      · have := putI_le (h := h) (x := getI t.held h + n) t.held
        show (srv q _).2.held.length ≤ t.held.length + ((nsv q (t.free - n)).1.length + 1)
        have i5 : (srv q (outS ⟨t.free, t.held, q⟩ h n)).2.held.length ≤ (putI t.held h (getI t.held h + n)).length + (nsv q (t.free - n)).1.length := i5
        omega
    · have e2 : srv ((h, n) :: q) t = ([], t) := by show (if n ≤ t.free then _ else _) = _; rw [if_neg c]
      rw [e2, nsv_no (by omega)]
      exact ⟨rfl, rfl, e, fun _ => rfl, by simp⟩
section
variable {P : Program} {w : World} {K : PySem.W.Frag} {mg : Str → Option Value} {base : Heap}
def spStir : Sp := fun vs H Q _ => ∃ c k : Int, vs = [.int c, .int k] ∧ 0 ≤ k ∧ k ≤ 1000 ∧ ∀ m : Int, 0 ≤ m → m < 2 ^ 28 → Q (.int m) H
theorem ok_stir (D : DefAt K mg "_law_stir" s__law_stir ["cell", "k"]) (hrange : mg "range" = none) : OkD P w K mg base 1 "_law_stir" ["cell", "k"] spStir := by
  refine D.ok sc__law_stir (fun vs H Q E h => ?_) (fun f cdv A outer s H vs Q E hr h => ?_)
  · obtain ⟨c, k, rfl, _⟩ := h; rfl
  obtain ⟨c, k, rfl, h0, h1, q⟩ := h
  refine ⟨_, (pss_cons (ps_if (pt_cmpR op_ge (pv 0) (pe_op op_pow pe_int pe_int) (nomark _))
  (pss_cons (ps_for PassesOwn.never rfl (pi_range1 rfl hrange (pa_c (pe_op op_mod (pv 1) pe_int) pa_nil)) (pg_name (i := 2) sc__law_stir.nd rfl (Or.inl rfl))
  (pss_one (ps_set (i := 0) sc__law_stir.nd rfl (Or.inl rfl) (pe_op op_fdiv (pv 0) pe_int))))
  (pss_one (ps_ret (pe_op op_mod (pv 0) pe_int))))
  pss_nil)
  (pss_cons (ps_set (i := 3) sc__law_stir.nd rfl (Or.inl rfl) (pe_op op_mod (pe_op op_mul (pe_op op_add (pe_op op_add (pv 0) (pe_op op_mul pe_int (pv 1))) pe_int) pe_int) pe_int))
  (pss_cons (ps_set (i := 3) sc__law_stir.nd rfl (Or.inl rfl) (pe_op op_mod (pe_op op_mul (pv 3) (pv 3)) pe_int))
  (pss_cons (ps_set (i := 3) sc__law_stir.nd rfl (Or.inl rfl) (pe_op op_mod (pe_op op_add (pe_op op_mul (pv 3) pe_int) (pe_op op_mul pe_int (pv 1))) pe_int))
  (pss_one (ps_ret (pe_op op_fdiv (pe_op op_mod (pe_op op_mul (pv 3) (pv 3)) pe_int) pe_int))))))), ?_⟩
  walk_at "rd"
  refine ite2 (fun c1 => ?_) fun c1 => ?_
  · refine tfor_in ?_
    simp only [iRng1]
    walk_at "rd"
    refine ⟨by omega, by omega, for_range (fun i σ H' => H' = H ∧ ∃ (c' : Int) (v2 : Option V), σ = [some (.int c'), some (.int k), v2, none]) ⟨rfl, c, _, rfl⟩ ?_ ?_⟩
    · rintro i σ H' hi ⟨rfl, c', v2, rfl⟩
      walk_at "rd"
      exact ⟨_, rfl⟩
    · rintro σ H' ⟨rfl, c', v2, rfl⟩
      walk_at "rd"
      exact q _ (Int.emod_nonneg _ (by decide)) (Int.lt_trans (Int.emod_lt_of_pos _ (by decide)) (by decide))
  · have e1 := Int.emod_nonneg ((c + 977 * k + 1) * 48271) (show (2147483647 : Int) ≠ 0 by decide)
    have e2 := Int.emod_lt_of_pos ((c + 977 * k + 1) * 48271) (show (0 : Int) < 2147483647 by decide)
    generalize (c + 977 * k + 1) * 48271 % 2147483647 = x at e1 e2
    have e3 := Int.emod_nonneg (x * x % 2147483629 * 69621 + 13 * k) (show (2147483587 : Int) ≠ 0 by decide)
    have e4 := Int.emod_lt_of_pos (x * x % 2147483629 * 69621 + 13 * k) (show (0 : Int) < 2147483587 by decide)
    generalize (x * x % 2147483629 * 69621 + 13 * k) % 2147483587 = y at e3 e4
    refine ⟨.inl ⟨by omega, by omega⟩, .inl ⟨by omega, by omega⟩, q _ ?_ ?_⟩
    · have := Int.emod_nonneg (y * y) (show (2147483579 : Int) ≠ 0 by decide)
      omega
    · have := Int.emod_lt_of_pos (y * y) (show (0 : Int) < 2147483579 by decide)
      omega
def NsI (wp sp : Addr) (ps : List (Int × Int)) (room : Int) (H : Hp) (i : Nat) (σ : St) (H' : Hp) : Prop := ∃ (rm : Int) (sv : List V) (dn : List (Int × Int)) (v3 v4 : Option V), σ = [some (.ref wp), some (.int rm), some (.ref sp), v3, v4] ∧ Same H H' ∧ H' sp = some (.lst sv) ∧ Prs H' sv dn ∧ dn ++ (nsv (ps.drop i) rm).1 = (nsv ps room).1 ∧ (nsv (ps.drop i) rm).2 = (nsv ps room).2 ∧ dn.length ≤ i
def spNext : Sp := fun vs H Q _ => ∃ (wp : Addr) (qs : List V) (ps : List (Int × Int)) (room : Int), vs = [.ref wp, .int room] ∧ H wp = some (.lst qs) ∧ Prs H qs ps ∧ ps.length ≤ 100 ∧
  ∀ (r sp : Addr) (H' : Hp) (sv : List V), H sp = none → Same H H' → H' r = some (.lst [.ref sp, .int (nsv ps room).2]) → H' sp = some (.lst sv) → Prs H' sv (nsv ps room).1 → Q (.ref r) H'
theorem ok_next (D : DefAt K mg "_law_next_served" s__law_next_served ["wants", "room"]) : OkD P w K mg base 1 "_law_next_served" ["wants", "room"] spNext := by
  refine D.ok sc__law_next_served (fun vs H Q E h => ?_) (fun f cdv A outer s H vs Q E hr h => ?_)
  · obtain ⟨_, _, _, _, rfl, _⟩ := h; rfl
  obtain ⟨wp, qs, ps, room, rfl, h1, h2, h3, q⟩ := h
  have big : 100000 ≤ sizeLine := by unfold sizeLine; decide
  have lq := h2.length
  refine ⟨_, (pss_cons (ps_set (i := 2) sc__law_next_served.nd rfl (Or.inl rfl) (pe_lstG pa_nil))
  (pss_cons (ps_for PassesOwn.never rfl (pi_list (pv 0)) (pg_tupG 2 rfl (pgs_cons (pg_name (i := 3) sc__law_next_served.nd rfl (Or.inl rfl)) (pgs_cons (pg_name (i := 4) sc__law_next_served.nd rfl (Or.inl rfl)) pgs_nil)))
  (pss_cons (ps_if (pt_cmpR op_gt (pv 4) (pv 1) (nomark _))
  (pss_one (ps_ret (pe_lstG (pa_c (pv 2) (pa_c (pv 1) pa_nil)))))
  pss_nil)
  (pss_cons (ps_set (i := 1) sc__law_next_served.nd rfl (Or.inl rfl) (pe_op op_sub (pv 1) (pv 4)))
  (pss_one (ps_expr (pe_appG (pv 2) (pe_tupG (pa_c (pv 3) (pa_c (pv 4) pa_nil)))))))))
  (pss_one (ps_ret (pe_lstG (pa_c (pv 2) (pa_c (pv 1) pa_nil))))))), ?_⟩
  walk_at "rd"
  intro sp H1 hsp g1 e1
  have w1 := g1 _ _ h1
  refine tfor_in ?_
  simp only [iList]
  walk_at "rd"
  refine ⟨⟨_, SqL.of w1⟩, ?_⟩
  refine for_list (xs := qs) (NsI wp sp ps room H) ?_ ?_ ?_ ?_
  · unfold NsI
    exact ⟨room, [], [], _, _, rfl, g1, e1, .nil, rfl, rfl, Nat.le_refl _⟩
  · intro i σ H2 hi z
    unfold NsI at z
    obtain ⟨_, _, _, _, _, rfl, g2, _⟩ := z
    exact SqL.of (g2 _ _ h1)
  · intro i x σ H2 hx z
    unfold NsI at z
    obtain ⟨rm, sv, dn, v3, v4, rfl, g2, e2, pr, r1, r2, b⟩ := z
    obtain ⟨pp, h, n, rfl, ei, hpp⟩ := h2.get hx
    have hp2 := g2 _ _ hpp
    have hi : i < ps.length := (List.getElem?_eq_some_iff.mp ei).1
    have ed : ps.drop i = (h, n) :: ps.drop (i + 1) := by
      obtain ⟨l, e⟩ := List.getElem?_eq_some_iff.mp ei
      rw [← e]
      exact List.drop_eq_getElem_cons l
    rw [ed] at r1 r2
    have ls := pr.length
    clear e1 w1
    walk_at "rd"
    refine ite2 (fun c => ?_) fun c => ?_
    · rw [nsv_no c] at r1 r2
      intro r3 H3 hr3 g3 h3
      rw [List.append_nil] at r1
      have r2 : rm = (nsv ps room).2 := r2
      rw [r2] at h3
      exact q r3 sp H3 sv hsp (g2.trans g3) h3 (g3 _ _ e2) (by rw [← r1]; exact pr.mono fun c xs hc => g3 _ _ hc)
    · rw [nsv_go c] at r1 r2
      refine fun p3 H3 hp3 g3 h3 => ⟨sv, g3 _ _ e2, by omega, fun H4 mu => ?_⟩
      unfold NsI
      have np : p3 ≠ sp := (ne_of_none e2 hp3).symm
      refine ⟨rm - n, sv ++ [.ref p3], dn ++ [(h, n)], _, _, rfl, mu.same (g2.trans g3) hsp, mu.at_, (pr.mono fun c xs hc => mu.old (g3 _ _ hc) (fun z => by rw [z, e2] at hc; cases hc)).snoc (mu.old h3 np), ?_, r2, by rw [List.length_append, List.length_singleton]; omega⟩
      rw [List.append_assoc]; exact r1
  · intro σ H2 z
    unfold NsI at z
    obtain ⟨rm, sv, dn, v3, v4, rfl, g2, e2, pr, r1, r2, b⟩ := z
    rw [List.drop_of_length_le (by omega)] at r1 r2
    clear e1 w1
    walk_at "rd"
    intro r3 H3 hr3 g3 h3
    have r1 : dn ++ [] = (nsv ps room).1 := r1
    rw [List.append_nil] at r1
    have r2 : rm = (nsv ps room).2 := r2
    rw [r2] at h3
    exact q r3 sp H3 sv hsp (g2.trans g3) h3 (g3 _ _ e2) (by rw [← r1]; exact pr.mono fun c xs hc => g3 _ _ hc)
end
end K24

set_option Elab.async false
set_option linter.all false
set_option maxRecDepth 100000
set_option maxHeartbeats 4000000
namespace K24
open PySem L2
theorem can_prs : ∀ ps : List (Int × Int), PyData.canLayAll0 (ps.map fun p => PyData.tuple [.int p.1, .int p.2]) = true
  | [] => rfl
  | p :: ps => by
    have := can_prs ps
    simp only [List.map_cons, PyData.canLayAll0, PyData.canLay0] at this ⊢
    rw [this]; rfl
theorem dep_prs : ∀ ps : List (Int × Int), PyData.depthAll (ps.map fun p => PyData.tuple [.int p.1, .int p.2]) ≤ 2
  | [] => by simp [PyData.depthAll]
  | p :: ps => by
    have := dep_prs ps
    simp only [List.map_cons, PyData.depthAll, PyData.depth] at this ⊢
    omega
def prD (ps : List (Int × Int)) : PyData := .list (ps.map fun p => .tuple [.int p.1, .int p.2])
def svD (w : Str) (ps : List (Int × Int)) : PyData := .list (ps.map fun p => .tuple [.int p.1, .str w, .int p.2])
theorem can_sv {w : Str} (hw : PyData.strOk w = true) : ∀ ps : List (Int × Int), PyData.canLayAll0 (ps.map fun p => PyData.tuple [.int p.1, .str w, .int p.2]) = true
  | [] => rfl
  | p :: ps => by
    have := can_sv hw ps
    simp only [List.map_cons, PyData.canLayAll0, PyData.canLay0, hw, Bool.and_true, Bool.true_and] at this ⊢
    exact this
theorem dep_sv {w : Str} : ∀ ps : List (Int × Int), PyData.depthAll (ps.map fun p => PyData.tuple [.int p.1, .str w, .int p.2]) ≤ 2
  | [] => by simp [PyData.depthAll]
  | p :: ps => by
    have := dep_sv (w := w) ps
    simp only [List.map_cons, PyData.depthAll, PyData.depth] at this ⊢
    omega
theorem shaped_prs (ps : List (Int × Int)) : SeqAt.shaped (prD ps) = true := by
  unfold SeqAt.shaped prD
  have d := dep_prs ps
  have e : PyData.canLay0 (.list (ps.map fun p => PyData.tuple [.int p.1, .int p.2])) = true := by
    simp only [PyData.canLay0]
    exact can_prs ps
  rw [e, Bool.true_and, decide_eq_true_eq]
  simp only [PyData.depth]
  omega
theorem shaped_two {x : PyData} {w : Str} (hx : PyData.canLay0 x = true) (dx : PyData.depth x ≤ 1) (hw : PyData.strOk w = true) (ps : List (Int × Int)) : SeqAt.shaped (.tuple [x, svD w ps]) = true := by
  unfold SeqAt.shaped svD
  have d := dep_sv (w := w) ps
  have e : PyData.canLay0 (.tuple [x, .list (ps.map fun p => PyData.tuple [.int p.1, .str w, .int p.2])]) = true := by
    simp only [PyData.canLay0, PyData.canLayAll0, hx, can_sv hw ps, Bool.and_true, Bool.true_and]
  rw [e, Bool.true_and, decide_eq_true_eq]
  simp only [PyData.depth, PyData.depthAll]
  omega
theorem eqv_sh {d : PyData} (h : SeqAt.shaped d = true) : PyData.eqv d d = true := by
  unfold SeqAt.shaped at h
  rw [Bool.and_eq_true] at h
  exact SeqAt.eqv_refl _ h.1
theorem Prs.rp {K : PySem.W.Frag} {H : Hp} : ∀ {vs : List V} {ps : List (Int × Int)}, Prs H vs ps → RpL K H vs (ps.map fun p => .tuple [.int p.1, .int p.2])
  | _, _, .nil => .nil
  | _, _, .cons h r => .cons (.tup h (.cons (.int _) (.cons (.int _) .nil))) r.rp
theorem Svd.rp {w : Str} {K : PySem.W.Frag} {H : Hp} : ∀ {vs : List V} {ps : List (Int × Int)}, Svd w H vs ps → RpL K H vs (ps.map fun p => .tuple [.int p.1, .str w, .int p.2])
  | _, _, .nil => .nil
  | _, _, .cons h r => .cons (.tup h (.cons (.int _) (.cons (.str _) (.cons (.int _) .nil)))) r.rp
/-- goods with one tool, as they lie -/
def G1 (CG CT : Addr) (H : Hp) (g dt a d q : Addr) (t : TS) : Prop := ∃ dx x, H g = some (.ins CG dx [("by_tool", .ref dt), ("by_store", x)]) ∧ H dt = some (.dK [(Sum.inr "jig", .ref a)]) ∧ TlO CT H a d q t
theorem G1.fr {CG CT : Addr} {H H' : Hp} {g dt a d q : Addr} {t t' : TS} (h : G1 CG CT H g dt a d q t) (f : Fr3 a d q H H') (h' : TlO CT H' a d q t') : G1 CG CT H' g dt a d q t' := by
  obtain ⟨dx, x, h1, h2, ⟨dx', qs, k1, k2, k3, _⟩⟩ := h
  refine ⟨dx, x, f _ _ (fun z => ?_) (fun z => ?_) (fun z => ?_) h1, f _ _ (fun z => ?_) (fun z => ?_) (fun z => ?_) h2, h'⟩
  · rw [z, k1] at h1
    have h3 := HO.ins.inj (Option.some.inj h1)
    have h4 := h3.2.2
    simp only [List.cons.injEq, Prod.mk.injEq, ofString_inj, String.reduceEq, false_and] at h4
  · rw [z, k2] at h1; cases h1
  · rw [z, k3] at h1; cases h1
  · rw [z, k1] at h2; cases h2
  · rw [z, k2] at h2
    have h3 := HO.dK.inj (Option.some.inj h2)
    refine kv_int (held := t.held) (i := 0) (nm := "jig") (v := .ref a) ?_
    rw [h3]; rfl
  · rw [z, k3] at h2; cases h2
theorem G1.same {CG CT : Addr} {H H' : Hp} {g dt a d q : Addr} {t : TS} (k : Same H H') (h : G1 CG CT H g dt a d q t) : G1 CG CT H' g dt a d q t := by
  obtain ⟨dx, x, h1, h2, h3⟩ := h
  exact ⟨dx, x, k _ _ h1, k _ _ h2, h3.same k⟩
theorem G1.mu {CG CT : Addr} {H H' : Hp} {g dt a d q : Addr} {t : TS} {D : Addr} {xs : List V} {o : HO} (m : Mu H D o H') (hD : H D = some (.lst xs)) (nq : D ≠ q) (h : G1 CG CT H g dt a d q t) : G1 CG CT H' g dt a d q t := by
  obtain ⟨dx, x, h1, h2, h3⟩ := h
  obtain ⟨_, _, k1, k2, _⟩ := id h3
  refine ⟨dx, x, m.old h1 (fun z => by rw [z, hD] at h1; cases h1), m.old h2 (fun z => by rw [z, hD] at h2; cases h2), h3.grow fun c u hc hu => m.old hu (fun z => ?_)⟩
  rcases hc with rfl | rfl | rfl | ⟨ys, rfl⟩
  · rw [z, hD] at k1; cases k1
  · rw [z, hD] at k2; cases k2
  · exact nq z.symm
  · rw [z, hD] at hu; cases hu
theorem rp_fs {K : PySem.W.Frag} {H : Hp} : ∀ n : Nat, RpL K H (List.replicate n (V.bl false)) (List.replicate n (PyData.bool false))
  | 0 => .nil
  | n + 1 => .cons (.bl _) (rp_fs n)
theorem can_fs : ∀ n : Nat, PyData.canLayAll0 (List.replicate n (PyData.bool false)) = true
  | 0 => rfl
  | n + 1 => by
    have := can_fs n
    simp only [List.replicate_succ, PyData.canLayAll0, PyData.canLay0, Bool.true_and]
    exact this
theorem dep_fs : ∀ n : Nat, PyData.depthAll (List.replicate n (PyData.bool false)) ≤ 1
  | 0 => by simp [PyData.depthAll]
  | n + 1 => by
    have := dep_fs n
    simp only [List.replicate_succ, PyData.depthAll, PyData.depth]
    omega
theorem shaped_fs (n : Nat) : SeqAt.shaped (.list (List.replicate n (PyData.bool false))) = true := by
  unfold SeqAt.shaped
  have d := dep_fs n
  have e : PyData.canLay0 (.list (List.replicate n (PyData.bool false))) = true := by
    simp only [PyData.canLay0]
    exact can_fs n
  rw [e, Bool.true_and, decide_eq_true_eq]
  simp only [PyData.depth]
  omega
theorem flat_fs : ∀ n : Nat, (List.replicate n [V.bl false]).flatten = List.replicate n (V.bl false)
  | 0 => rfl
  | n + 1 => by rw [List.replicate_succ, List.flatten_cons, flat_fs n, List.replicate_succ]; rfl
theorem Prs.drop {H : Hp} : ∀ {vs : List V} {ps : List (Int × Int)} (k : Nat), Prs H vs ps → Prs H (vs.drop k) (ps.drop k)
  | _, _, 0, h => h
  | _, _, _ + 1, .nil => .nil
  | _, _, k + 1, .cons _ r => r.drop k
theorem give_nsv {free n back : Int} {held wl : List (Int × Int)} (hb : (if n < getI held 99 then n else getI held 99) = back) (n9 : 99 ∉ wl.map (·.1)) : giv ⟨free, held, wl⟩ 99 n = back ∧ ∃ held', giveS ⟨free, held, wl⟩ 99 n = ((nsv wl (free + back)).1, ⟨(nsv wl (free + back)).2, held', wl.drop (nsv wl (free + back)).1.length⟩) ∧ getI held' 99 = getI held 99 - back ∧ held'.length ≤ held.length + 1 + (nsv wl (free + back)).1.length := by
  have eg : giv ⟨free, held, wl⟩ 99 n = back := by
    unfold giv
    rw [← hb]
    show (if getI held 99 < n then getI held 99 else n) = _
    split <;> split <;> omega
  refine ⟨eg, ?_⟩
  obtain ⟨x1, x2, x3, x4, x5⟩ := srv_nsv wl (outS ⟨free, held, wl⟩ 99 (-back)) rfl
  have ef : (outS ⟨free, held, wl⟩ 99 (-back)).free = free + back := by show free - -back = free + back; omega
  rw [ef] at x1 x2 x3 x5
  unfold giveS
  rw [eg]
  show ∃ held', srv wl (outS ⟨free, held, wl⟩ 99 (-back)) = _ ∧ _
  generalize srv wl (outS ⟨free, held, wl⟩ 99 (-back)) = z at *
  obtain ⟨z1, ⟨z2, z3, z4⟩⟩ := z
  have x1 : z1 = (nsv wl (free + back)).1 := x1
  have x2 : z2 = (nsv wl (free + back)).2 := x2
  have x3 : z4 = wl.drop (nsv wl (free + back)).1.length := x3
  refine ⟨z3, by rw [x1, x2, x3], (x4 n9).trans ?_, Nat.le_trans x5 ?_⟩
  · show getI (putI held 99 (getI held 99 + -back)) 99 = _
    rw [getI_self]; omega
  · have := putI_le (h := 99) (x := getI held 99 + -back) held
    show (putI held 99 (getI held 99 + -back)).length + _ ≤ _
    omega
def CsP (w : Str) (ps : List (Int × Int)) (cap : List (Option V)) (D : Addr) (i : Nat) (ys : List V) (σ1 : St) (H' : Hp) : Prop := Svd w (hide D H') ys (ps.take i) ∧ ∃ v0 v1, σ1 = v0 :: v1 :: cap
def LtI (CG CT gx dt a d q0 : Addr) (c cnt : Int) (H : Hp) (i : Nat) (σ : St) (H' : Hp) : Prop := ∃ (wq : Addr) (ws : List V) (wl held : List (Int × Int)) (free : Int) (v6 v7 v8 v9 : Option V), σ = [some (.int c), some (.ref wq), some (.int cnt), some (.ref gx), some (.int (getI held 99)), some (.int free), v6, v7, v8, v9] ∧ Same H H' ∧ G1 CG CT H' gx dt a d q0 ⟨free, held, wl⟩ ∧ H' wq = some (.lst ws) ∧ Prs H' ws wl ∧ wq ≠ q0 ∧ held.length + wl.length ≤ 21 + i ∧ (99 ∉ wl.map (·.1)) ∧ wl.length ≤ 20
section
variable {P : Program} {w : World} {K : PySem.W.Frag} {mg : Str → Option Value} {base : Heap}
def TkP (CG CT g dt a d q wp : Addr) (qs : List V) (ps : List (Int × Int)) (cnt : Int) (H0 : Hp) (D : Addr) (i : Nat) (ys : List V) (σ1 : St) (H' : Hp) : Prop := G1 CG CT H' g dt a d q ⟨0, [(99, cnt)], ps.take i⟩ ∧ ys = List.replicate i (V.bl false) ∧ H' wp = some (.lst qs) ∧ Prs H' qs ps ∧ D ≠ q ∧ D ≠ wp ∧ (∃ v0 v1, σ1 = [v0, v1, some (.ref g)]) ∧ Same H0 H' ∧ H0 D = none
def spLTool : Sp := fun vs H Q _ => ∃ (c : Int) (wp : Addr) (qs : List V) (ps : List (Int × Int)), vs = [.int c, .ref wp] ∧ H wp = some (.lst qs) ∧ Prs H qs ps ∧ ps.length ≤ 20 ∧ (∀ p ∈ ps, 0 < p.2 ∧ p.1 ≠ 99) ∧ ∀ H', Same H H' → Q (.bl true) H'
theorem ok_ltool {CG CT CS : Addr} (D : DefAt K mg "_law_tool" s__law_tool ["cell", "wants"]) (G__law_stir : OkD P w K mg base 1 "_law_stir" ["cell", "k"] spStir) (G__law_next_served : OkD P w K mg base 1 "_law_next_served" ["wants", "room"] spNext) (G_Goods : OkC P w K mg base 4 "Goods" CG ["self", "program"] (spGoodsI CG CT CS)) (G_Goods_take : OkM P w K mg base 2 CG "take" ["self", "hand", "name", "n"] (spTake CG CT)) (G_Goods_give : OkM P w K mg base 3 CG "give" ["self", "hand", "name", "n"] (spGive CG CT)) (G_Goods_tools : OkM P w K mg base 2 CG "tools" ["self"] (spTools CG CT)) (hlen : mg "len" = none) (hlist : mg "list" = none) (hrange : mg "range" = none) (hmin : mg "min" = none) : OkD P w K mg base 6 "_law_tool" ["cell", "wants"] spLTool := by
  refine D.ok sc__law_tool (fun vs H Q E h => ?_) (fun f cdv A outer s H vs Q E hr h => ?_)
  · obtain ⟨_, _, _, _, rfl, _⟩ := h; rfl
  obtain ⟨c, wp, qs, ps, rfl, hw, pw, b1, b2, q⟩ := h
  have hu := hu_of hr
  have hu64 := hr.units
  have big : 100000 ≤ sizeLine := by unfold sizeLine; decide
  have lq := pw.length
  refine ⟨_, (pss_cons (ps_set (i := 2) sc__law_tool.nd rfl (Or.inl rfl) (pe_op op_add pe_int (pe_op op_mod (pe_def G__law_stir hr rfl (pa_c (pv 0) (pa_c pe_int pa_nil))) pe_int)))
  (pss_cons (ps_set (i := 3) sc__law_tool.nd rfl (Or.inr rfl) (pe_makeG G_Goods hr rfl (pa_c (pe_tupG (pa_c (pe_lstG (pa_c (pe_tupG (pa_c pe_str (pa_c (pv 2) pa_nil))) pa_nil)) (pa_c (pe_lstG pa_nil) (pa_c (pe_lstG pa_nil) (pa_c (pe_lstG pa_nil) pa_nil))))) pa_nil)))
  (pss_cons (ps_if (pt_cmpR op_notB (pe_methG G_Goods_take hr (pv 3) (pa_c pe_int (pa_c pe_str (pa_c (pv 2) pa_nil)))) pe_bl (nomark _))
  (pss_one (ps_ret pe_bl))
  pss_nil)
  (pss_cons (ps_if (pt_cmpR (op_neD hu64) (pe_compN (comp_scopeN 2 (N := ["hand", "n", "goods"]) (cap := [3]) rfl rfl rfl rfl (by decide +kernel) rfl rfl rfl) rfl (pi_list (pv 1)) (fun _ _ _ _ => (pg_tupG 2 rfl (pgs_cons (pg_name (i := 0) (show List.Nodup (α := Str) ["hand", "n", "goods"] by decide +kernel) rfl (Or.inl (lookup_relabel_local rfl)) (Or.inr (lookup_relabel_local rfl))) (pgs_cons (pg_name (i := 1) (show List.Nodup (α := Str) ["hand", "n", "goods"] by decide +kernel) rfl (Or.inl (lookup_relabel_local rfl)) (Or.inr (lookup_relabel_local rfl))) pgs_nil)))) (fun _ _ _ _ => pts_nil) (fun _ _ _ _ => (pe_methG G_Goods_take hr (pv 2) (pa_c (pv 0) (pa_c pe_str (pa_c (pv 1) pa_nil)))))) (pe_op op_repG (pe_lstG (pa_c pe_bl pa_nil)) (pe_cB call_len_seq rfl hlen PySem.boot_len (pa_c (pv 1) pa_nil))) (nomark _))
  (pss_one (ps_ret pe_bl))
  pss_nil)
  (pss_cons (ps_set (i := 4) sc__law_tool.nd rfl (Or.inl rfl) (pv 2))
  (pss_cons (ps_set (i := 5) sc__law_tool.nd rfl (Or.inl rfl) pe_int)
  (pss_cons (ps_set (i := 1) sc__law_tool.nd rfl (Or.inl rfl) (pe_cTy call_listG rfl hlist (by decide +kernel) (pa_c (pv 1) pa_nil)))
  (pss_cons (ps_for PassesOwn.never rfl (pi_range1 rfl hrange (pa_c pe_int pa_nil)) (pg_name (i := 6) sc__law_tool.nd rfl (Or.inl rfl))
  (pss_cons (ps_set (i := 7) sc__law_tool.nd rfl (Or.inl rfl) (pe_op op_add pe_int (pe_op op_mod (pe_def G__law_stir hr rfl (pa_c (pv 0) (pa_c (pe_op op_add pe_int (pe_op op_mod (pv 6) pe_int)) pa_nil))) pe_int)))
  (pss_cons (ps_set (i := 8) sc__law_tool.nd rfl (Or.inl rfl) (pe_cB (call_min2 rfl) rfl hmin (by decide +kernel) (pa_c (pv 4) (pa_c (pv 7) pa_nil))))
  (pss_cons (ps_asg (pe_def G__law_next_served hr rfl (pa_c (pv 1) (pa_c (pe_op op_add (pv 5) (pv 8)) pa_nil))) (pg_lstG 2 rfl (pgs_cons (pg_name (i := 9) sc__law_tool.nd rfl (Or.inl rfl)) (pgs_cons (pg_name (i := 5) sc__law_tool.nd rfl (Or.inl rfl)) pgs_nil))))
  (pss_cons (ps_set (i := 1) sc__law_tool.nd rfl (Or.inl rfl) (pe_slice sl_g (pv 1) (po_some (pe_cB call_len_seq rfl hlen PySem.boot_len (pa_c (pv 9) pa_nil))) po_none))
  (pss_cons (ps_set (i := 4) sc__law_tool.nd rfl (Or.inl rfl) (pe_op op_sub (pv 4) (pv 8)))
  (pss_cons (ps_if (pt_cmpR (op_neD hu64) (pe_methG G_Goods_give hr (pv 3) (pa_c pe_int (pa_c pe_str (pa_c (pv 7) pa_nil)))) (pe_tupG (pa_c (pv 8) (pa_c (pe_compN (comp_scopeN 2 (N := ["hand", "many"]) (cap := []) rfl rfl rfl rfl (by decide +kernel) rfl rfl rfl) rfl (pi_list (pv 9)) (fun _ _ _ _ => (pg_tupG 2 rfl (pgs_cons (pg_name (i := 0) (show List.Nodup (α := Str) ["hand", "many"] by decide +kernel) rfl (Or.inl (lookup_relabel_local rfl)) (Or.inr (lookup_relabel_local rfl))) (pgs_cons (pg_name (i := 1) (show List.Nodup (α := Str) ["hand", "many"] by decide +kernel) rfl (Or.inl (lookup_relabel_local rfl)) (Or.inr (lookup_relabel_local rfl))) pgs_nil)))) (fun _ _ _ _ => pts_nil) (fun _ _ _ _ => (pe_tupG (pa_c (pv 0) (pa_c pe_str (pa_c (pv 1) pa_nil)))))) pa_nil))) (nomark _))
  (pss_one (ps_ret pe_bl))
  pss_nil)
  (pss_one (ps_if (PW.pt (pw_or (pt_cmpR op_ne (pe_ix ix_g (pe_ix ix_g (pe_meth0G G_Goods_tools hr (pv 3)) pe_int (fun _ _ => rfl)) pe_int (fun _ _ => rfl)) (pv 5) (nomark _)) (pw_or1 (pt_cmpR (op_neD hu64) (pe_ix ix_g (pe_ix ix_g (pe_meth0G G_Goods_tools hr (pv 3)) pe_int (fun _ _ => rfl)) pe_int (fun _ _ => rfl)) (pv 1) (nomark _)))))
  (pss_one (ps_ret pe_bl))
  pss_nil)))))))))
  (pss_one (ps_ret pe_bl)))))))))), ?_⟩
  walk_at "rd"
  refine ⟨c, 40, rfl, by decide, by decide, fun m m0 m1 => ⟨m, rfl, ?_⟩⟩
  have cp : 0 < 1 + m % 9 := by have := Int.emod_nonneg m (show (9 : Int) ≠ 0 by decide); omega
  generalize 1 + m % 9 = cnt at cp
  intro p1 H1 hp1 g1 h1 p2 H2 hp2 g2 h2 p3 H3 hp3 g3 h3 p4 H4 hp4 g4 h4 p5 H5 hp5 g5 h5 p6 H6 hp6 g6 h6 gx dx H7 hgx hdx g7 h7 hdx7
  have S37 : Same H3 H7 := ((g4.trans g5).trans g6).trans g7
  refine ⟨gx, dx, p6, p2, p3, _, _, [.ref p1], [], [("jig", cnt)], [], rfl, h7, g7 _ _ h6, S37 _ _ (g3 _ _ h2), .cons (S37 _ _ (g3 _ _ (g2 _ _ h1))) .nil, by simp, S37 _ _ h3, .nil, by simp, fun H8 dt ds es ss k8 hg8 hdt hds te ts em sm fe fs fdt fds => ⟨rfl, ?_⟩⟩
  obtain ⟨e, rfl, en, et⟩ : ∃ e : Ent, es = [e] ∧ e.name = "jig" ∧ e.t = ⟨cnt, [], []⟩ := by
    cases es with
    | nil => cases em
    | cons e es =>
      cases es with
      | nil =>
        simp only [List.map_cons, List.map_nil, List.cons.injEq, Prod.mk.injEq, and_true] at em
        exact ⟨e, rfl, em.1, em.2⟩
      | cons e' es => simp at em
  have S06 : Same H H6 := ((((g1.trans g2).trans g3).trans g4).trans g5).trans g6
  have S08 : Same H H8 := fun cc u hc => k8 cc u (ne_of_none (S06 _ _ hc) hgx) (g7 _ _ (S06 _ _ hc))
  have te := te e List.mem_cons_self
  have fe := fe e List.mem_cons_self
  rw [et] at te
  unfold kvE at hdt
  rw [List.map_cons, List.map_nil, en] at hdt
  have fe0 : ∀ cc, H7 cc = none → H cc = none := fun cc hc => S06.free (g7.free hc)
  obtain ⟨hea, hed, heq⟩ : H e.a = none ∧ H e.d = none ∧ H e.q = none := ⟨fe0 _ fe.1, fe0 _ fe.2.1, fe0 _ fe.2.2⟩
  generalize e.a = a at *
  generalize e.d = d at *
  generalize e.q = q0 at *
  clear em sm et en ts fs fe k8 h1 h2 h3 h4 h5 h6 h7 hdx7 hds
  walk_at "rd"
  refine ⟨gx, dx, dt, a, d, q0, .ref ds, _, "jig", 99, cnt, ⟨cnt, [], []⟩, rfl, hg8, hdt, rfl, te, by simp, by simp, fun H9 f9 t9 => ?_⟩
  have e9 : takeS ⟨cnt, [], []⟩ 99 cnt = (true, outS ⟨cnt, [], []⟩ 99 cnt) := by unfold takeS; rw [if_neg (by simp)]
  rw [e9] at t9 ⊢
  have G8 : G1 CG CT H8 gx dt a d q0 ⟨cnt, [], []⟩ := ⟨dx, _, hg8, hdt, te⟩
  have G9 := G8.fr f9 t9
  have eo : outS ⟨cnt, [], []⟩ 99 cnt = ⟨0, [(99, cnt)], []⟩ := by unfold outS; simp [putI, getI]
  rw [eo] at G9
  have S09 : Same H H9 := fun cc u hc => f9 cc u (ne_of_none hc hea) (ne_of_none hc hed) (ne_of_none hc heq) (S08 _ _ hc)
  clear e9 t9 eo
  walk_at "rd"
  refine iteF ?_
  have w9 := S09 _ _ hw
  have nwq : wp ≠ q0 := ne_of_none hw heq
  have pw9 : Prs H9 qs ps := pw.mono fun cc xs hc => S09 _ _ hc
  have bq : ∃ xq, H9 q0 = some (.lst xq) := by obtain ⟨_, _, _, _, _, xq, _, _, z, _⟩ := G9; exact ⟨xq, z⟩
  clear hg8 hdt te G8
  refine tcomp_in ?_
  simp only [iList]
  walk_at "rd"
  refine ⟨⟨_, SqL.of w9⟩, compM_list (TkP CG CT gx dt a d q0 wp qs ps cnt H) (fun D i ys σ H' pv => by unfold TkP at pv; exact pv.2.2.1) (fun D H' hD g h => ?_) ?_ ?_⟩
  · unfold TkP
    obtain ⟨xq, hxq⟩ := bq
    exact ⟨G9.same g, rfl, g _ _ w9, pw9.mono (fun cc xs hc => g _ _ hc), (ne_of_none hxq hD).symm, (ne_of_none w9 hD).symm, ⟨_, _, rfl⟩, S09.trans g, S09.free hD⟩
  · rintro D i x ys σ1 H10 hx hy ly pv
    unfold TkP at pv
    obtain ⟨G10, rfl, w10, pw10, nDq, nDw, ⟨v0, v1, rfl⟩, S10, hD0⟩ := pv
    obtain ⟨pp, h, n, rfl, ei, hpp⟩ := pw10.get hx
    obtain ⟨dx10, x10, gg10, gd10, tl10⟩ := id G10
    have hi : i < qs.length := (List.getElem?_eq_some_iff.mp hx).1
    have b3 := b2 _ (List.mem_of_getElem? ei)
    clear w9
    walk_at "rd"
    refine ⟨gx, dx10, dt, a, d, q0, x10, _, "jig", h, n, _, rfl, gg10, gd10, rfl, tl10, by show 1 < 50; decide, by show (ps.take i).length < 100; rw [List.length_take]; omega, fun H11 f11 t11 => ?_⟩
    have e11 : takeS ⟨0, [(99, cnt)], ps.take i⟩ h n = (false, ⟨0, [(99, cnt)], ps.take i ++ [(h, n)]⟩) := by unfold takeS; rw [if_pos (.inr b3.1)]
    rw [e11] at t11 ⊢
    have ne10 : ∀ {cc xs}, H10 cc = some (.lst xs) → cc ≠ q0 → H11 cc = some (.lst xs) := fun {cc xs} hc nq => by
      obtain ⟨_, _, j1, j2, _⟩ := tl10
      exact f11 _ _ (fun z => by rw [z, j1] at hc; cases hc) (fun z => by rw [z, j2] at hc; cases hc) nq hc
    refine putM hi (by omega) (ne10 hy nDq) ly fun H12 mu => ?_
    unfold TkP
    have G11 := G10.fr f11 t11
    rw [take_snoc ei]
    refine ⟨G11.mu mu (ne10 hy nDq) nDq, List.replicate_succ'.symm, mu.old (ne10 w10 nwq) (Ne.symm nDw), pw10.mono (fun cc xs hc => mu.old (tl10.kt f11 cc xs hc) (fun z => by rw [z, hy] at hc; cases hc)), nDq, nDw, ⟨_, _, rfl⟩, mu.same (fun cc u hc => f11 cc u (ne_of_none hc hea) (ne_of_none hc hed) (ne_of_none hc heq) (S10 _ _ hc)) hD0, hD0⟩
  · rintro D ys σ1 H10 hy pv
    unfold TkP at pv
    obtain ⟨G10, rfl, w10, pw10, nDq, nDw, _, S10, hD0⟩ := pv
    rw [lq, List.take_of_length_le (Nat.le_refl _)] at G10
    intro p7 H11 hp7 g11 h11
    refine ⟨qs, .inl (SqL.of (g11 _ _ w10)), _, h11, by omega, by omega, by simp only [List.length_singleton]; omega, fun p8 H12 hp8 g12 h12 => ?_⟩
    rw [Int.toNat_natCast, flat_fs] at h12
    refine ⟨_, _, .lst (g12 _ _ (g11 _ _ hy)) (rp_fs _), .lst h12 (rp_fs _), shaped_fs _, shaped_fs _, _, rfl, ?_⟩
    rw [eqv_sh (shaped_fs _)]
    have S12 := g11.trans g12
    refine iteF ⟨qs, .inl (S12 _ _ w10), fun p9 H13 hp9 g13 h13 => ?_⟩
    have S13 := S12.trans g13
    have G13 := G10.same S13
    have pw13 : Prs H13 qs ps := pw10.mono fun cc xs hc => S13 _ _ hc
    have n9 : p9 ≠ q0 := by
      obtain ⟨_, _, _, _, _, xq, _, _, z, _⟩ := G10
      exact (ne_of_none (S12 _ _ z) hp9).symm
    have i9 : 99 ∉ ps.map (·.1) := fun z => by
      obtain ⟨p, hp, e⟩ := List.mem_map.mp z
      exact (b2 p hp).2 e
    have SS13 := S10.trans S13
    clear hy w10 h11 h12 w9
    refine tfor_in ?_
    simp only [iRng1]
    walk_at "rd"
    refine for_range (LtI CG CT gx dt a d q0 c cnt H) ?_ ?_ ?_
    · unfold LtI
      exact ⟨p9, qs, ps, [(99, cnt)], 0, _, _, _, _, rfl, SS13, G13, h13, pw13, n9, by simp only [List.length_singleton]; omega, i9, b1⟩
    · clear h13 G13 pw13 n9
      intro i σ H14 hi z
      unfold LtI at z
      obtain ⟨wq, ws, wl, held, free, v6, v7, v8, v9, rfl, S14, G14, w14, pw14, nw, bl, n99, bw⟩ := z
      clear hw pw b1 b2 g1 g2 g3 g4 g5 g6 g7 hp1 hp2 hp3 hp4 hp5 hp6 hgx hdx S37 fdt fds te fe S06 S08 fe0 f9 G9 S09 nwq pw9 bq G10 pw10 nDq nDw S10 hD0 hp7 g11 hp8 g12 S12 hp9 g13 S13 i9 SS13 lq q
      walk_at "rd"
      refine ⟨c, 41 + (0 + i) % 18, rfl, by omega, by omega, fun m m0 m1 => ⟨m, rfl, ?_⟩⟩
      generalize 1 + m % 3 = n
      generalize hb : (if n < getI held 99 then n else getI held 99) = back
      refine ⟨wq, ws, wl, free + back, rfl, w14, pw14, by omega, fun r sp H15 sv hsp g15 h15 hsv psv => ⟨r, rfl, _, h15, rfl, _, _, rfl, _, _, rfl, rfl, sp, rfl, sv, .inl (SqL.of hsv), ws, .inr ⟨g15 _ _ w14, fun wq2 H16 hwq2 g16 h16 => ?_⟩⟩⟩
      have lsv := psv.length
      have ln := nsv_le wl (free + back)
      have lws := pw14.length
      rw [if_neg (by omega), Int.toNat_natCast, Nat.min_eq_left (by omega), List.take_of_length_le (by rw [List.length_drop]; omega), lsv] at h16
      have S16 := g15.trans g16
      have G16 := G14.same S16
      obtain ⟨dxg, xg, gg, gd, tlg⟩ := id G16
      walk_at "rd"
      obtain ⟨eg, held', eS, gh, bh⟩ := give_nsv (free := free) hb n99
      refine ⟨gx, dxg, dt, a, d, q0, xg, _, "jig", 99, n, _, rfl, gg, gd, rfl, tlg, by show held.length + wl.length < 50; omega, fun H17 pr rr sv17 f17 hrr h17 hsv17 sd17 t17 => ?_⟩
      rw [eg] at h17
      rw [eS] at sd17 t17
      have G17 := G16.fr f17 t17
      have fl : ∀ {cc xs}, H16 cc = some (.lst xs) → cc ≠ q0 → H17 cc = some (.lst xs) := fun {cc xs} hc nq => by
        obtain ⟨_, _, j1, j2, _⟩ := tlg
        exact f17 _ _ (fun z => by rw [z, j1] at hc; cases hc) (fun z => by rw [z, j2] at hc; cases hc) nq hc
      obtain ⟨xq, hxq⟩ : ∃ xq, H14 q0 = some (.lst xq) := by obtain ⟨_, _, _, _, _, xq, _, _, z, _⟩ := G14; exact ⟨xq, z⟩
      have nsp : sp ≠ q0 := (ne_of_none hxq hsp).symm
      have nw2 : wq2 ≠ q0 := (ne_of_none (g15 _ _ hxq) hwq2).symm
      have hs17 := fl (g16 _ _ hsv) nsp
      have w17 := fl h16 nw2
      have psv17 : Prs H17 sv (nsv wl (free + back)).1 := psv.mono fun cc xs hc => tlg.kt f17 cc xs (g16 _ _ hc)
      have pw17 : Prs H17 (ws.drop (nsv wl (free + back)).1.length) (wl.drop (nsv wl (free + back)).1.length) := (pw14.drop _).mono fun cc xs hc => tlg.kt f17 cc xs (S16 _ _ hc)
      have S17 : Same H H17 := fun cc u hc => f17 cc u (ne_of_none hc hea) (ne_of_none hc hed) (ne_of_none hc heq) (S16 _ _ (S14 _ _ hc))
      clear gg gd h15 hsv w14 h16
      refine tcomp_in ?_
      simp only [iList]
      walk_at "rd"
      refine ⟨⟨_, SqL.of hs17⟩, compJD_list hs17 (by omega) (CsP "takes" (nsv wl (free + back)).1 []) (fun D H' _ _ _ => by unfold CsP; exact ⟨.nil, _, _, rfl⟩) ?_ ?_⟩
      · rintro D j x zs σ1 H18 hx at1 pv
        unfold CsP at pv
        obtain ⟨pt, v0, v1, rfl⟩ := pv
        obtain ⟨p, h, k, rfl, en, hp⟩ := psv17.get hx
        have hp1 := at1.same _ _ hp
        clear hs17 w17
        walk_at "rd"
        intro p4 H19 hp4 g19 h19
        refine at1.put g19 fun H20 mu => ?_
        unfold CsP
        have hD1 := at1.lst
        have nD : p4 ≠ D := (ne_of_none hD1 hp4).symm
        rw [take_snoc en]
        exact ⟨(pt.mono fun cc xs hc => ((hide_same g19).trans (hide_mu mu)) _ _ hc).snoc (hide_of nD (mu.old h19 nD)), _, _, rfl⟩
      · rintro D zs σ1 H18 hD g18 hy hle pv
        unfold CsP at pv
        obtain ⟨pt, v0, v1, rfl⟩ := pv
        rw [lsv, List.take_of_length_le (Nat.le_refl _)] at pt
        intro p21 H21 hp21 g21 h21
        have S21 : Same H17 H21 := g18.trans g21
        have ok2 : SeqAt.shaped (.tuple [.int back, svD "takes" (nsv wl (free + back)).1]) = true := shaped_two rfl (by simp [PyData.depth]) (by with_unfolding_all decide) _
        refine ⟨.tuple [.int back, svD "takes" (nsv wl (free + back)).1], .tuple [.int back, svD "takes" (nsv wl (free + back)).1], .tup (S21 _ _ h17) (.cons (.int _) (.cons (.lst (S21 _ _ hsv17) (sd17.mono fun cc xs hc => S21 _ _ hc).rp) .nil)), .tup h21 (.cons (.int _) (.cons (.lst (g21 _ _ hy) (pt.mono fun cc xs hc => g21 _ _ (hide_le _ _ hc)).rp) .nil)), ok2, ok2, _, rfl, ?_⟩
        rw [eqv_sh ok2]
        refine iteF ?_
        have G21 := G17.same S21
        obtain ⟨dx1, xg1, gg1, gd1, tl1⟩ := id G21
        have w21 := S21 _ _ w17
        clear hs17 w17 h17 hsv17 h21 hy
        walk_at "rd"
        refine ⟨gx, dx1, dt, xg1, [⟨"jig", a, d, q0, _⟩], rfl, gg1, gd1, (fun e he => by rw [List.mem_singleton.mp he]; exact tl1), by simp, fun r1 H22 vs1 hr1 g22 h22 tl22 => ?_⟩
        obtain ⟨v, hd, rfl, td⟩ : ∃ v hd, vs1 = [v] ∧ Told H21 H22 v ⟨(nsv wl (free + back)).2, held', wl.drop (nsv wl (free + back)).1.length⟩ hd := by
          cases tl22 with
          | cons h r => cases r; exact ⟨_, _, rfl, h⟩
        obtain ⟨pv, ph, pq, hs, qs, rfl, t1, t2, t3, t4, t5, t6, t7⟩ := td
        have t1 : H22 pv = some (.tup [.int (nsv wl (free + back)).2, .ref ph, .ref pq]) := t1
        have gg2 := g22 _ _ gg1
        have gd2 := g22 _ _ gd1
        have tl2 := tl1.same g22
        have w22 := g22 _ _ w21
        clear gg1 gd1 w21
        walk_at "rd"
        refine ⟨gx, dx1, dt, xg1, [⟨"jig", a, d, q0, _⟩], rfl, gg2, gd2, (fun e he => by rw [List.mem_singleton.mp he]; exact tl2), by simp, fun r3 H23 vs3 hr3 g23 h23 tl23 => ?_⟩
        obtain ⟨v, hd, rfl, td⟩ : ∃ v hd, vs3 = [v] ∧ Told H22 H23 v ⟨(nsv wl (free + back)).2, held', wl.drop (nsv wl (free + back)).1.length⟩ hd := by
          cases tl23 with
          | cons h r => cases r; exact ⟨_, _, rfl, h⟩
        obtain ⟨pv3, ph3, pq3, hs3, qs3, rfl, r1, r2, r3, r4, r5, r6, r7⟩ := td
        have r1 : H23 pv3 = some (.tup [.int (nsv wl (free + back)).2, .ref ph3, .ref pq3]) := r1
        have S23 := g22.trans g23
        have w23 := g23 _ _ w22
        have pw23 : Prs H23 (ws.drop (nsv wl (free + back)).1.length) (wl.drop (nsv wl (free + back)).1.length) := pw17.mono fun cc xs hc => S23 _ _ (S21 _ _ hc)
        clear gg2 gd2 w22 h22 t1 t2 t4
        walk_at "rd"
        refine ⟨prD (wl.drop (nsv wl (free + back)).1.length), prD (wl.drop (nsv wl (free + back)).1.length), .lst r4 r5.rp, .lst w23 pw23.rp, shaped_prs _, shaped_prs _, _, rfl, ?_⟩
        rw [eqv_sh (shaped_prs _)]
        refine iteF ?_
        unfold LtI
        refine ⟨wq2, _, _, held', _, _, _, _, _, by rw [gh], (S17.trans S21).trans S23, G21.same S23, w23, pw23, nw2, ?_, fun z => n99 ?_, ?_⟩
        · rw [List.length_drop]; omega
        · obtain ⟨p, hp, e⟩ := List.mem_map.mp z
          exact List.mem_map.mpr ⟨p, List.mem_of_mem_drop hp, e⟩
        · rw [List.length_drop]; omega
    · intro σ H14 z
      unfold LtI at z
      obtain ⟨wq, ws, wl, held, free, v6, v7, v8, v9, rfl, S14, G14, w14, pw14, nw, bl, n99, bw⟩ := z
      walk_at "rd"
end
end K24

set_option Elab.async false
set_option linter.all false
set_option maxRecDepth 100000
set_option maxHeartbeats 4000000
namespace K24
open PySem L2
def wd (b : Bool) : Str := if b = true then "put" else "get"
theorem wd_s (b : Bool) : wd b ++ "s" = wordOf (!b) := by cases b <;> with_unfolding_all rfl
theorem wd_len (b : Bool) : (wd b).length ≤ 3 := by cases b <;> with_unfolding_all decide
theorem wd_put (b : Bool) : (wd b = "put") = (b = true) := by
  cases b
  · refine propext ⟨fun z => ?_, fun z => by cases z⟩
    have z : ("get" : Str) = "put" := z
    simp only [ofString_inj, String.reduceEq] at z
  · exact propext ⟨fun _ => rfl, fun _ => rfl⟩
theorem StO.kt {C : Addr} {H H' : Hp} {a d q : Addr} {t : SS} (h : StO C H a d q t) (f : Fr3 a d q H H') : ∀ c xs, H c = some (.tup xs) → H' c = some (.tup xs) := fun c xs hc => f c _ (h.ne c xs hc).1 (h.ne c xs hc).2.1 (h.ne c xs hc).2.2 hc
theorem StO.kl {C : Addr} {H H' : Hp} {a d q : Addr} {t : SS} (h : StO C H a d q t) (f : Fr3 a d q H H') {c : Addr} {xs : List V} (hc : H c = some (.lst xs)) (n1 : c ≠ d) (n2 : c ≠ q) : H' c = some (.lst xs) := by
  obtain ⟨_, _, _, k1, _⟩ := h
  exact f c _ (fun z => by rw [z, k1] at hc; cases hc) n1 n2 hc
def qS (b : Bool) (most r : Int) (wl : List (Int × Int)) : SS := if b = true then ⟨most - r, most, [], wl⟩ else ⟨r, most, wl, []⟩
theorem sbt_nsv {b : Bool} {most : Int} : ∀ {wl : List (Int × Int)} {r : Int} {its : List (Int × Bool × Int)} {s' : SS}, Sbt (qS b most r wl) its s' → its = (nsv wl r).1.map (fun p => (p.1, !b, p.2)) ∧ s' = qS b most (nsv wl r).2 (wl.drop (nsv wl r).1.length)
  | [], r, its, s', h => by
    have e : stp (qS b most r []) = none := by cases b <;> rfl
    cases h with
    | done _ => exact ⟨rfl, rfl⟩
    | step h1 _ => rw [e] at h1; cases h1
  | (h, n) :: wl, r, its, s', hs => by
    by_cases c : n > r
    · have e : stp (qS b most r ((h, n) :: wl)) = none := by
        cases b
        · show (if n ≤ r then _ else _) = _
          rw [if_neg (by omega)]; rfl
        · show (if most - r + n ≤ most then _ else _) = _
          rw [if_neg (by omega)]
      rw [nsv_no c]
      cases hs with
      | done _ => exact ⟨rfl, rfl⟩
      | step h1 _ => rw [e] at h1; cases h1
    · have e : stp (qS b most r ((h, n) :: wl)) = some ((h, !b, n), qS b most (r - n) wl) := by
        cases b
        · show (if n ≤ r then _ else _) = _
          rw [if_pos (by omega)]; rfl
        · show (if most - r + n ≤ most then _ else _) = _
          rw [if_pos (by omega)]
          show some ((h, false, n), (⟨most - r + n, most, [], wl⟩ : SS)) = some ((h, false, n), (⟨most - (r - n), most, [], wl⟩ : SS))
          rw [show most - r + n = most - (r - n) by omega]
      rw [nsv_go c]
      cases hs with
      | done h1 => rw [e] at h1; cases h1
      | step h1 h2 =>
        rw [e] at h1
        cases h1
        obtain ⟨i1, i2⟩ := sbt_nsv h2
        exact ⟨by rw [i1]; rfl, i2⟩
theorem Sv3.svd {b : Bool} {H : Hp} : ∀ {vs : List V} {ps : List (Int × Int)}, Sv3 H vs (ps.map fun p => (p.1, b, p.2)) → Svd (wordOf b) H vs ps
  | _, [], h => by cases h; exact .nil
  | _, p :: ps, h => by
    cases h with
    | cons h r => exact .cons h r.svd
/-- goods with one store, as they lie -/
def GS (CG CS : Addr) (H : Hp) (g dt a gg pp : Addr) (s : SS) : Prop := ∃ dx x, H g = some (.ins CG dx [("by_tool", x), ("by_store", .ref dt)]) ∧ H dt = some (.dK [(Sum.inr "bin", .ref a)]) ∧ StO CS H a gg pp s
theorem GS.fr {CG CS : Addr} {H H' : Hp} {g dt a d q : Addr} {t t' : SS} (h : GS CG CS H g dt a d q t) (f : Fr3 a d q H H') (h' : StO CS H' a d q t') : GS CG CS H' g dt a d q t' := by
  obtain ⟨dx, x, h1, h2, ⟨dx', gs, ps, k1, k2, k3, k4, _⟩⟩ := h
  refine ⟨dx, x, f _ _ (fun z => ?_) (fun z => ?_) (fun z => ?_) h1, f _ _ (fun z => ?_) (fun z => ?_) (fun z => ?_) h2, h'⟩
  · rw [z, k1] at h1
    have h3 := HO.ins.inj (Option.some.inj h1)
    have h4 := h3.2.2
    simp only [List.cons.injEq, Prod.mk.injEq, ofString_inj, String.reduceEq, false_and] at h4
  · rw [z, k2] at h1; cases h1
  · rw [z, k4] at h1; cases h1
  · rw [z, k1] at h2; cases h2
  · rw [z, k2] at h2; cases h2
  · rw [z, k4] at h2; cases h2
theorem GS.same {CG CS : Addr} {H H' : Hp} {g dt a d q : Addr} {t : SS} (k : Same H H') (h : GS CG CS H g dt a d q t) : GS CG CS H' g dt a d q t := by
  obtain ⟨dx, x, h1, h2, h3⟩ := h
  exact ⟨dx, x, k _ _ h1, k _ _ h2, h3.same k⟩
def LwI (CG CS gx ds a gg pp wp : Addr) (c most : Int) (b : Bool) (ps : List (Int × Int)) (H : Hp) (i : Nat) (σ : St) (H' : Hp) : Prop := ∃ (v5 v6 v7 : Option V), σ = [some (.int c), some (.ref wp), some (.str (wd b)), some (.int most), some (.ref gx), v5, v6, v7, none, none, none, none, none, none] ∧ Same H H' ∧ GS CG CS H' gx ds a gg pp (qS b most 0 (ps.take i))
def LsI (CG CS gx ds a gg pp : Addr) (c most : Int) (b : Bool) (H : Hp) (i : Nat) (σ : St) (H' : Hp) : Prop := ∃ (wq : Addr) (ws : List V) (wl : List (Int × Int)) (rm : Int) (v5 v6 v7 v9 v10 v11 v12 v13 : Option V), σ = [some (.int c), some (.ref wq), some (.str (wd b)), some (.int most), some (.ref gx), v5, v6, v7, some (.int rm), v9, v10, v11, v12, v13] ∧ Same H H' ∧ GS CG CS H' gx ds a gg pp (qS b most rm wl) ∧ H' wq = some (.lst ws) ∧ Prs H' ws wl ∧ wq ≠ gg ∧ wq ≠ pp ∧ wl.length ≤ 20
theorem wd_ok (b : Bool) : PyData.strOk (wordOf b) = true := by cases b <;> with_unfolding_all rfl
theorem put_wait {most h n : Int} {wl : List (Int × Int)} {b : Bool} {its : List (Int × Bool × Int)} {s' : SS} (hn : 0 < n) (r : PutR (qS true most 0 wl) h n b its s') : b = false ∧ its = [] ∧ s' = qS true most 0 (wl ++ [(h, n)]) := by
  have c : (qS true most 0 wl).puts ≠ [] ∨ (qS true most 0 wl).most < (qS true most 0 wl).level + n := .inr (by show most < most - 0 + n; omega)
  unfold PutR at r
  rw [if_pos c] at r
  exact r
theorem get_wait {most h n : Int} {wl : List (Int × Int)} {b : Bool} {its : List (Int × Bool × Int)} {s' : SS} (hn : 0 < n) (r : GetR (qS false most 0 wl) h n b its s') : b = false ∧ its = [] ∧ s' = qS false most 0 (wl ++ [(h, n)]) := by
  have c : (qS false most 0 wl).gets ≠ [] ∨ (qS false most 0 wl).level < n := .inr hn
  unfold GetR at r
  rw [if_pos c] at r
  exact r
theorem get_go {most rm h n : Int} {wl : List (Int × Int)} {b : Bool} {its : List (Int × Bool × Int)} {s' : SS} (hn : ¬ n > most - rm) (r : GetR (qS true most rm wl) h n b its s') : b = true ∧ its = (nsv wl (rm + n)).1.map (fun p => (p.1, !true, p.2)) ∧ s' = qS true most (nsv wl (rm + n)).2 (wl.drop (nsv wl (rm + n)).1.length) := by
  have c : ¬ ((qS true most rm wl).gets ≠ [] ∨ (qS true most rm wl).level < n) := fun z => z.elim (fun z => z rfl) (fun z => by have z : most - rm < n := z; omega)
  unfold GetR at r
  rw [if_neg c] at r
  have e : (⟨(qS true most rm wl).level - n, (qS true most rm wl).most, (qS true most rm wl).gets, (qS true most rm wl).puts⟩ : SS) = qS true most (rm + n) wl := by
    show (⟨most - rm - n, most, [], wl⟩ : SS) = ⟨most - (rm + n), most, [], wl⟩
    rw [show most - rm - n = most - (rm + n) by omega]
  rw [e] at r
  exact ⟨r.1, sbt_nsv r.2⟩
theorem put_go {most rm h n : Int} {wl : List (Int × Int)} {b : Bool} {its : List (Int × Bool × Int)} {s' : SS} (hn : ¬ n > most - rm) (r : PutR (qS false most rm wl) h n b its s') : b = true ∧ its = (nsv wl (rm + n)).1.map (fun p => (p.1, !false, p.2)) ∧ s' = qS false most (nsv wl (rm + n)).2 (wl.drop (nsv wl (rm + n)).1.length) := by
  have c : ¬ ((qS false most rm wl).puts ≠ [] ∨ (qS false most rm wl).most < (qS false most rm wl).level + n) := fun z => z.elim (fun z => z rfl) (fun z => by have z : most < rm + n := z; omega)
  unfold PutR at r
  rw [if_neg c] at r
  exact ⟨r.1, sbt_nsv (wl := wl) (r := rm + n) r.2⟩
section
variable {P : Program} {w : World} {K : PySem.W.Frag} {mg : Str → Option Value} {base : Heap}
theorem two_wait {CG CS gx ds a gg pp : Addr} {b : Bool} {most h n : Int} {wl : List (Int × Int)} {H : Hp} {Kx : VK} (G : GS CG CS H gx ds a gg pp (qS b most 0 wl)) (hn : 0 < n) (hl : wl.length < 100) (k : ∀ (H' : Hp) (p r : Addr), Fr3 a gg pp H H' → H r = none → H' p = some (.tup [.bl false, .ref r]) → H' r = some (.lst []) → StO CS H' a gg pp (qS b most 0 (wl ++ [(h, n)])) → Kx (.ref p) H') : if b = true then spPut CG CS [.ref gx, .int h, .str "bin", .int n] H Kx E0 else spGet CG CS [.ref gx, .int h, .str "bin", .int n] H Kx E0 := by
  obtain ⟨dx, x, g1, g2, st⟩ := G
  cases b
  · refine iteF ⟨gx, dx, ds, a, gg, pp, x, _, "bin", h, n, _, rfl, g1, g2, rfl, st, hl, by show 0 < 100; decide, fun H' p r sv bo its s' f hr hp hl3 s3 st' pr => ?_⟩
    obtain ⟨rfl, rfl, rfl⟩ := get_wait hn pr
    cases s3
    exact k H' p r f hr hp hl3 st'
  · refine iteT ⟨gx, dx, ds, a, gg, pp, x, _, "bin", h, n, _, rfl, g1, g2, rfl, st, by show 0 < 100; decide, hl, fun H' p r sv bo its s' f hr hp hl3 s3 st' pr => ?_⟩
    obtain ⟨rfl, rfl, rfl⟩ := put_wait hn pr
    cases s3
    exact k H' p r f hr hp hl3 st'
theorem two_go {CG CS gx ds a gg pp : Addr} {b : Bool} {most rm h n : Int} {wl : List (Int × Int)} {H : Hp} {Kx : VK} (G : GS CG CS H gx ds a gg pp (qS b most rm wl)) (hn : ¬ n > most - rm) (hl : wl.length < 100) (k : ∀ (H' : Hp) (p r : Addr) (sv : List V), Fr3 a gg pp H H' → H r = none → H' p = some (.tup [.bl true, .ref r]) → H' r = some (.lst sv) → Svd (wordOf (!b)) H' sv (nsv wl (rm + n)).1 → StO CS H' a gg pp (qS b most (nsv wl (rm + n)).2 (wl.drop (nsv wl (rm + n)).1.length)) → Kx (.ref p) H') : if b = true then spGet CG CS [.ref gx, .int h, .str "bin", .int n] H Kx E0 else spPut CG CS [.ref gx, .int h, .str "bin", .int n] H Kx E0 := by
  obtain ⟨dx, x, g1, g2, st⟩ := G
  cases b
  · refine iteF ⟨gx, dx, ds, a, gg, pp, x, _, "bin", h, n, _, rfl, g1, g2, rfl, st, hl, by show 0 < 100; decide, fun H' p r sv bo its s' f hr hp hl3 s3 st' pr => ?_⟩
    obtain ⟨rfl, rfl, rfl⟩ := put_go hn pr
    exact k H' p r sv f hr hp hl3 s3.svd st'
  · refine iteT ⟨gx, dx, ds, a, gg, pp, x, _, "bin", h, n, _, rfl, g1, g2, rfl, st, by show 0 < 100; decide, hl, fun H' p r sv bo its s' f hr hp hl3 s3 st' pr => ?_⟩
    obtain ⟨rfl, rfl, rfl⟩ := get_go hn pr
    exact k H' p r sv f hr hp hl3 s3.svd st'
def spLStore : Sp := fun vs H Q _ => ∃ (c : Int) (wp : Addr) (qs : List V) (ps : List (Int × Int)) (b : Bool), vs = [.int c, .ref wp, .str (wd b)] ∧ H wp = some (.lst qs) ∧ Prs H qs ps ∧ ps.length ≤ 20 ∧ (∀ p ∈ ps, 0 < p.2) ∧ ∀ H', Same H H' → Q (.bl true) H'
theorem ok_lstore {CG CT CS : Addr} (D : DefAt K mg "_law_store" s__law_store ["cell", "wants", "word"]) (G__law_stir : OkD P w K mg base 1 "_law_stir" ["cell", "k"] spStir) (G__law_next_served : OkD P w K mg base 1 "_law_next_served" ["wants", "room"] spNext) (G_Goods : OkC P w K mg base 4 "Goods" CG ["self", "program"] (spGoodsI CG CT CS)) (G_Goods_put : OkM P w K mg base 2 CG "put" ["self", "hand", "name", "n"] (spPut CG CS)) (G_Goods_get : OkM P w K mg base 2 CG "get" ["self", "hand", "name", "n"] (spGet CG CS)) (G_Goods_stores : OkM P w K mg base 2 CG "stores" ["self"] (spStores CG CS)) (hlen : mg "len" = none) (hlist : mg "list" = none) (hrange : mg "range" = none) (hint : mg "int" = none) : OkD P w K mg base 6 "_law_store" ["cell", "wants", "word"] spLStore := by
  refine D.ok sc__law_store (fun vs H Q E h => ?_) (fun f cdv A outer s H vs Q E hr h => ?_)
  · obtain ⟨_, _, _, _, _, rfl, _⟩ := h; rfl
  obtain ⟨c, wp, qs, ps, b, rfl, hw, pw, b1, b2, q⟩ := h
  have hu := hu_of hr
  have hu64 := hr.units
  have big : 100000 ≤ sizeLine := by unfold sizeLine; decide
  have lq := pw.length
  have ewd := wd_put b
  refine ⟨_, (pss_cons (ps_set (i := 3) sc__law_store.nd rfl (Or.inl rfl) (pe_op op_add pe_int (pe_op op_mod (pe_def G__law_stir hr rfl (pa_c (pv 0) (pa_c pe_int pa_nil))) pe_int)))
  (pss_cons (ps_set (i := 4) sc__law_store.nd rfl (Or.inl rfl) (pe_makeG G_Goods hr rfl (pa_c (pe_tupG (pa_c (pe_lstG pa_nil) (pa_c (pe_lstG (pa_c (pe_tupG (pa_c pe_str (pa_c (pe_ix ix_g (pe_lstG (pa_c pe_int (pa_c (pv 3) pa_nil))) (pe_cTy call_int1 rfl hint (by decide +kernel) (pa_c (pe_cmpR op_eq (pv 2) pe_str (nomark _)) pa_nil)) (fun _ _ => rfl)) (pa_c (pv 3) pa_nil)))) pa_nil)) (pa_c (pe_lstG pa_nil) (pa_c (pe_lstG pa_nil) pa_nil))))) pa_nil)))
  (pss_cons (ps_for PassesOwn.never rfl (pi_list (pv 1)) (pg_tupG 2 rfl (pgs_cons (pg_name (i := 5) sc__law_store.nd rfl (Or.inl rfl)) (pgs_cons (pg_name (i := 6) sc__law_store.nd rfl (Or.inl rfl)) pgs_nil)))
  (pss_cons (ps_if (pt_cmpR op_eq (pv 2) pe_str (nomark _))
  (pss_one (ps_set (i := 7) sc__law_store.nd rfl (Or.inl rfl) (pe_methG G_Goods_put hr (pv 4) (pa_c (pv 5) (pa_c pe_str (pa_c (pv 6) pa_nil))))))
  (pss_one (ps_set (i := 7) sc__law_store.nd rfl (Or.inl rfl) (pe_methG G_Goods_get hr (pv 4) (pa_c (pv 5) (pa_c pe_str (pa_c (pv 6) pa_nil)))))))
  (pss_one (ps_if (pt_cmpR (op_neD hu64) (pv 7) (pe_tupG (pa_c pe_bl (pa_c (pe_lstG pa_nil) pa_nil))) (nomark _))
  (pss_one (ps_ret pe_bl))
  pss_nil))))
  (pss_cons (ps_set (i := 1) sc__law_store.nd rfl (Or.inl rfl) (pe_cTy call_listG rfl hlist (by decide +kernel) (pa_c (pv 1) pa_nil)))
  (pss_cons (ps_set (i := 8) sc__law_store.nd rfl (Or.inl rfl) pe_int)
  (pss_cons (ps_for PassesOwn.never rfl (pi_range1 rfl hrange (pa_c pe_int pa_nil)) (pg_name (i := 9) sc__law_store.nd rfl (Or.inl rfl))
  (pss_cons (ps_set (i := 6) sc__law_store.nd rfl (Or.inl rfl) (pe_op op_add pe_int (pe_op op_mod (pe_def G__law_stir hr rfl (pa_c (pv 0) (pa_c (pe_op op_add pe_int (pe_op op_mod (pv 9) pe_int)) pa_nil))) pe_int)))
  (pss_cons (ps_if (pt_cmpR op_gt (pv 6) (pe_op op_sub (pv 3) (pv 8)) (nomark _))
  (pss_one ps_continue)
  pss_nil)
  (pss_cons (ps_asg (pe_def G__law_next_served hr rfl (pa_c (pv 1) (pa_c (pe_op op_add (pv 8) (pv 6)) pa_nil))) (pg_lstG 2 rfl (pgs_cons (pg_name (i := 10) sc__law_store.nd rfl (Or.inl rfl)) (pgs_cons (pg_name (i := 8) sc__law_store.nd rfl (Or.inl rfl)) pgs_nil))))
  (pss_cons (ps_set (i := 1) sc__law_store.nd rfl (Or.inl rfl) (pe_slice sl_g (pv 1) (po_some (pe_cB call_len_seq rfl hlen PySem.boot_len (pa_c (pv 10) pa_nil))) po_none))
  (pss_cons (ps_if (pt_cmpR op_eq (pv 2) pe_str (nomark _))
  (pss_one (ps_set (i := 7) sc__law_store.nd rfl (Or.inl rfl) (pe_methG G_Goods_get hr (pv 4) (pa_c (pe_op op_add pe_int (pv 9)) (pa_c pe_str (pa_c (pv 6) pa_nil))))))
  (pss_one (ps_set (i := 7) sc__law_store.nd rfl (Or.inl rfl) (pe_methG G_Goods_put hr (pv 4) (pa_c (pe_op op_add pe_int (pv 9)) (pa_c pe_str (pa_c (pv 6) pa_nil)))))))
  (pss_cons (ps_if (pt_cmpR (op_neD hu64) (pv 7) (pe_tupG (pa_c pe_bl (pa_c (pe_compN (comp_scopeN 2 (N := ["hand", "many", "word"]) (cap := [2]) rfl rfl rfl rfl (by decide +kernel) rfl rfl rfl) rfl (pi_list (pv 10)) (fun _ _ _ _ => (pg_tupG 2 rfl (pgs_cons (pg_name (i := 0) (show List.Nodup (α := Str) ["hand", "many", "word"] by decide +kernel) rfl (Or.inl (lookup_relabel_local rfl)) (Or.inr (lookup_relabel_local rfl))) (pgs_cons (pg_name (i := 1) (show List.Nodup (α := Str) ["hand", "many", "word"] by decide +kernel) rfl (Or.inl (lookup_relabel_local rfl)) (Or.inr (lookup_relabel_local rfl))) pgs_nil)))) (fun _ _ _ _ => pts_nil) (fun _ _ _ _ => (pe_tupG (pa_c (pv 0) (pa_c (pe_op op_add_str (pv 2) pe_str) (pa_c (pv 1) pa_nil)))))) pa_nil))) (nomark _))
  (pss_one (ps_ret pe_bl))
  pss_nil)
  (pss_cons (ps_asg (pe_ix ix_g (pe_meth0G G_Goods_stores hr (pv 4)) pe_int (fun _ _ => rfl)) (pg_tupG 3 rfl (pgs_cons (pg_name (i := 11) sc__law_store.nd rfl (Or.inl rfl)) (pgs_cons (pg_name (i := 12) sc__law_store.nd rfl (Or.inl rfl)) (pgs_cons (pg_name (i := 13) sc__law_store.nd rfl (Or.inl rfl)) pgs_nil)))))
  (pss_cons (ps_if (pt_cmpR op_eq (pv 2) pe_str (nomark _))
  (pss_cons (ps_set (i := 11) sc__law_store.nd rfl (Or.inl rfl) (pe_op op_sub (pv 3) (pv 11)))
  (pss_one (ps_set (i := 12) sc__law_store.nd rfl (Or.inl rfl) (pv 13))))
  pss_nil)
  (pss_one (ps_if (PW.pt (pw_or (pt_cmpR (op_neD hu64) (pv 12) (pv 1) (nomark _)) (pw_or1 (pt_cmpR op_ne (pv 11) (pv 8) (nomark _)))))
  (pss_one (ps_ret pe_bl))
  pss_nil)))))))))))
  (pss_one (ps_ret pe_bl)))))))), ?_⟩
  walk_at "rd"
  refine ⟨c, 59, rfl, by decide, by decide, fun m m0 m1 => ⟨m, rfl, ?_⟩⟩
  generalize 1 + m % 12 = most
  generalize hlv : (if b = true then most else 0) = lv
  have ea : atI [V.int 0, V.int most] (if b = true then 1 else 0) = some (.int lv) := by rw [← hlv]; cases b <;> rfl
  have eq0 : qS b most 0 [] = ⟨lv, most, [], []⟩ := by
    rw [← hlv]
    cases b
    · rfl
    · show (⟨most - 0, most, [], []⟩ : SS) = ⟨most, most, [], []⟩
      rw [Int.sub_zero]
  intro p1 H1 hp1 g1 h1 p2 H2 hp2 g2 h2
  refine ⟨_, .inr h2, _, ea, ?_⟩
  intro p3 H3 hp3 g3 h3 p4 H4 hp4 g4 h4 p5 H5 hp5 g5 h5 p6 H6 hp6 g6 h6 p7 H7 hp7 g7 h7 gx dx H8 hgx hdx g8 h8 hdx8
  have S48 : Same H4 H8 := ((g5.trans g6).trans g7).trans g8
  have S18 : Same H1 H8 := ((g2.trans g3).trans g4).trans S48
  refine ⟨gx, dx, p7, p1, p4, _, _, [], [.ref p3], [], [("bin", lv, most)], rfl, h8, g8 _ _ h7, S18 _ _ h1, .nil, by simp, S48 _ _ h4, .cons (S48 _ _ (g4 _ _ h3)) .nil, by simp, fun H9 dt ds es ss k9 hg9 hdt hds te ts em sm fe fs fdt fds => ⟨rfl, ?_⟩⟩
  obtain ⟨e, rfl, en, et⟩ : ∃ e : EntS, ss = [e] ∧ e.name = "bin" ∧ e.s = ⟨lv, most, [], []⟩ := by
    cases ss with
    | nil => cases sm
    | cons e es =>
      cases es with
      | nil =>
        simp only [List.map_cons, List.map_nil, List.cons.injEq, Prod.mk.injEq, and_true] at sm
        exact ⟨e, rfl, sm.1, sm.2⟩
      | cons e' es => simp at sm
  have S07 : Same H H7 := (((((g1.trans g2).trans g3).trans g4).trans g5).trans g6).trans g7
  have S09 : Same H H9 := fun cc u hc => k9 cc u (ne_of_none (S07 _ _ hc) hgx) (g8 _ _ (S07 _ _ hc))
  have ts := ts e List.mem_cons_self
  have fs := fs e List.mem_cons_self
  rw [et, ← eq0] at ts
  unfold kvS at hds
  rw [List.map_cons, List.map_nil, en] at hds
  have fe0 : ∀ cc, H8 cc = none → H cc = none := fun cc hc => S07.free (g8.free hc)
  obtain ⟨hea, heg, hep⟩ : H e.a = none ∧ H e.g = none ∧ H e.p = none := ⟨fe0 _ fs.1, fe0 _ fs.2.1, fe0 _ fs.2.2⟩
  have G9 : GS CG CS H9 gx ds e.a e.g e.p (qS b most 0 []) := ⟨dx, _, hg9, hds, ts⟩
  generalize e.a = a at *
  generalize e.g = gg at *
  generalize e.p = pp at *
  have w9 := S09 _ _ hw
  have ngg : wp ≠ gg := ne_of_none hw heg
  have npp : wp ≠ pp := ne_of_none hw hep
  clear em sm et en ts fs fe te k9 h1 h2 h3 h4 h5 h6 h7 h8 hdx8 hds hdt hg9 ea eq0 hlv
  refine tfor_in ?_
  simp only [iList]
  walk_at "rd"
  refine ⟨⟨_, SqL.of w9⟩, ?_⟩
  clear w9
  refine for_list (xs := qs) (LwI CG CS gx ds a gg pp wp c most b ps H) ?_ ?_ ?_ ?_
  · unfold LwI
    exact ⟨_, _, _, rfl, S09, G9⟩
  · intro i σ H10 hi z
    unfold LwI at z
    obtain ⟨_, _, _, rfl, S10, _⟩ := z
    exact SqL.of (S10 _ _ hw)
  · intro i x σ H10 hx z
    unfold LwI at z
    obtain ⟨v5, v6, v7, rfl, S10, G10⟩ := z
    obtain ⟨p, h, n, rfl, ei, hp⟩ := pw.get hx
    have hp10 := S10 _ _ hp
    have hn := b2 _ (List.mem_of_getElem? ei)
    have hn : 0 < n := hn
    have hi : i < ps.length := (List.getElem?_eq_some_iff.mp ei).1
    obtain ⟨dxg, xg, gg1, gd1, tl1⟩ := id G10
    walk_at "rd"
    refine two_wait G10 hn (by rw [List.length_take]; omega) fun H11 p11 r11 f11 hr11 h11 hl11 st11 => ?_
    have G11 := G10.fr f11 st11
    rw [← take_snoc ei] at G11
    intro p12 H12 hp12 g12 h12 p13 H13 hp13 g13 h13
    have ok2 : SeqAt.shaped (.tuple [.bool false, svD "gets" []]) = true := shaped_two rfl (by simp [PyData.depth]) (by with_unfolding_all decide) _
    refine ⟨.tuple [.bool false, svD "gets" []], .tuple [.bool false, svD "gets" []], .tup (g13 _ _ (g12 _ _ h11)) (.cons (.bl _) (.cons (.lst (g13 _ _ (g12 _ _ hl11)) .nil) .nil)), .tup h13 (.cons (.bl _) (.cons (.lst (g13 _ _ h12) .nil) .nil)), ok2, ok2, _, rfl, ?_⟩
    rw [eqv_sh ok2]
    refine iteF ?_
    unfold LwI
    exact ⟨_, _, _, rfl, fun cc u hc => g13 _ _ (g12 _ _ (f11 cc u (ne_of_none hc hea) (ne_of_none hc heg) (ne_of_none hc hep) (S10 _ _ hc))), G11.same (g12.trans g13)⟩
  · intro σ H10 z
    unfold LwI at z
    obtain ⟨v5, v6, v7, rfl, S10, G10⟩ := z
    rw [lq, List.take_of_length_le (Nat.le_refl _)] at G10
    have w10 := S10 _ _ hw
    walk_at "rd"
    intro p9 H11 hp9 g11 h11
    have G11 := G10.same g11
    have pw11 : Prs H11 qs ps := pw.mono fun cc xs hc => g11 _ _ (S10 _ _ hc)
    obtain ⟨_, _, _, _, ⟨_, gs0, ps0, _, z1, _, z2, _⟩⟩ := id G10
    have n9g : p9 ≠ gg := (ne_of_none z1 hp9).symm
    have n9p : p9 ≠ pp := (ne_of_none z2 hp9).symm
    have S11 := S10.trans g11
    clear w10 z1 z2
    refine tfor_in ?_
    simp only [iRng1]
    walk_at "rd"
    refine for_range (LsI CG CS gx ds a gg pp c most b H) ?_ ?_ ?_
    · unfold LsI
      exact ⟨p9, qs, ps, 0, _, _, _, _, _, _, _, _, rfl, S11, G11, h11, pw11, n9g, n9p, b1⟩
    · clear h11 G11 pw11 n9g n9p hw pw b1 b2 g1 g2 g3 g4 g5 g6 g7 g8 hp1 hp2 hp3 hp4 hp5 hp6 hp7 hgx hdx S48 S18 fdt fds S07 S09 fe0 G9 ngg npp G10 S10 hp9 g11 S11 lq q
      intro i σ H14 hi z
      unfold LsI at z
      obtain ⟨wq, ws, wl, rm, v5, v6, v7, v9, v10, v11, v12, v13, rfl, S14, G14, w14, pw14, nwg, nwp, bw⟩ := z
      walk_at "rd"
      refine ⟨c, 41 + (0 + i) % 18, rfl, by omega, by omega, fun m m0 m1 => ⟨m, rfl, ?_⟩⟩
      generalize 1 + m % 9 = n
      refine ite2 (fun cn => ?_) fun cn => ?_
      · unfold LsI
        exact ⟨wq, ws, wl, rm, _, _, _, _, _, _, _, _, rfl, S14, G14, w14, pw14, nwg, nwp, bw⟩
      refine ⟨wq, ws, wl, rm + n, rfl, w14, pw14, by omega, fun r sp H15 sv hsp g15 h15 hsv psv => ⟨r, rfl, _, h15, rfl, _, _, rfl, _, _, rfl, rfl, sp, rfl, sv, .inl (SqL.of hsv), ws, .inr ⟨g15 _ _ w14, fun wq2 H16 hwq2 g16 h16 => ?_⟩⟩⟩
      have lsv := psv.length
      have ln := nsv_le wl (rm + n)
      have lws := pw14.length
      rw [if_neg (by omega), Int.toNat_natCast, Nat.min_eq_left (by omega), List.take_of_length_le (by rw [List.length_drop]; omega), lsv] at h16
      have S16 := g15.trans g16
      have G16 := G14.same S16
      obtain ⟨dxg, xg, gg1, gd1, tlg⟩ := id G16
      walk_at "rd"
      refine two_go G16 cn (by omega) fun H17 pr rr sv17 f17 hrr h17 hsv17 sd17 t17 => ?_
      have G17 := G16.fr f17 t17
      obtain ⟨_, _, _, _, ⟨_, gs0, ps0, _, z1, _, z2, _⟩⟩ := id G14
      have nsg : sp ≠ gg := (ne_of_none z1 hsp).symm
      have nspp : sp ≠ pp := (ne_of_none z2 hsp).symm
      have nw2g : wq2 ≠ gg := (ne_of_none (g15 _ _ z1) hwq2).symm
      have nw2p : wq2 ≠ pp := (ne_of_none (g15 _ _ z2) hwq2).symm
      have hs17 := tlg.kl f17 (g16 _ _ hsv) nsg nspp
      have w17 := tlg.kl f17 h16 nw2g nw2p
      have psv17 : Prs H17 sv (nsv wl (rm + n)).1 := psv.mono fun cc xs hc => tlg.kt f17 cc xs (g16 _ _ hc)
      have pw17 : Prs H17 (ws.drop (nsv wl (rm + n)).1.length) (wl.drop (nsv wl (rm + n)).1.length) := (pw14.drop _).mono fun cc xs hc => tlg.kt f17 cc xs (S16 _ _ hc)
      have S17 : Same H H17 := fun cc u hc => f17 cc u (ne_of_none hc hea) (ne_of_none hc heg) (ne_of_none hc hep) (S16 _ _ (S14 _ _ hc))
      have wl3 := wd_len b
      clear gg1 gd1 h15 hsv w14 h16 z1 z2
      refine tcomp_in ?_
      simp only [iList]
      walk_at "rd"
      refine ⟨⟨_, SqL.of hs17⟩, compJD_list hs17 (by omega) (CsP (wordOf (!b)) (nsv wl (rm + n)).1 [some (.str (wd b))]) (fun D H' _ _ _ => by unfold CsP; exact ⟨.nil, _, _, rfl⟩) ?_ ?_⟩
      · rintro D j x zs σ1 H18 hx at1 pv
        unfold CsP at pv
        obtain ⟨pt, v0, v1, rfl⟩ := pv
        obtain ⟨p, h, k, rfl, en, hp⟩ := psv17.get hx
        have hp1 := at1.same _ _ hp
        clear hs17 w17
        have hs1 : (Str.ofString "s").length = 1 := by with_unfolding_all decide
        have hws : wd b ++ Str.ofString "s" = wordOf (!b) := wd_s b
        walk_at "rd"
        refine ⟨by omega, ?_⟩
        intro p4 H19 hp4 g19 h19
        refine at1.put g19 fun H20 mu => ?_
        unfold CsP
        have hD1 := at1.lst
        have nD : p4 ≠ D := (ne_of_none hD1 hp4).symm
        rw [take_snoc en]
        exact ⟨(pt.mono fun cc xs hc => ((hide_same g19).trans (hide_mu mu)) _ _ hc).snoc (hide_of nD (mu.old h19 nD)), _, _, rfl⟩
      · rintro D zs σ1 H18 hD g18 hy hle pv
        unfold CsP at pv
        obtain ⟨pt, v0, v1, rfl⟩ := pv
        rw [lsv, List.take_of_length_le (Nat.le_refl _)] at pt
        intro p21 H21 hp21 g21 h21
        have S21 : Same H17 H21 := g18.trans g21
        have ok2 : SeqAt.shaped (.tuple [.bool true, svD (wordOf (!b)) (nsv wl (rm + n)).1]) = true := shaped_two rfl (by simp [PyData.depth]) (wd_ok _) _
        refine ⟨.tuple [.bool true, svD (wordOf (!b)) (nsv wl (rm + n)).1], .tuple [.bool true, svD (wordOf (!b)) (nsv wl (rm + n)).1], .tup (S21 _ _ h17) (.cons (.bl _) (.cons (.lst (S21 _ _ hsv17) (sd17.mono fun cc xs hc => S21 _ _ hc).rp) .nil)), .tup h21 (.cons (.bl _) (.cons (.lst (g21 _ _ hy) (pt.mono fun cc xs hc => g21 _ _ (hide_le _ _ hc)).rp) .nil)), ok2, ok2, _, rfl, ?_⟩
        rw [eqv_sh ok2]
        refine iteF ?_
        have G21 := G17.same S21
        obtain ⟨dx1, xg1, gg1, gd1, tl1⟩ := id G21
        have w21 := S21 _ _ w17
        clear hs17 w17 h17 hsv17 h21 hy
        walk_at "rd"
        refine ⟨gx, dx1, ds, xg1, [⟨"bin", a, gg, pp, _⟩], rfl, gg1, gd1, (fun e he => by rw [List.mem_singleton.mp he]; exact tl1), by simp, fun r1 H22 vs1 hr1 g22 h22 tl22 => ?_⟩
        obtain ⟨v, rfl, td⟩ : ∃ v, vs1 = [v] ∧ ToldS H21 H22 v (qS b most (nsv wl (rm + n)).2 (wl.drop (nsv wl (rm + n)).1.length)) := by
          cases tl22 with
          | cons h r => cases r; exact ⟨_, rfl, h⟩
        obtain ⟨pv, pg, pq, gs, qs, rfl, t1, t2, t3, t4, t5, t6, t7⟩ := td
        have w22 := g22 _ _ w21
        have pw22 : Prs H22 (ws.drop (nsv wl (rm + n)).1.length) (wl.drop (nsv wl (rm + n)).1.length) := pw17.mono fun cc xs hc => g22 _ _ (S21 _ _ hc)
        clear gg1 gd1 w21 hi
        walk_at "rd"
        have fin : ∀ v11 v12 v13 : Option V, LsI CG CS gx ds a gg pp c most b H (i + 1) [some (V.int c), some (V.ref wq2), some (V.str (wd b)), some (V.int most), some (V.ref gx), v5, some (V.int n), some (V.ref pr), some (V.int (nsv wl (rm + n)).snd), some (V.int (0 + ↑i)), some (V.ref sp), v11, v12, v13] H22 := fun v11 v12 v13 => by
          unfold LsI
          exact ⟨wq2, _, _, _, _, _, _, _, _, _, _, _, rfl, (S17.trans S21).trans g22, G21.same g22, w22, pw22, nw2g, nw2p, by rw [List.length_drop]; omega⟩
        cases b
        · have t3 : Prs H22 gs (wl.drop (nsv wl (rm + n)).1.length) := t3
          refine iteF ⟨prD (wl.drop (nsv wl (rm + n)).1.length), prD (wl.drop (nsv wl (rm + n)).1.length), .lst t2 t3.rp, .lst w22 pw22.rp, shaped_prs _, shaped_prs _, _, rfl, ?_⟩
          rw [eqv_sh (shaped_prs _)]
          refine iteF ?_
          rw [show decide ((qS false most (nsv wl (rm + n)).2 (wl.drop (nsv wl (rm + n)).1.length)).level = (nsv wl (rm + n)).2) = true from decide_eq_true rfl]
          exact iteF (fin _ _ _)
        · have t5 : Prs H22 qs (wl.drop (nsv wl (rm + n)).1.length) := t5
          refine iteT ⟨prD (wl.drop (nsv wl (rm + n)).1.length), prD (wl.drop (nsv wl (rm + n)).1.length), .lst t4 t5.rp, .lst w22 pw22.rp, shaped_prs _, shaped_prs _, _, rfl, ?_⟩
          rw [eqv_sh (shaped_prs _)]
          refine iteF ?_
          rw [show decide (most - (qS true most (nsv wl (rm + n)).2 (wl.drop (nsv wl (rm + n)).1.length)).level = (nsv wl (rm + n)).2) = true from decide_eq_true (show most - (most - (nsv wl (rm + n)).2) = (nsv wl (rm + n)).2 by omega)]
          exact iteF (fin _ _ _)
    · intro σ H14 z
      unfold LsI at z
      obtain ⟨wq, ws, wl, rm, v5, v6, v7, v9, v10, v11, v12, v13, rfl, S14, G14, w14, pw14, nwg, nwp, bw⟩ := z
      walk_at "rd"
end
end K24

set_option Elab.async false
set_option linter.all false
set_option maxRecDepth 100000
set_option maxHeartbeats 4000000
namespace K24
open PySem L2
theorem cut_mem {xs : List V} {lo hi : Option Int} {x : V} (h : x ∈ cutV xs lo hi) : x ∈ xs := by
  unfold cutV at h
  exact List.mem_of_mem_drop (List.mem_of_mem_take h)
theorem cut_len (xs : List V) (lo hi : Option Int) : (cutV xs lo hi).length ≤ xs.length := by
  unfold cutV
  rw [List.length_take, List.length_drop]
  omega
section
variable {P : Program} {w : World} {K : PySem.W.Frag} {mg : Str → Option Value} {base : Heap}
def WtP (c : Int) (D : Addr) (i : Nat) (ys : List V) (σ1 : St) (H' : Hp) : Prop := ∃ (ps : List (Int × Int)) (v0 : Option V), σ1 = [v0, some (.int c)] ∧ Prs (hide D H') ys ps ∧ ps.length = i ∧ ∀ p ∈ ps, 0 < p.2 ∧ p.1 ≤ i
def LaI (a : Addr) (H : Hp) (i : Nat) (σ : St) (H' : Hp) : Prop := ∃ v1 v2, σ = [some (.ref a), v1, v2] ∧ Same H H'
theorem ok_law {fa : Addr} {fd : FuncData} (F : Fun K "law" "law" s_law fa fd) (G__law_stir : OkD P w K mg base 1 "_law_stir" ["cell", "k"] spStir) (G__law_tool : OkD P w K mg base 6 "_law_tool" ["cell", "wants"] spLTool) (G__law_store : OkD P w K mg base 6 "_law_store" ["cell", "wants", "word"] spLStore) (hrange : mg "range" = none) : FnOk P w K mg base CX0 8 fa fd ["script"] (spLaw K) := by
  refine F.ok sc_law (fun vs H Q E h => ?_) (fun cdv A outer s H vs Q E hr h => ?_)
  · obtain ⟨a, ns, rfl, _⟩ := h; rfl
  obtain ⟨a, ns, rfl, hS, h63, q⟩ := h
  have hu := hu_of hr
  have big : 100000 ≤ sizeLine := by unfold sizeLine; decide
  refine ⟨_, (pss_cons (ps_for PassesOwn.never rfl (pi_list (pe_op op_catG (pe_lstG (pa_c pe_int pa_nil)) (pe_slice sl_k (pv 0) po_none (po_some pe_int)))) (pg_name (i := 1) sc_law.nd rfl (Or.inr rfl))
  (pss_cons (ps_setCN (i := 2) sc_law.nd rfl (Or.inl rfl) (comp_scopeN 1 (N := ["k", "cell"]) (cap := [1]) rfl rfl rfl rfl (by decide +kernel) rfl rfl rfl) rfl (pi_range1 rfl hrange (pa_c (pe_op op_mod (pe_def G__law_stir hr rfl (pa_c (pv 1) (pa_c pe_int pa_nil))) pe_int) pa_nil)) (fun _ _ _ _ => (pg_name (i := 0) (show List.Nodup (α := Str) ["k", "cell"] by decide +kernel) rfl (Or.inl (lookup_relabel_local rfl)) (Or.inr (lookup_relabel_local rfl)))) (fun _ _ _ _ => pts_nil) (fun _ _ _ _ => (pe_tupG (pa_c (pe_op op_add pe_int (pv 0)) (pa_c (pe_op op_add pe_int (pe_op op_mod (pe_def G__law_stir hr rfl (pa_c (pv 1) (pa_c (pv 0) pa_nil))) pe_int)) pa_nil)))))
  (pss_cons (ps_if (pt_not (pt_val (pe_def G__law_tool hr rfl (pa_c (pv 1) (pa_c (pv 2) pa_nil)))))
  (pss_one (ps_ret pe_bl))
  pss_nil)
  (pss_one (ps_if (PW.pt (pw_or (pt_not (pt_val (pe_def G__law_store hr rfl (pa_c (pv 1) (pa_c (pv 2) (pa_c pe_str pa_nil)))))) (pw_or1 (pt_not (pt_val (pe_def G__law_store hr rfl (pa_c (pv 1) (pa_c (pv 2) (pa_c pe_str pa_nil)))))))))
  (pss_one (ps_ret pe_bl))
  pss_nil)))))
  (pss_one (ps_ret pe_bl))), ?_⟩
  walk_at "rd"
  refine tfor_in ?_
  simp only [iList]
  walk_at "rd"
  intro p1 H1 hp1 g1 h1
  refine ⟨a, _, rfl, g1.seq hS, fun p2 H2 hp2 g2 h2 => ⟨p2, rfl, _, g2 _ _ h1, _, h2, ?_, fun p3 H3 hp3 g3 h3 => ?_⟩⟩
  · have := cut_len (ns.map V.int) none (some 12)
    rw [List.length_map] at this
    simp only [List.length_singleton]
    omega
  have allI : ∀ x ∈ [V.int 0] ++ cutV (ns.map V.int) none (some 12), ∃ c : Int, x = .int c := fun x hx => by
    rcases List.mem_append.mp hx with hx | hx
    · exact ⟨0, List.mem_singleton.mp hx⟩
    · obtain ⟨c, _, e⟩ := List.mem_map.mp (cut_mem hx)
      exact ⟨c, e.symm⟩
  generalize [V.int 0] ++ cutV (ns.map V.int) none (some 12) = xs at *
  refine ⟨⟨_, SqL.of h3⟩, for_list (xs := xs) (LaI a H3) ?_ ?_ ?_ ?_⟩
  · unfold LaI
    exact ⟨_, _, rfl, fun _ _ h => h⟩
  · intro i σ H4 hi z
    unfold LaI at z
    obtain ⟨_, _, rfl, S4⟩ := z
    exact SqL.of (S4 _ _ h3)
  · intro i x σ H4 hx z
    unfold LaI at z
    obtain ⟨v1, v2, rfl, S4⟩ := z
    obtain ⟨c, rfl⟩ := allI x (List.mem_of_getElem? hx)
    clear h1 h2 h3
    walk_at "rd"
    refine tcomp_in ?_
    simp only [iRng1]
    walk_at "rd"
    refine ⟨c, 38, rfl, by decide, by decide, fun m m0 m1 => ⟨m, rfl, ?_⟩⟩
    have e0 := Int.emod_nonneg m (show (21 : Int) ≠ 0 by decide)
    have e1 := Int.emod_lt_of_pos m (show (0 : Int) < 21 by decide)
    refine ⟨by omega, by omega, compJD_range (by omega) (WtP c) (fun D H' _ _ _ => by unfold WtP; exact ⟨[], _, rfl, .nil, rfl, fun p hp => absurd hp List.not_mem_nil⟩) ?_ ?_⟩
    · rintro D j ys σ1 H5 hj at1 pv
      unfold WtP at pv
      obtain ⟨ps, v0, rfl, pw, lp, bp⟩ := pv
      walk_at "rd"
      refine ⟨c, j, rfl, by omega, by omega, fun m' m0' m1' => ⟨m', rfl, ?_⟩⟩
      intro p4 H6 hp4 g6 h6
      refine at1.put g6 fun H7 mu => ?_
      unfold WtP
      have nD : p4 ≠ D := (ne_of_none at1.lst hp4).symm
      refine ⟨ps ++ [(1 + (j : Int), 1 + m' % 9)], _, rfl, (pw.mono fun cc xs hc => ((hide_same g6).trans (hide_mu mu)) _ _ hc).snoc (hide_of nD (mu.old h6 nD)), by rw [List.length_append, lp]; rfl, fun p hp => ?_⟩
      rcases List.mem_append.mp hp with hp | hp
      · have := bp p hp
        exact ⟨this.1, by omega⟩
      · rw [List.mem_singleton.mp hp]
        have := Int.emod_nonneg m' (show (9 : Int) ≠ 0 by decide)
        exact ⟨by show 0 < 1 + m' % 9; omega, by show 1 + (j : Int) ≤ ((j + 1 : Nat) : Int); omega⟩
    · rintro D ys σ1 H5 hD g5 hy hle pv
      unfold WtP at pv
      obtain ⟨ps, v0, rfl, pw, lp, bp⟩ := pv
      have pw5 : Prs H5 ys ps := pw.mono fun cc xs hc => hide_le _ _ hc
      have b20 : ps.length ≤ 20 := by omega
      refine ⟨c, D, ys, ps, rfl, hy, pw5, b20, fun p hp => ⟨(bp p hp).1, fun z => by have := (bp p hp).2; omega⟩, fun H6 g6 => ⟨true, rfl, iteF ?_⟩⟩
      refine ⟨c, D, ys, ps, false, rfl, g6 _ _ hy, pw5.mono (fun cc xs hc => g6 _ _ hc), b20, fun p hp => (bp p hp).1, fun H7 g7 => ⟨true, rfl, iteF ?_⟩⟩
      refine ⟨c, D, ys, ps, true, rfl, g7 _ _ (g6 _ _ hy), pw5.mono (fun cc xs hc => g7 _ _ (g6 _ _ hc)), b20, fun p hp => (bp p hp).1, fun H8 g8 => ⟨true, rfl, iteF ?_⟩⟩
      unfold LaI
      exact ⟨_, _, rfl, (((S4.trans g5).trans g6).trans g7).trans g8⟩
  · intro σ H4 z
    unfold LaI at z
    obtain ⟨v1, v2, rfl, S4⟩ := z
    clear h1 h2 h3
    walk_at "rd"
end
end K24

set_option Elab.async false
set_option linter.all false
set_option maxRecDepth 100000
set_option maxHeartbeats 4000000
namespace K24
open PySem L2
theorem all_mk {l : PySem.W.OpenLaw} {w : World} {K : PySem.W.Frag} {h : Heap} {mg : Str → Option Value} {fa : Addr} (X : K.In h) (G : h.Ns mainGlobals mg) (hfa : mg "law" = some (.ref fa))
    {f1 : Addr} {od1 an1 : Option Addr} {sl1 : Array (Option Value)} {oc1 kV1 dc1 pm1 cd1 ct1 : Value} (a1 : PySem.W.nsIn K mainGlobals "tools_of" = some (some (.ref f1))) (l1 : K.lookup f1 = some ⟨oc1, od1, .func (PySem.W.fnOf "tools_of" "tools_of" (defArgs s_tools_of) (defBody s_tools_of) (defScope s_tools_of) .none kV1 dc1 pm1 an1 cd1 ct1), sl1⟩) (c1 : PySem.W.codeIn K cd1 "tools_of" = true) (k1 : PySem.W.keepIn K (.ref f1) = true)
    {f2 : Addr} {od2 an2 : Option Addr} {sl2 : Array (Option Value)} {oc2 kV2 dc2 pm2 cd2 ct2 : Value} (a2 : PySem.W.nsIn K mainGlobals "stores_of" = some (some (.ref f2))) (l2 : K.lookup f2 = some ⟨oc2, od2, .func (PySem.W.fnOf "stores_of" "stores_of" (defArgs s_stores_of) (defBody s_stores_of) (defScope s_stores_of) .none kV2 dc2 pm2 an2 cd2 ct2), sl2⟩) (c2 : PySem.W.codeIn K cd2 "stores_of" = true) (k2 : PySem.W.keepIn K (.ref f2) = true)
    {f3 : Addr} {od3 an3 : Option Addr} {sl3 : Array (Option Value)} {oc3 kV3 dc3 pm3 cd3 ct3 : Value} (a3 : PySem.W.nsIn K mainGlobals "told_tool" = some (some (.ref f3))) (l3 : K.lookup f3 = some ⟨oc3, od3, .func (PySem.W.fnOf "told_tool" "told_tool" (defArgs s_told_tool) (defBody s_told_tool) (defScope s_told_tool) .none kV3 dc3 pm3 an3 cd3 ct3), sl3⟩) (c3 : PySem.W.codeIn K cd3 "told_tool" = true) (k3 : PySem.W.keepIn K (.ref f3) = true)
    {f4 : Addr} {od4 an4 : Option Addr} {sl4 : Array (Option Value)} {oc4 kV4 dc4 pm4 cd4 ct4 : Value} (a4 : PySem.W.nsIn K mainGlobals "told_store" = some (some (.ref f4))) (l4 : K.lookup f4 = some ⟨oc4, od4, .func (PySem.W.fnOf "told_store" "told_store" (defArgs s_told_store) (defBody s_told_store) (defScope s_told_store) .none kV4 dc4 pm4 an4 cd4 ct4), sl4⟩) (c4 : PySem.W.codeIn K cd4 "told_store" = true) (k4 : PySem.W.keepIn K (.ref f4) = true)
    {f5 : Addr} {od5 an5 : Option Addr} {sl5 : Array (Option Value)} {oc5 kV5 dc5 pm5 cd5 ct5 : Value} (a5 : PySem.W.nsIn K mainGlobals "hand_out" = some (some (.ref f5))) (l5 : K.lookup f5 = some ⟨oc5, od5, .func (PySem.W.fnOf "hand_out" "hand_out" (defArgs s_hand_out) (defBody s_hand_out) (defScope s_hand_out) .none kV5 dc5 pm5 an5 cd5 ct5), sl5⟩) (c5 : PySem.W.codeIn K cd5 "hand_out" = true) (k5 : PySem.W.keepIn K (.ref f5) = true)
    {f6 : Addr} {od6 an6 : Option Addr} {sl6 : Array (Option Value)} {oc6 kV6 dc6 pm6 cd6 ct6 : Value} (a6 : PySem.W.nsIn K mainGlobals "hand_in" = some (some (.ref f6))) (l6 : K.lookup f6 = some ⟨oc6, od6, .func (PySem.W.fnOf "hand_in" "hand_in" (defArgs s_hand_in) (defBody s_hand_in) (defScope s_hand_in) .none kV6 dc6 pm6 an6 cd6 ct6), sl6⟩) (c6 : PySem.W.codeIn K cd6 "hand_in" = true) (k6 : PySem.W.keepIn K (.ref f6) = true)
    {f7 : Addr} {od7 an7 : Option Addr} {sl7 : Array (Option Value)} {oc7 kV7 dc7 pm7 cd7 ct7 : Value} (a7 : PySem.W.nsIn K mainGlobals "serve_takers" = some (some (.ref f7))) (l7 : K.lookup f7 = some ⟨oc7, od7, .func (PySem.W.fnOf "serve_takers" "serve_takers" (defArgs s_serve_takers) (defBody s_serve_takers) (defScope s_serve_takers) .none kV7 dc7 pm7 an7 cd7 ct7), sl7⟩) (c7 : PySem.W.codeIn K cd7 "serve_takers" = true) (k7 : PySem.W.keepIn K (.ref f7) = true)
    {f8 : Addr} {od8 an8 : Option Addr} {sl8 : Array (Option Value)} {oc8 kV8 dc8 pm8 cd8 ct8 : Value} (a8 : PySem.W.nsIn K mainGlobals "serve_by_turns" = some (some (.ref f8))) (l8 : K.lookup f8 = some ⟨oc8, od8, .func (PySem.W.fnOf "serve_by_turns" "serve_by_turns" (defArgs s_serve_by_turns) (defBody s_serve_by_turns) (defScope s_serve_by_turns) .none kV8 dc8 pm8 an8 cd8 ct8), sl8⟩) (c8 : PySem.W.codeIn K cd8 "serve_by_turns" = true) (k8 : PySem.W.keepIn K (.ref f8) = true)
    {f9 : Addr} {od9 an9 : Option Addr} {sl9 : Array (Option Value)} {oc9 kV9 dc9 pm9 cd9 ct9 : Value} (a9 : PySem.W.nsIn K mainGlobals "_law_stir" = some (some (.ref f9))) (l9 : K.lookup f9 = some ⟨oc9, od9, .func (PySem.W.fnOf "_law_stir" "_law_stir" (defArgs s__law_stir) (defBody s__law_stir) (defScope s__law_stir) .none kV9 dc9 pm9 an9 cd9 ct9), sl9⟩) (c9 : PySem.W.codeIn K cd9 "_law_stir" = true) (k9 : PySem.W.keepIn K (.ref f9) = true)
    {f10 : Addr} {od10 an10 : Option Addr} {sl10 : Array (Option Value)} {oc10 kV10 dc10 pm10 cd10 ct10 : Value} (a10 : PySem.W.nsIn K mainGlobals "_law_next_served" = some (some (.ref f10))) (l10 : K.lookup f10 = some ⟨oc10, od10, .func (PySem.W.fnOf "_law_next_served" "_law_next_served" (defArgs s__law_next_served) (defBody s__law_next_served) (defScope s__law_next_served) .none kV10 dc10 pm10 an10 cd10 ct10), sl10⟩) (c10 : PySem.W.codeIn K cd10 "_law_next_served" = true) (k10 : PySem.W.keepIn K (.ref f10) = true)
    {f11 : Addr} {od11 an11 : Option Addr} {sl11 : Array (Option Value)} {oc11 kV11 dc11 pm11 cd11 ct11 : Value} (a11 : PySem.W.nsIn K mainGlobals "_law_tool" = some (some (.ref f11))) (l11 : K.lookup f11 = some ⟨oc11, od11, .func (PySem.W.fnOf "_law_tool" "_law_tool" (defArgs s__law_tool) (defBody s__law_tool) (defScope s__law_tool) .none kV11 dc11 pm11 an11 cd11 ct11), sl11⟩) (c11 : PySem.W.codeIn K cd11 "_law_tool" = true) (k11 : PySem.W.keepIn K (.ref f11) = true)
    {f12 : Addr} {od12 an12 : Option Addr} {sl12 : Array (Option Value)} {oc12 kV12 dc12 pm12 cd12 ct12 : Value} (a12 : PySem.W.nsIn K mainGlobals "_law_store" = some (some (.ref f12))) (l12 : K.lookup f12 = some ⟨oc12, od12, .func (PySem.W.fnOf "_law_store" "_law_store" (defArgs s__law_store) (defBody s__law_store) (defScope s__law_store) .none kV12 dc12 pm12 an12 cd12 ct12), sl12⟩) (c12 : PySem.W.codeIn K cd12 "_law_store" = true) (k12 : PySem.W.keepIn K (.ref f12) = true)
    {f13 : Addr} {od13 an13 : Option Addr} {sl13 : Array (Option Value)} {oc13 kV13 dc13 pm13 cd13 ct13 : Value} (a13 : PySem.W.nsIn K mainGlobals "law" = some (some (.ref f13))) (l13 : K.lookup f13 = some ⟨oc13, od13, .func (PySem.W.fnOf "law" "law" (defArgs s_law) (defBody s_law) (defScope s_law) .none kV13 dc13 pm13 an13 cd13 ct13), sl13⟩) (c13 : PySem.W.codeIn K cd13 "law" = true) (k13 : PySem.W.keepIn K (.ref f13) = true)
    (z1 : PySem.W.nsIn K mainGlobals "len" = some none)
    (z2 : PySem.W.nsIn K mainGlobals "sorted" = some none)
    (z3 : PySem.W.nsIn K mainGlobals "min" = some none)
    (z4 : PySem.W.nsIn K mainGlobals "range" = some none)
    (z5 : PySem.W.nsIn K mainGlobals "list" = some none)
    (z6 : PySem.W.nsIn K mainGlobals "dict" = some none)
    (z7 : PySem.W.nsIn K mainGlobals "int" = some none)
    {CT : Addr} (aTool : PySem.W.nsIn K mainGlobals "Tool" = some (some (.ref CT)))
    (pgTool : PySem.W.plainGet K CT Str.empty = true)
    (hdTool : PySem.W.hasDictIn K CT = true)
    (poTool : PySem.W.plainOver K CT = true)
    (saTool : PySem.W.findIn K (.ref CT) "__setattr__" = some (some (.builtin "object.__setattr__")))
    (mkTool : PySem.W.makesIn K CT = true)
    (kcTool : PySem.W.keepIn K (.ref CT) = true)
    (nTool_free : PySem.W.findIn K (.ref CT) "free" = some none)
    (nTool_held : PySem.W.findIn K (.ref CT) "held" = some none)
    (nTool_queue : PySem.W.findIn K (.ref CT) "queue" = some none)
    {fTool_init : Addr} {odTool_init anTool_init : Option Addr} {slTool_init : Array (Option Value)} {ocTool_init kVTool_init dcTool_init pmTool_init cdTool_init ctTool_init : Value} (aTool_init : PySem.W.findIn K (.ref CT) "__init__" = some (some (.ref fTool_init)))
    (iTool_init : PySem.W.isFn K (.ref fTool_init) = true)
    (lTool_init : K.lookup fTool_init = some ⟨ocTool_init, odTool_init, .func (PySem.W.fnOf "__init__" "Tool.__init__" (defArgs s_Tool___init__) (defBody s_Tool___init__) (defScope s_Tool___init__) .none kVTool_init dcTool_init pmTool_init anTool_init cdTool_init ctTool_init), slTool_init⟩)
    (cTool_init : PySem.W.codeIn K cdTool_init "Tool.__init__" = true)
    (kTool_init : PySem.W.keepIn K (.ref fTool_init) = true)
    {CS : Addr} (aStore : PySem.W.nsIn K mainGlobals "Store" = some (some (.ref CS)))
    (pgStore : PySem.W.plainGet K CS Str.empty = true)
    (hdStore : PySem.W.hasDictIn K CS = true)
    (poStore : PySem.W.plainOver K CS = true)
    (saStore : PySem.W.findIn K (.ref CS) "__setattr__" = some (some (.builtin "object.__setattr__")))
    (mkStore : PySem.W.makesIn K CS = true)
    (kcStore : PySem.W.keepIn K (.ref CS) = true)
    (nStore_level : PySem.W.findIn K (.ref CS) "level" = some none)
    (nStore_most : PySem.W.findIn K (.ref CS) "most" = some none)
    (nStore_getters : PySem.W.findIn K (.ref CS) "getters" = some none)
    (nStore_putters : PySem.W.findIn K (.ref CS) "putters" = some none)
    {fStore_init : Addr} {odStore_init anStore_init : Option Addr} {slStore_init : Array (Option Value)} {ocStore_init kVStore_init dcStore_init pmStore_init cdStore_init ctStore_init : Value} (aStore_init : PySem.W.findIn K (.ref CS) "__init__" = some (some (.ref fStore_init)))
    (iStore_init : PySem.W.isFn K (.ref fStore_init) = true)
    (lStore_init : K.lookup fStore_init = some ⟨ocStore_init, odStore_init, .func (PySem.W.fnOf "__init__" "Store.__init__" (defArgs s_Store___init__) (defBody s_Store___init__) (defScope s_Store___init__) .none kVStore_init dcStore_init pmStore_init anStore_init cdStore_init ctStore_init), slStore_init⟩)
    (cStore_init : PySem.W.codeIn K cdStore_init "Store.__init__" = true)
    (kStore_init : PySem.W.keepIn K (.ref fStore_init) = true)
    {CG : Addr} (aGoods : PySem.W.nsIn K mainGlobals "Goods" = some (some (.ref CG)))
    (pgGoods : PySem.W.plainGet K CG Str.empty = true)
    (hdGoods : PySem.W.hasDictIn K CG = true)
    (poGoods : PySem.W.plainOver K CG = true)
    (saGoods : PySem.W.findIn K (.ref CG) "__setattr__" = some (some (.builtin "object.__setattr__")))
    (mkGoods : PySem.W.makesIn K CG = true)
    (kcGoods : PySem.W.keepIn K (.ref CG) = true)
    (nGoods_by_tool : PySem.W.findIn K (.ref CG) "by_tool" = some none)
    (nGoods_by_store : PySem.W.findIn K (.ref CG) "by_store" = some none)
    {fGoods_init : Addr} {odGoods_init anGoods_init : Option Addr} {slGoods_init : Array (Option Value)} {ocGoods_init kVGoods_init dcGoods_init pmGoods_init cdGoods_init ctGoods_init : Value} (aGoods_init : PySem.W.findIn K (.ref CG) "__init__" = some (some (.ref fGoods_init)))
    (iGoods_init : PySem.W.isFn K (.ref fGoods_init) = true)
    (lGoods_init : K.lookup fGoods_init = some ⟨ocGoods_init, odGoods_init, .func (PySem.W.fnOf "__init__" "Goods.__init__" (defArgs s_Goods___init__) (defBody s_Goods___init__) (defScope s_Goods___init__) .none kVGoods_init dcGoods_init pmGoods_init anGoods_init cdGoods_init ctGoods_init), slGoods_init⟩)
    (cGoods_init : PySem.W.codeIn K cdGoods_init "Goods.__init__" = true)
    (kGoods_init : PySem.W.keepIn K (.ref fGoods_init) = true)
    {fGoods_take : Addr} {odGoods_take anGoods_take : Option Addr} {slGoods_take : Array (Option Value)} {ocGoods_take kVGoods_take dcGoods_take pmGoods_take cdGoods_take ctGoods_take : Value} (aGoods_take : PySem.W.findIn K (.ref CG) "take" = some (some (.ref fGoods_take)))
    (iGoods_take : PySem.W.isFn K (.ref fGoods_take) = true)
    (lGoods_take : K.lookup fGoods_take = some ⟨ocGoods_take, odGoods_take, .func (PySem.W.fnOf "take" "Goods.take" (defArgs s_Goods_take) (defBody s_Goods_take) (defScope s_Goods_take) .none kVGoods_take dcGoods_take pmGoods_take anGoods_take cdGoods_take ctGoods_take), slGoods_take⟩)
    (cGoods_take : PySem.W.codeIn K cdGoods_take "Goods.take" = true)
    (kGoods_take : PySem.W.keepIn K (.ref fGoods_take) = true)
    {fGoods_give : Addr} {odGoods_give anGoods_give : Option Addr} {slGoods_give : Array (Option Value)} {ocGoods_give kVGoods_give dcGoods_give pmGoods_give cdGoods_give ctGoods_give : Value} (aGoods_give : PySem.W.findIn K (.ref CG) "give" = some (some (.ref fGoods_give)))
    (iGoods_give : PySem.W.isFn K (.ref fGoods_give) = true)
    (lGoods_give : K.lookup fGoods_give = some ⟨ocGoods_give, odGoods_give, .func (PySem.W.fnOf "give" "Goods.give" (defArgs s_Goods_give) (defBody s_Goods_give) (defScope s_Goods_give) .none kVGoods_give dcGoods_give pmGoods_give anGoods_give cdGoods_give ctGoods_give), slGoods_give⟩)
    (cGoods_give : PySem.W.codeIn K cdGoods_give "Goods.give" = true)
    (kGoods_give : PySem.W.keepIn K (.ref fGoods_give) = true)
    {fGoods_put : Addr} {odGoods_put anGoods_put : Option Addr} {slGoods_put : Array (Option Value)} {ocGoods_put kVGoods_put dcGoods_put pmGoods_put cdGoods_put ctGoods_put : Value} (aGoods_put : PySem.W.findIn K (.ref CG) "put" = some (some (.ref fGoods_put)))
    (iGoods_put : PySem.W.isFn K (.ref fGoods_put) = true)
    (lGoods_put : K.lookup fGoods_put = some ⟨ocGoods_put, odGoods_put, .func (PySem.W.fnOf "put" "Goods.put" (defArgs s_Goods_put) (defBody s_Goods_put) (defScope s_Goods_put) .none kVGoods_put dcGoods_put pmGoods_put anGoods_put cdGoods_put ctGoods_put), slGoods_put⟩)
    (cGoods_put : PySem.W.codeIn K cdGoods_put "Goods.put" = true)
    (kGoods_put : PySem.W.keepIn K (.ref fGoods_put) = true)
    {fGoods_get : Addr} {odGoods_get anGoods_get : Option Addr} {slGoods_get : Array (Option Value)} {ocGoods_get kVGoods_get dcGoods_get pmGoods_get cdGoods_get ctGoods_get : Value} (aGoods_get : PySem.W.findIn K (.ref CG) "get" = some (some (.ref fGoods_get)))
    (iGoods_get : PySem.W.isFn K (.ref fGoods_get) = true)
    (lGoods_get : K.lookup fGoods_get = some ⟨ocGoods_get, odGoods_get, .func (PySem.W.fnOf "get" "Goods.get" (defArgs s_Goods_get) (defBody s_Goods_get) (defScope s_Goods_get) .none kVGoods_get dcGoods_get pmGoods_get anGoods_get cdGoods_get ctGoods_get), slGoods_get⟩)
    (cGoods_get : PySem.W.codeIn K cdGoods_get "Goods.get" = true)
    (kGoods_get : PySem.W.keepIn K (.ref fGoods_get) = true)
    {fGoods_tools : Addr} {odGoods_tools anGoods_tools : Option Addr} {slGoods_tools : Array (Option Value)} {ocGoods_tools kVGoods_tools dcGoods_tools pmGoods_tools cdGoods_tools ctGoods_tools : Value} (aGoods_tools : PySem.W.findIn K (.ref CG) "tools" = some (some (.ref fGoods_tools)))
    (iGoods_tools : PySem.W.isFn K (.ref fGoods_tools) = true)
    (lGoods_tools : K.lookup fGoods_tools = some ⟨ocGoods_tools, odGoods_tools, .func (PySem.W.fnOf "tools" "Goods.tools" (defArgs s_Goods_tools) (defBody s_Goods_tools) (defScope s_Goods_tools) .none kVGoods_tools dcGoods_tools pmGoods_tools anGoods_tools cdGoods_tools ctGoods_tools), slGoods_tools⟩)
    (cGoods_tools : PySem.W.codeIn K cdGoods_tools "Goods.tools" = true)
    (kGoods_tools : PySem.W.keepIn K (.ref fGoods_tools) = true)
    {fGoods_stores : Addr} {odGoods_stores anGoods_stores : Option Addr} {slGoods_stores : Array (Option Value)} {ocGoods_stores kVGoods_stores dcGoods_stores pmGoods_stores cdGoods_stores ctGoods_stores : Value} (aGoods_stores : PySem.W.findIn K (.ref CG) "stores" = some (some (.ref fGoods_stores)))
    (iGoods_stores : PySem.W.isFn K (.ref fGoods_stores) = true)
    (lGoods_stores : K.lookup fGoods_stores = some ⟨ocGoods_stores, odGoods_stores, .func (PySem.W.fnOf "stores" "Goods.stores" (defArgs s_Goods_stores) (defBody s_Goods_stores) (defScope s_Goods_stores) .none kVGoods_stores dcGoods_stores pmGoods_stores anGoods_stores cdGoods_stores ctGoods_stores), slGoods_stores⟩)
    (cGoods_stores : PySem.W.codeIn K cdGoods_stores "Goods.stores" = true)
    (kGoods_stores : PySem.W.keepIn K (.ref fGoods_stores) = true) :
    ∃ fd : FuncData, (∀ (s : Shared) (v : Value), BindsTo s fd ⟨[v], []⟩ [("script", v)]) ∧ ∀ base : Heap, K.In base → base.Ns mainGlobals mg → FnOk l.prog w K mg base CX0 8 fa fd ["script"] (spLaw K) := by
  have e := hfa.symm.trans (PySem.W.mg_of X G a13)
  cases e
  have A_tools_of : DefAt K mg "tools_of" s_tools_of ["program"] := DefAt.mk' X G a1 l1 c1 k1 fun _ _ _ _ _ _ us hl => match us, hl with | [_], _ => rfl
  have A_stores_of : DefAt K mg "stores_of" s_stores_of ["program"] := DefAt.mk' X G a2 l2 c2 k2 fun _ _ _ _ _ _ us hl => match us, hl with | [_], _ => rfl
  have A_told_tool : DefAt K mg "told_tool" s_told_tool ["tool"] := DefAt.mk' X G a3 l3 c3 k3 fun _ _ _ _ _ _ us hl => match us, hl with | [_], _ => rfl
  have A_told_store : DefAt K mg "told_store" s_told_store ["store"] := DefAt.mk' X G a4 l4 c4 k4 fun _ _ _ _ _ _ us hl => match us, hl with | [_], _ => rfl
  have A_hand_out : DefAt K mg "hand_out" s_hand_out ["tool", "hand", "n"] := DefAt.mk' X G a5 l5 c5 k5 fun _ _ _ _ _ _ us hl => match us, hl with | [_, _, _], _ => rfl
  have A_hand_in : DefAt K mg "hand_in" s_hand_in ["tool", "hand", "n"] := DefAt.mk' X G a6 l6 c6 k6 fun _ _ _ _ _ _ us hl => match us, hl with | [_, _, _], _ => rfl
  have A_serve_takers : DefAt K mg "serve_takers" s_serve_takers ["tool"] := DefAt.mk' X G a7 l7 c7 k7 fun _ _ _ _ _ _ us hl => match us, hl with | [_], _ => rfl
  have A_serve_by_turns : DefAt K mg "serve_by_turns" s_serve_by_turns ["store"] := DefAt.mk' X G a8 l8 c8 k8 fun _ _ _ _ _ _ us hl => match us, hl with | [_], _ => rfl
  have A__law_stir : DefAt K mg "_law_stir" s__law_stir ["cell", "k"] := DefAt.mk' X G a9 l9 c9 k9 fun _ _ _ _ _ _ us hl => match us, hl with | [_, _], _ => rfl
  have A__law_next_served : DefAt K mg "_law_next_served" s__law_next_served ["wants", "room"] := DefAt.mk' X G a10 l10 c10 k10 fun _ _ _ _ _ _ us hl => match us, hl with | [_, _], _ => rfl
  have A__law_tool : DefAt K mg "_law_tool" s__law_tool ["cell", "wants"] := DefAt.mk' X G a11 l11 c11 k11 fun _ _ _ _ _ _ us hl => match us, hl with | [_, _], _ => rfl
  have A__law_store : DefAt K mg "_law_store" s__law_store ["cell", "wants", "word"] := DefAt.mk' X G a12 l12 c12 k12 fun _ _ _ _ _ _ us hl => match us, hl with | [_, _, _], _ => rfl
  have hlen : mg "len" = none := PySem.W.mg_none_of X G z1
  have hsorted : mg "sorted" = none := PySem.W.mg_none_of X G z2
  have hmin : mg "min" = none := PySem.W.mg_none_of X G z3
  have hrange : mg "range" = none := PySem.W.mg_none_of X G z4
  have hlist : mg "list" = none := PySem.W.mg_none_of X G z5
  have hdict : mg "dict" = none := PySem.W.mg_none_of X G z6
  have hint : mg "int" = none := PySem.W.mg_none_of X G z7
  have CL_Tool : Cls K CT := ⟨pgTool, hdTool, poTool, saTool⟩
  have N_Tool_free : NoAttr K CT "free" := nTool_free
  have N_Tool_held : NoAttr K CT "held" := nTool_held
  have N_Tool_queue : NoAttr K CT "queue" := nTool_queue
  have M_Tool : MakeAt K mg "Tool" CT "Tool.__init__" s_Tool___init__ ["self", "count"] := MakeAt.mk' X G aTool mkTool kcTool aTool_init iTool_init lTool_init cTool_init kTool_init fun _ _ _ _ _ _ us hl => match us, hl with | [_, _], _ => rfl
  have CL_Store : Cls K CS := ⟨pgStore, hdStore, poStore, saStore⟩
  have N_Store_level : NoAttr K CS "level" := nStore_level
  have N_Store_most : NoAttr K CS "most" := nStore_most
  have N_Store_getters : NoAttr K CS "getters" := nStore_getters
  have N_Store_putters : NoAttr K CS "putters" := nStore_putters
  have M_Store : MakeAt K mg "Store" CS "Store.__init__" s_Store___init__ ["self", "level", "most"] := MakeAt.mk' X G aStore mkStore kcStore aStore_init iStore_init lStore_init cStore_init kStore_init fun _ _ _ _ _ _ us hl => match us, hl with | [_, _, _], _ => rfl
  have CL_Goods : Cls K CG := ⟨pgGoods, hdGoods, poGoods, saGoods⟩
  have N_Goods_by_tool : NoAttr K CG "by_tool" := nGoods_by_tool
  have N_Goods_by_store : NoAttr K CG "by_store" := nGoods_by_store
  have M_Goods : MakeAt K mg "Goods" CG "Goods.__init__" s_Goods___init__ ["self", "program"] := MakeAt.mk' X G aGoods mkGoods kcGoods aGoods_init iGoods_init lGoods_init cGoods_init kGoods_init fun _ _ _ _ _ _ us hl => match us, hl with | [_, _], _ => rfl
  have M_Goods_take : MethAt K CG "take" "Goods.take" s_Goods_take ["self", "hand", "name", "n"] := MethAt.mk' aGoods_take iGoods_take lGoods_take cGoods_take kGoods_take fun _ _ _ _ _ _ us hl => match us, hl with | [_, _, _, _], _ => rfl
  have M_Goods_give : MethAt K CG "give" "Goods.give" s_Goods_give ["self", "hand", "name", "n"] := MethAt.mk' aGoods_give iGoods_give lGoods_give cGoods_give kGoods_give fun _ _ _ _ _ _ us hl => match us, hl with | [_, _, _, _], _ => rfl
  have M_Goods_put : MethAt K CG "put" "Goods.put" s_Goods_put ["self", "hand", "name", "n"] := MethAt.mk' aGoods_put iGoods_put lGoods_put cGoods_put kGoods_put fun _ _ _ _ _ _ us hl => match us, hl with | [_, _, _, _], _ => rfl
  have M_Goods_get : MethAt K CG "get" "Goods.get" s_Goods_get ["self", "hand", "name", "n"] := MethAt.mk' aGoods_get iGoods_get lGoods_get cGoods_get kGoods_get fun _ _ _ _ _ _ us hl => match us, hl with | [_, _, _, _], _ => rfl
  have M_Goods_tools : MethAt K CG "tools" "Goods.tools" s_Goods_tools ["self"] := MethAt.mk' aGoods_tools iGoods_tools lGoods_tools cGoods_tools kGoods_tools fun _ _ _ _ _ _ us hl => match us, hl with | [_], _ => rfl
  have M_Goods_stores : MethAt K CG "stores" "Goods.stores" s_Goods_stores ["self"] := MethAt.mk' aGoods_stores iGoods_stores lGoods_stores cGoods_stores kGoods_stores fun _ _ _ _ _ _ us hl => match us, hl with | [_], _ => rfl
  have FL := fun_mk (st := s_law) l13 c13 k13
  refine ⟨PySem.W.fnOf "law" "law" (defArgs s_law) (defBody s_law) (defScope s_law) .none kV13 dc13 pm13 an13 cd13 ct13, fun s v => .of_eq rfl, fun base _ _ => ?_⟩
  exact by
    have Gst := ok_stir (P := l.prog) (w := w) (base := base) A__law_stir hrange
    have Gnx := ok_next (P := l.prog) (w := w) (base := base) A__law_next_served
    have Gtl := ok_Tool (P := l.prog) (w := w) (base := base) M_Tool CL_Tool N_Tool_free N_Tool_held N_Tool_queue
    have Gsr := ok_Store (P := l.prog) (w := w) (base := base) M_Store CL_Store N_Store_level N_Store_most N_Store_getters N_Store_putters
    have Gout := ok_out (P := l.prog) (w := w) (base := base) A_hand_out CL_Tool N_Tool_free N_Tool_held
    have Gin := ok_in A_hand_in Gout
    have Gsv := ok_serve A_serve_takers CL_Tool N_Tool_free N_Tool_queue Gout
    have Gtd := ok_told (P := l.prog) (w := w) (base := base) A_told_tool CL_Tool N_Tool_free N_Tool_held N_Tool_queue hsorted hlist
    have Gts := ok_toldS (P := l.prog) (w := w) (base := base) A_told_store CL_Store N_Store_level N_Store_getters N_Store_putters hlist
    have Gtu := ok_turns (P := l.prog) (w := w) (base := base) A_serve_by_turns CL_Store N_Store_level N_Store_most N_Store_getters N_Store_putters
    have Gg := ok_Goods M_Goods CL_Goods N_Goods_by_tool N_Goods_by_store (ok_toolsOf A_tools_of Gtl hdict) (ok_storesOf A_stores_of Gsr hdict)
    have Gtake := ok_take M_Goods_take CL_Goods N_Goods_by_tool CL_Tool N_Tool_free N_Tool_queue Gout
    have Ggive := ok_give M_Goods_give CL_Goods N_Goods_by_tool CL_Tool N_Tool_held Gin Gsv hmin
    have Gput := ok_put M_Goods_put CL_Goods N_Goods_by_store CL_Store N_Store_level N_Store_most N_Store_putters Gtu
    have Gget := ok_get M_Goods_get CL_Goods N_Goods_by_store CL_Store N_Store_level N_Store_getters Gtu
    have Gtools := ok_tools M_Goods_tools CL_Goods N_Goods_by_tool Gtd
    have Gstores := ok_stores M_Goods_stores CL_Goods N_Goods_by_store Gts
    exact ok_law FL Gst (ok_ltool A__law_tool Gst Gnx Gg Gtake Ggive Gtools hlen hlist hrange hmin) (ok_lstore A__law_store Gst Gnx Gg Gput Gget Gstores hlen hlist hrange hint) hrange
theorem walk {l : PySem.W.OpenLaw} {q : Program} {loose : List Str} {XP : (Str → Option Value) → Heap → Prop} {YP : World → Heap → Prop} {d : DefRec} {K : Params → PySem.W.Frag} (hn : l.most = some 63) (hdf : d.params.defaults = [])
    (hY : ∀ (w : World) (h : Heap), YP w h → (K w.params).In h)
    (F : ∀ (w : World) (mg : Str → Option Value) (fa : Addr) (h : Heap), (K w.params).In h → h.Ns mainGlobals mg → mg d.name = some (.ref fa) →
      ∃ fd : FuncData, (∀ (s : Shared) (u : Value), BindsTo s fd ⟨[u], []⟩ [("script", u)]) ∧ ∀ base : Heap, (K w.params).In base → base.Ns mainGlobals mg → FnOk l.prog w (K w.params) mg base CX0 8 fa fd ["script"] (spLaw (K w.params))) :
    PySem.W.WalkO q loose XP YP l.row.toRowW d [] (fun f vs => PySem.call f vs) :=
  L2.walk_of (n := 63) (k := 8) (x := "script") (CX := fun _ => CX0) (sp := fun w => spLaw (K w.params)) hn (by decide) hdf ⟨rfl, by decide, by decide⟩ hY F (fun _ _ a ns hl _ hS => ⟨a, ns, rfl, hS, hl, fun _ => rfl⟩) fun _ _ _ _ _ z => z
end K24
open PySem PySem.W PyProof.Rows
set_option maxRecDepth 100000 in
set_option maxHeartbeats 0 in
theorem PySem.Challenge.cw_rerunyard_k24_queues_known_holds : PySem.Challenge.rw_rerunyard_k24_queues_known.Holds := by
  w_on; o_law; k_head; (case hw => w_witness2)
  k_fill
  refine K24.walk (l := PySem.Challenge.rw_rerunyard_k24_queues_known) rfl rfl (fun w h Y => PySem.W.kIn_of Y) ?F
  case F =>
    intro w mg fa h KX G hmg
    refine' K24.all_mk KX G hmg ?a1 ?l1 ?c1 ?k1 ?a2 ?l2 ?c2 ?k2 ?a3 ?l3 ?c3 ?k3 ?a4 ?l4 ?c4 ?k4 ?a5 ?l5 ?c5 ?k5 ?a6 ?l6 ?c6 ?k6 ?a7 ?l7 ?c7 ?k7 ?a8 ?l8 ?c8 ?k8 ?a9 ?l9 ?c9 ?k9 ?a10 ?l10 ?c10 ?k10 ?a11 ?l11 ?c11 ?k11 ?a12 ?l12 ?c12 ?k12 ?a13 ?l13 ?c13 ?k13 ?z1 ?z2 ?z3 ?z4 ?z5 ?z6 ?z7 ?aTool ?pgTool ?hdTool ?poTool ?saTool ?mkTool ?kcTool ?nTool_free ?nTool_held ?nTool_queue ?aTool_init ?iTool_init ?lTool_init ?cTool_init ?kTool_init ?aStore ?pgStore ?hdStore ?poStore ?saStore ?mkStore ?kcStore ?nStore_level ?nStore_most ?nStore_getters ?nStore_putters ?aStore_init ?iStore_init ?lStore_init ?cStore_init ?kStore_init ?aGoods ?pgGoods ?hdGoods ?poGoods ?saGoods ?mkGoods ?kcGoods ?nGoods_by_tool ?nGoods_by_store ?aGoods_init ?iGoods_init ?lGoods_init ?cGoods_init ?kGoods_init ?aGoods_take ?iGoods_take ?lGoods_take ?cGoods_take ?kGoods_take ?aGoods_give ?iGoods_give ?lGoods_give ?cGoods_give ?kGoods_give ?aGoods_put ?iGoods_put ?lGoods_put ?cGoods_put ?kGoods_put ?aGoods_get ?iGoods_get ?lGoods_get ?cGoods_get ?kGoods_get ?aGoods_tools ?iGoods_tools ?lGoods_tools ?cGoods_tools ?kGoods_tools ?aGoods_stores ?iGoods_stores ?lGoods_stores ?cGoods_stores ?kGoods_stores
    (case a1 => k_is); (case l1 => k_is); (case c1 => k_is); (case k1 => k_is); (case a2 => k_is); (case l2 => k_is); (case c2 => k_is); (case k2 => k_is); (case a3 => k_is); (case l3 => k_is); (case c3 => k_is); (case k3 => k_is); (case a4 => k_is); (case l4 => k_is); (case c4 => k_is); (case k4 => k_is); (case a5 => k_is); (case l5 => k_is); (case c5 => k_is); (case k5 => k_is); (case a6 => k_is); (case l6 => k_is); (case c6 => k_is); (case k6 => k_is); (case a7 => k_is); (case l7 => k_is); (case c7 => k_is); (case k7 => k_is); (case a8 => k_is); (case l8 => k_is); (case c8 => k_is); (case k8 => k_is); (case a9 => k_is); (case l9 => k_is); (case c9 => k_is); (case k9 => k_is); (case a10 => k_is); (case l10 => k_is); (case c10 => k_is); (case k10 => k_is); (case a11 => k_is); (case l11 => k_is); (case c11 => k_is); (case k11 => k_is); (case a12 => k_is); (case l12 => k_is); (case c12 => k_is); (case k12 => k_is); (case a13 => k_is); (case l13 => k_is); (case c13 => k_is); (case k13 => k_is); (case z1 => k_is); (case z2 => k_is); (case z3 => k_is); (case z4 => k_is); (case z5 => k_is); (case z6 => k_is); (case z7 => k_is); (case aTool => k_is); (case pgTool => k_is); (case hdTool => k_is); (case poTool => k_is); (case saTool => k_is); (case mkTool => k_is); (case kcTool => k_is); (case nTool_free => k_is); (case nTool_held => k_is); (case nTool_queue => k_is); (case aTool_init => k_is); (case iTool_init => k_is); (case lTool_init => k_is); (case cTool_init => k_is); (case kTool_init => k_is); (case aStore => k_is); (case pgStore => k_is); (case hdStore => k_is); (case poStore => k_is); (case saStore => k_is); (case mkStore => k_is); (case kcStore => k_is); (case nStore_level => k_is); (case nStore_most => k_is); (case nStore_getters => k_is); (case nStore_putters => k_is); (case aStore_init => k_is); (case iStore_init => k_is); (case lStore_init => k_is); (case cStore_init => k_is); (case kStore_init => k_is); (case aGoods => k_is); (case pgGoods => k_is); (case hdGoods => k_is); (case poGoods => k_is); (case saGoods => k_is); (case mkGoods => k_is); (case kcGoods => k_is); (case nGoods_by_tool => k_is); (case nGoods_by_store => k_is); (case aGoods_init => k_is); (case iGoods_init => k_is); (case lGoods_init => k_is); (case cGoods_init => k_is); (case kGoods_init => k_is); (case aGoods_take => k_is); (case iGoods_take => k_is); (case lGoods_take => k_is); (case cGoods_take => k_is); (case kGoods_take => k_is); (case aGoods_give => k_is); (case iGoods_give => k_is); (case lGoods_give => k_is); (case cGoods_give => k_is); (case kGoods_give => k_is); (case aGoods_put => k_is); (case iGoods_put => k_is); (case lGoods_put => k_is); (case cGoods_put => k_is); (case kGoods_put => k_is); (case aGoods_get => k_is); (case iGoods_get => k_is); (case lGoods_get => k_is); (case cGoods_get => k_is); (case kGoods_get => k_is); (case aGoods_tools => k_is); (case iGoods_tools => k_is); (case lGoods_tools => k_is); (case cGoods_tools => k_is); (case kGoods_tools => k_is); (case aGoods_stores => k_is); (case iGoods_stores => k_is); (case lGoods_stores => k_is); (case cGoods_stores => k_is); (case kGoods_stores => k_is)
#print axioms PySem.Challenge.cw_rerunyard_k24_queues_known_holds

