import PyProof.Rows.All
import Wide.All
import OpenK.AllK
import Wide.FinOn
import Lean
import PyProof.EqAt
import PyProof.EqKinds
import PyProof.TupleCall
import PyProof.ExcAttrAll.ValueError
import PySem.Challenge.RW_rerunyard_k60_whole_doomed_never_served
set_option genSizeOf false
set_option Elab.async false
set_option linter.all false
set_option maxRecDepth 100000
/-! THE HAND LAYER, for ints, bools, texts, own classes, LISTS and tuples (index, slices, in, append, pop ..), calls, loops. Paste it whole ahead of your own text; what your proof does not reach may be deleted. -/
namespace L2
open PySem PySem.Spec PyProof.Rows

abbrev Key := Sum Int Str
def keyIs : Key → Value → Bool
  | .inl k, v => Value.isInt k v
  | .inr x, v => Value.isStrOf x v
def keyH (w : World) : Key → Int
  | .inl k => hashInt k
  | .inr x => hashStr w x
theorem keyIs_shape : ∀ {k : Key} {v : Value}, keyIs k v = true → (∃ i t, k = Sum.inl i ∧ v = Value.int i t) ∨ (∃ x t, k = Sum.inr x ∧ v = Value.str x t)
  | .inl i, v, h => by
    obtain ⟨t, e⟩ := Value.isInt_shape (k := i) (v := v) h
    exact .inl ⟨i, t, rfl, e⟩
  | .inr x, v, h => by
    obtain ⟨t, e⟩ := Value.isStrOf_shape (x := x) (v := v) h
    exact .inr ⟨x, t, rfl, e⟩
theorem keyIs_int (i : Int) (t : Tok) : keyIs (.inl i) (.int i t) = true := by simp [keyIs, Value.isInt]
theorem keyIs_str (x : Str) (t : Tok) : keyIs (.inr x) (.str x t) = true := by simp [keyIs, Value.isStrOf]
theorem key_ll (a b : Int) : decide ((Sum.inl a : Key) = Sum.inl b) = (a == b) := by
  by_cases e : a = b
  · subst e; simp
  · have h : ¬ (Sum.inl a : Key) = Sum.inl b := fun q => e (Sum.inl.inj q)
    rw [decide_eq_false h]
    exact (beq_eq_false_iff_ne.mpr e).symm
theorem key_rr (a b : Str) : decide ((Sum.inr a : Key) = Sum.inr b) = decide (a = b) := by
  by_cases e : a = b
  · subst e; simp
  · have h : ¬ (Sum.inr a : Key) = Sum.inr b := fun q => e (Sum.inr.inj q)
    rw [decide_eq_false h, decide_eq_false e]
theorem key_lr (a : Int) (b : Str) : decide ((Sum.inl a : Key) = Sum.inr b) = false := decide_eq_false (fun q => nomatch q)
theorem key_rl (a : Str) (b : Int) : decide ((Sum.inr a : Key) = Sum.inl b) = false := decide_eq_false (fun q => nomatch q)

def mixKind (prog : Program) (w : World) : PySem.KeyKind prog w Key where
  is := keyIs
  hash := keyH w
  inj := fun v a b ha hb => by
    rcases keyIs_shape ha with ⟨i, t, rfl, rfl⟩ | ⟨x, t, rfl, rfl⟩
    · rcases keyIs_shape hb with ⟨j, u, rfl, e⟩ | ⟨y, u, rfl, e⟩
      · injection e with e1 _; rw [e1]
      · exact nomatch e
    · rcases keyIs_shape hb with ⟨j, u, rfl, e⟩ | ⟨y, u, rfl, e⟩
      · exact nomatch e
      · injection e with e1 _; rw [e1]
  byValue := fun k v h => by
    rcases keyIs_shape h with ⟨i, t, rfl, rfl⟩ | ⟨x, t, rfl, rfl⟩ <;> rfl
  pyHash := fun hv h => by
    rcases keyIs_shape hv with ⟨i, t, rfl, rfl⟩ | ⟨x, t, rfl, rfl⟩
    · exact wpAny_pyHash_int h
    · exact wpAny_pyHash_str h
  eqBool := fun hu hv h => by
    rcases keyIs_shape hu with ⟨i, t, rfl, rfl⟩ | ⟨x, t, rfl, rfl⟩
    · rcases keyIs_shape hv with ⟨j, u, rfl, rfl⟩ | ⟨y, u, rfl, rfl⟩
      · rw [key_ll] at h; exact wpAny_eqBool_int h
      · rw [key_lr] at h; exact SeqAt.EqAt.int_str i t y u _ _ _ _ h
    · rcases keyIs_shape hv with ⟨j, u, rfl, rfl⟩ | ⟨y, u, rfl, rfl⟩
      · rw [key_rl] at h; exact SeqAt.EqAt.str_int x t j u _ _ _ _ h
      · rw [key_rr] at h; exact wpAny_eqBool_str h
  «strs» := fun k x t v h => by
    rcases keyIs_shape h with ⟨i, u, rfl, e⟩ | ⟨y, u, rfl, e⟩
    · exact nomatch e
    · injection e with e1 _
      subst e1
      cases v <;> rfl

theorem mixKind_int (prog : Program) (w : World) (i : Int) (t : Tok) : (mixKind prog w).is (.inl i) (.int i t) = true := keyIs_int i t
theorem mixKind_str (prog : Program) (w : World) (x : Str) (t : Tok) : (mixKind prog w).is (.inr x) (.str x t) = true := keyIs_str x t
end L2

namespace L2
open PySem PySem.Spec PyProof.Rows

inductive V where
  | non | bl (b : Bool) | int (i : Int) | str (x : Str) | byt (b : Array UInt8) | flt (b : UInt64) | ref (a : Addr) | ty (n : String)
  deriving DecidableEq

def RelV : V → Value → Prop
  | .non, u => u = Value.none
  | .bl b, u => u = Value.bool b
  | .int i, u => ∃ t, u = Value.int i t
  | .str x, u => ∃ t, u = Value.str x t
  | .byt b, u => ∃ t, u = Value.bytes b t
  | .flt b, u => ∃ t, u = Value.float b t
  | .ref a, u => u = Value.ref a
  | .ty n, u => u = Value.type n

abbrev Vals : List V → List Value → Prop := Paired RelV
theorem Vals.length {xs : List V} {us : List Value} (r : Vals xs us) : xs.length = us.length := Paired.length r
theorem Vals.get : ∀ {xs : List V} {us : List Value} {i : Nat} {x : V}, Vals xs us → xs[i]? = some x → ∃ u, us[i]? = some u ∧ RelV x u
  | _, _, _, _, .nil, e => by simp at e
  | _, _, 0, _, .cons r _, e => by simp at e; subst e; exact ⟨_, rfl, r⟩
  | _, _, i + 1, x, .cons _ t, e => by
    obtain ⟨u, h1, h2⟩ := Vals.get (i := i) (x := x) t (by simpa using e)
    exact ⟨u, by simpa using h1, h2⟩
theorem Vals.set {x : V} {u : Value} (r : RelV x u) : ∀ {xs : List V} {us : List Value} (i : Nat), Vals xs us → Vals (xs.set i x) (us.set i u)
  | _, _, _, .nil => .nil
  | _, _, 0, .cons _ t => .cons r t
  | _, _, i + 1, .cons q t => .cons q (Vals.set r i t)
theorem Vals.append : ∀ {xs ys : List V} {us ws : List Value}, Vals xs us → Vals ys ws → Vals (xs ++ ys) (us ++ ws)
  | _, _, _, _, .nil, s => s
  | _, _, _, _, .cons r t, s => .cons r (Vals.append t s)
theorem Vals.take : ∀ {xs : List V} {us : List Value} (n : Nat), Vals xs us → Vals (xs.take n) (us.take n)
  | _, _, 0, _ => .nil
  | _, _, _ + 1, .nil => .nil
  | _, _, n + 1, .cons r t => .cons r (Vals.take n t)
theorem Vals.drop : ∀ {xs : List V} {us : List Value} (n : Nat), Vals xs us → Vals (xs.drop n) (us.drop n)
  | _, _, 0, r => r
  | _, _, _ + 1, .nil => .nil
  | _, _, n + 1, .cons _ t => Vals.drop n t
theorem Vals.none_of : ∀ {xs : List V} {us : List Value} {i : Nat}, Vals xs us → xs[i]? = none → us[i]? = none := fun {xs us i} r e => by
  have h1 := r.length
  have h2 : xs.length ≤ i := List.getElem?_eq_none_iff.mp e
  exact List.getElem?_eq_none_iff.mpr (by omega)

def RelO : Option V → Option Value → Prop
  | some v, some u => RelV v u
  | none, none => True
  | _, _ => False
def KV {κ : Type} : List (κ × V) → List (κ × Value) → Prop := Paired fun (p : κ × V) (q : κ × Value) => p.1 = q.1 ∧ RelV p.2 q.2

def kV : Key → V
  | .inl i => .int i
  | .inr x => .str x

inductive HO where
  /-- a list -/
  | lst (xs : List V)
  /-- a tuple (never changes) -/
  | tup (xs : List V)
  /-- a dict whose keys are ints and texts; one whose keys are tuples of ints and texts (the empty one is both) -/
  | dK (kvs : List (Key × V)) | dT (kvs : List (List Key × V))
  /-- a set of ints: its members, its size -/
  | set (S : Int → Bool) (n : Nat)
  /-- an instance of the class at C, its dict at dx, its attributes -/
  | ins (C dx : Addr) (fs : List (Str × V))
  /-- the dict of the instance at x -/
  | own (x : Addr)
  /-- the dict of an exception -/
  | xd (fs : List (Str × V))
  /-- a bound method, f of x -/
  | met (f x : Addr)
  /-- a range object lo, lo + 1, .. below hi -/
  | rng (lo hi : Int)
  /-- a thing that is known to the object (the script; a dict while a loop walks it): read, never written while it is so -/
  | frz (o : Obj) (u : HO)
  /-- a code object's table -/
  | tbl (ps : Array Value)
  /-- any other thing, by what is true of its one object (a def of one's own: SetO a S n := HO.ext fun h => ..) -/
  | ext (φ : Heap → Prop)

abbrev Hp := Addr → Option HO
def upd (H : Hp) (a : Addr) (o : HO) : Hp := fun b => if b = a then some o else H b
theorem upd_same {H : Hp} {a : Addr} {o : HO} : upd H a o a = some o := by unfold upd; rw [if_pos rfl]
theorem upd_ne {H : Hp} {a b : Addr} {o : HO} (h : b ≠ a) : upd H a o b = H b := by unfold upd; rw [if_neg h]
theorem ne_of {H : Hp} {a b : Addr} {o u : HO} (h : H a = some o) (h' : H b = some u) (d : o ≠ u) : a ≠ b := by
  intro e; subst e; rw [h] at h'; exact d (Option.some.inj h')
theorem ne_of_none {H : Hp} {a b : Addr} {o : HO} (h : H a = some o) (h' : H b = none) : a ≠ b := by
  intro e; subst e; rw [h] at h'; cases h'

section
variable (P : Program) (w : World)
def ObjOk (H : Hp) (h : Heap) (a : Addr) : HO → Prop
  | .lst xs => xs.length ≤ sizeLine ∧ ∃ (its : List Value) (n : Nat), Vals xs its ∧ h.get? a = some { cls := .type "list", data := .seq its.toArray n }
  | .tup xs => xs.length ≤ sizeLine ∧ ∃ its : List Value, Vals xs its ∧ IsTup h a its.toArray
  | .dK kvs => kvs.length ≤ sizeLine ∧ (a == sysModules) = false ∧ ∃ vs, KV kvs vs ∧ h.DictOf (mixKind P w) a vs
  | .dT kvs => kvs.length ≤ sizeLine ∧ (a == sysModules) = false ∧ ∃ xs : List (List Key × Addr × Value),
      Paired (fun (p : List Key × V) (q : List Key × Addr × Value) => p.1 = q.1 ∧ H q.2.1 = some (.tup (p.1.map kV)) ∧ RelV p.2 q.2.2) kvs xs ∧
      ∃ o es ep, h.get? a = some o ∧ o.ExactDict ∧ o.data = .dict es ep ∧ es.toList = xs.map (entryOfKey (tupleKind (mixKind P w))) ∧ (xs.map (·.1)).Nodup
  | .set S n => h.SetOf (intKind P w) a S n
  | .ins C dx fs => H dx = some (.own a) ∧ fs.length ≤ 1000 ∧ dx ≠ a ∧ h.get? a = some (PySem.W.instObj C dx) ∧
      ∃ mA, h.Ns1 dx mA ∧ (∀ f, RelO (fs.lookup f) (mA f)) ∧ PySem.Within mA (fs.map (·.1))
  | .own _ => ∃ o, h.get? a = some o
  | .xd fs => ∃ mA, h.Ns1 a mA ∧ ∀ f, RelO (fs.lookup f) (mA f)
  | .rng lo hi => ∃ t u v, h.get? a = some { cls := .type "range", data := .fields #[.int lo t, .int hi u, .int 1 v] }
  | .frz o u => h.get? a = some o ∧ ObjOk H h a u
  | .tbl ps => h.get? a = some { cls := .none, data := .fields ps }
  | .met f x => h.get? a = some (PySem.W.methodObj (.ref f) (.ref x))
  | .ext φ => φ h ∧ (∃ o, h.get? a = some o) ∧ ∀ h1 h2 : Heap, φ h1 → (∀ o, h1.get? a = some o → h2.get? a = some o) → φ h2
def HOk (H : Hp) (h : Heap) : Prop := ∀ a o, H a = some o → ObjOk P w H h a o
end

section
variable {P : Program} {w : World} {H H' : Hp} {h h' : Heap} {a : Addr} {o : HO}
theorem ObjOk.lt (x : ObjOk P w H h a o) : a < h.objs.size := by
  cases o with
  | lst xs => obtain ⟨_, _, _, _, e⟩ := x; exact Heap.lt_size e
  | tup xs => obtain ⟨_, _, _, p⟩ := x; exact p.lt
  | dK kvs => obtain ⟨_, _, _, _, o, _, _, e, _⟩ := x; exact Heap.lt_size e
  | dT kvs => obtain ⟨_, _, _, _, o, _, _, e, _⟩ := x; exact Heap.lt_size e
  | set S n => obtain ⟨o, _, _, _, e, _⟩ := x; exact Heap.lt_size e
  | ins C dx fs => obtain ⟨_, _, _, e, _⟩ := x; exact Heap.lt_size e
  | own y => obtain ⟨_, e⟩ := x; exact Heap.lt_size e
  | xd fs => obtain ⟨_, ⟨_, _, _, e, _⟩, _⟩ := x; exact Heap.lt_size e
  | rng lo hi => obtain ⟨_, _, _, e⟩ := x; exact Heap.lt_size e
  | frz ob u => obtain ⟨e, _⟩ := x; exact Heap.lt_size e
  | tbl ps => exact Heap.lt_size (show h.get? a = some _ from x)
  | met f y => exact Heap.lt_size (show h.get? a = some _ from x)
  | ext φ => obtain ⟨_, ⟨_, e⟩, _⟩ := x; exact Heap.lt_size e
theorem Paired.mapP {α β : Type} {F G : α → β → Prop} : ∀ {l₁ : List α} {l₂ : List β}, Paired F l₁ l₂ → (∀ a b, F a b → G a b) → Paired G l₁ l₂
  | _, _, .nil, _ => .nil
  | _, _, .cons r t, f => .cons (f _ _ r) (Paired.mapP t f)
theorem ObjOk.stay (x : ObjOk P w H h a o) (k : ∀ b u, (b = a ∨ H b = some (.own a)) → h.get? b = some u → h'.get? b = some u)
    (ho : ∀ b, H b = some (.own a) → H' b = some (.own a)) (ht : ∀ b xs, H b = some (.tup xs) → H' b = some (.tup xs)) : ObjOk P w H' h' a o := by
  induction o with
  | lst xs => obtain ⟨z, its, n, r, e⟩ := x; exact ⟨z, its, n, r, k _ _ (.inl rfl) e⟩
  | tup xs => obtain ⟨z, its, r, ob, e, c⟩ := x; exact ⟨z, its, r, ob, k _ _ (.inl rfl) e, c⟩
  | dK kvs => obtain ⟨z, y, vs, r, ob, es, ep, e, c⟩ := x; exact ⟨z, y, vs, r, ob, es, ep, k _ _ (.inl rfl) e, c⟩
  | dT kvs =>
    obtain ⟨z, y, xs, r, ob, es, ep, e, c⟩ := x
    exact ⟨z, y, xs, Paired.mapP r fun p q z => ⟨z.1, ht _ _ z.2.1, z.2.2⟩, ob, es, ep, k _ _ (.inl rfl) e, c⟩
  | set S n => obtain ⟨ob, es, ep, t, e, c⟩ := x; exact ⟨ob, es, ep, t, k _ _ (.inl rfl) e, c⟩
  | ins C dx fs =>
    obtain ⟨d, z, ne, e, mA, ⟨od, es, ep, e2, c⟩, r⟩ := x
    exact ⟨ho _ d, z, ne, k _ _ (.inl rfl) e, mA, ⟨od, es, ep, k _ _ (.inr d) e2, c⟩, r⟩
  | own y => obtain ⟨ob, e⟩ := x; exact ⟨ob, k _ _ (.inl rfl) e⟩
  | xd fs => obtain ⟨mA, ⟨od, es, ep, e, c⟩, r⟩ := x; exact ⟨mA, ⟨od, es, ep, k _ _ (.inl rfl) e, c⟩, r⟩
  | rng lo hi => obtain ⟨t, u, v, e⟩ := x; exact ⟨t, u, v, k _ _ (.inl rfl) e⟩
  | frz ob u ih => obtain ⟨e, q⟩ := x; exact ⟨k _ _ (.inl rfl) e, ih q⟩
  | tbl ps =>
    have e : h.get? a = some { cls := .none, data := .fields ps } := x
    show h'.get? a = some { cls := .none, data := .fields ps }
    exact k a _ (.inl rfl) e
  | met f y =>
    have e : h.get? a = some (PySem.W.methodObj (.ref f) (.ref y)) := x
    show h'.get? a = some (PySem.W.methodObj (.ref f) (.ref y))
    exact k a _ (.inl rfl) e
  | ext φ => obtain ⟨p, ⟨o, e⟩, st⟩ := x; exact ⟨st _ _ p fun o q => k _ _ (.inl rfl) q, ⟨o, k _ _ (.inl rfl) e⟩, st⟩
theorem HOk.lt (x : HOk P w H h) (e : H a = some o) : a < h.objs.size := (x a o e).lt
theorem HOk.fresh (x : HOk P w H h) (e : h.objs.size ≤ a) : H a = none := by
  cases q : H a with
  | none => rfl
  | some u => exact absurd (Nat.lt_of_lt_of_le (x.lt q) e) (Nat.lt_irrefl _)
theorem HOk.kept (x : HOk P w H h) (k : ∀ b u, h.get? b = some u → h'.get? b = some u) : HOk P w H h' := fun a o e =>
  (x a o e).stay (fun b u _ q => k b u q) (fun _ q => q) fun _ _ q => q
theorem HOk.laid (x : HOk P w H h) (k : ∀ b u, h.get? b = some u → h'.get? b = some u) (hp : h.objs.size ≤ a) (new : ObjOk P w (upd H a o) h' a o) : HOk P w (upd H a o) h' := fun b u e => by
  have hn := x.fresh hp
  by_cases hb : b = a
  · subst hb; rw [upd_same] at e; cases e; exact new
  · rw [upd_ne hb] at e
    exact (x b u e).stay (fun c v _ q => k c v q) (fun c q => by rw [upd_ne (ne_of_none q hn)]; exact q) fun c xs q => by rw [upd_ne (ne_of_none q hn)]; exact q
end

def Rd (H : Hp) (a : Addr) (u : HO) : Prop := H a = some u ∨ ∃ o, H a = some (.frz o u)
theorem Rd.of {H : Hp} {a : Addr} {u : HO} (h : H a = some u) : Rd H a u := .inl h
theorem Rd.ok {P : Program} {w : World} {H : Hp} {h : Heap} {a : Addr} {u : HO} (r : Rd H a u) (x : HOk P w H h) : ObjOk P w H h a u := by
  rcases r with r | ⟨o, r⟩
  · exact x a u r
  · obtain ⟨_, q⟩ := x a _ r
    exact q
def Mut : Option HO → Prop
  | some (.lst _) => True
  | some (.dK _) => True
  | some (.dT _) => True
  | some (.set _ _) => True
  | some (.ins _ _ _) => True
  | some (.ext _) => True
  | _ => False
section
variable {P : Program} {w : World} {H : Hp} {h h' : Heap} {x e : Addr} {o' : HO}
theorem HOk.write (ok : HOk P w H h) (mu : Mut (H x)) (he : e = x ∨ H e = some (.own x)) (k : ∀ b u, b ≠ e → h.get? b = some u → h'.get? b = some u) (heo : ∃ u, h'.get? e = some u)
    (new : ObjOk P w (upd H x o') h' x o') : HOk P w (upd H x o') h' := fun b u q => by
  have nown : ∀ c y, H c = some (.own y) → c ≠ x := fun c y r z => by subst z; rw [r] at mu; exact mu
  have ntup : ∀ c xs, H c = some (.tup xs) → c ≠ x := fun c xs r z => by subst z; rw [r] at mu; exact mu
  by_cases hb : b = x
  · subst hb; rw [upd_same] at q; cases q; exact new
  · rw [upd_ne hb] at q
    by_cases hbe : b = e
    · have q' : H b = some (.own x) := by
        rcases he with z | z
        · exact absurd (hbe.trans z) hb
        · rw [hbe]; exact z
      rw [q] at q'; cases q'
      obtain ⟨v, hv⟩ := heo
      exact ⟨v, by rw [hbe]; exact hv⟩
    · refine (ok b u q).stay (fun c v hc r => k c v ?_ r) (fun c r => by rw [upd_ne (nown c b r)]; exact r) fun c xs r => by rw [upd_ne (ntup c xs r)]; exact r
      rcases hc with rfl | hc
      · exact hbe
      · rintro rfl
        rcases he with z | z
        · exact nown c b hc z
        · rw [hc] at z; cases z; exact hb rfl
end

/-! ### kept unless tracked; of the frames at fs (the callers') the slots may change (an exception that passes writes there); of the records at ex (iterators) nothing is said -/
structure Un (fs ex : List Addr) (H H' : Hp) (h h' : Heap) : Prop where
  keep : ∀ b o, h.get? b = some o → H b = none → b ∉ fs → b ∉ ex → h'.get? b = some o
  slot : ∀ b o, h.get? b = some o → H b = none → b ∈ fs → b ∉ ex → ∃ sl, h'.get? b = some { o with slots := sl }
  free : ∀ b o, h.get? b = some o → H b = none → b ∉ ex → H' b = none
  there : ∀ b o, h.get? b = some o → b ∉ ex → ∃ o', h'.get? b = some o'
  tups : ∀ b xs, H b = some (.tup xs) → H' b = some (.tup xs)
  frzs : ∀ b o u, H b = some (.frz o u) → H' b = some (.frz o u)
  tbls : ∀ b ps, H b = some (.tbl ps) → ∃ more, H' b = some (.tbl (ps ++ more))
section
variable {fs fs' ex ex' : List Addr} {H H1 H2 : Hp} {h h1 h2 h' : Heap} {a x e : Addr} {o : HO}
theorem Un.any (u : Un fs ex H H1 h h1) {b : Addr} {ob : Obj} (q : h.get? b = some ob) (n : H b = none) (hx : b ∉ ex) : ∃ sl, h1.get? b = some { ob with slots := sl } := by
  by_cases hb : b ∈ fs
  · exact u.slot b ob q n hb hx
  · exact ⟨ob.slots, u.keep b ob q n hb hx⟩
theorem Un.trans (a : Un fs ex H H1 h h1) (b : Un fs ex H1 H2 h1 h2) : Un fs ex H H2 h h2 where
  keep := fun c ob q n hc hx => b.keep c ob (a.keep c ob q n hc hx) (a.free c ob q n hx) hc hx
  slot := fun c ob q n hc hx => by
    obtain ⟨sl, e1⟩ := a.slot c ob q n hc hx
    obtain ⟨sl', e2⟩ := b.slot c _ e1 (a.free c ob q n hx) hc hx
    exact ⟨sl', e2⟩
  free := fun c ob q n hx => by
    obtain ⟨o', e1⟩ := a.there c ob q hx
    exact b.free c o' e1 (a.free c ob q n hx) hx
  there := fun c ob q hx => by
    obtain ⟨o', e1⟩ := a.there c ob q hx
    exact b.there c o' e1 hx
  tups := fun c xs q => b.tups c xs (a.tups c xs q)
  frzs := fun c ob xs q => b.frzs c ob xs (a.frzs c ob xs q)
  tbls := fun c ps q => by
    obtain ⟨m1, e1⟩ := a.tbls c ps q
    obtain ⟨m2, e2⟩ := b.tbls c _ e1
    exact ⟨m1 ++ m2, by rw [e2, Array.append_assoc]⟩
theorem Un.kept (k : ∀ b u, h.get? b = some u → h'.get? b = some u) : Un fs ex H H h h' :=
  ⟨fun b ob q _ _ _ => k b ob q, fun b ob q _ _ _ => ⟨ob.slots, k b ob q⟩, fun _ _ _ n _ => n, fun b ob q _ => ⟨ob, k b ob q⟩, fun _ _ q => q, fun _ _ _ q => q, fun _ ps q => ⟨#[], by rw [q]; simp⟩⟩
theorem Un.refl : Un fs ex H H h h := Un.kept fun _ _ q => q
theorem Un.laid (k : ∀ b u, h.get? b = some u → h'.get? b = some u) (hp : h.objs.size ≤ a) (hn : H a = none) : Un fs ex H (upd H a o) h h' where
  keep := fun b u q _ _ _ => k b u q
  slot := fun b u q _ _ _ => ⟨u.slots, k b u q⟩
  free := fun b u q n _ => by rw [upd_ne (Nat.ne_of_lt (Nat.lt_of_lt_of_le (Heap.lt_size q) hp))]; exact n
  there := fun b u q _ => ⟨u, k b u q⟩
  tups := fun b xs q => by rw [upd_ne (ne_of_none q hn)]; exact q
  frzs := fun b u xs q => by rw [upd_ne (ne_of_none q hn)]; exact q
  tbls := fun b ps q => ⟨#[], by rw [upd_ne (ne_of_none q hn), q]; simp⟩
theorem Un.write (mu : Mut (H x)) (he : e = x ∨ H e = some (.own x)) (k : ∀ b u, b ≠ e → h.get? b = some u → h'.get? b = some u) (heo : ∃ u, h'.get? e = some u) : Un fs ex H (upd H x o) h h' := by
  have hx : ∀ b, H b = none → b ≠ x := fun b n z => by subst z; rw [n] at mu; exact mu
  have hb : ∀ b, H b = none → b ≠ e := fun b n z => by
    subst z
    rcases he with r | r
    · exact hx b n r
    · rw [n] at r; cases r
  have hm : ∀ b u, H b = some u → ¬ Mut (some u) → b ≠ x := fun b u q nm z => by subst z; rw [q] at mu; exact nm mu
  refine ⟨fun b u q n _ _ => k b u (hb b n) q, fun b u q n _ _ => ⟨u.slots, k b u (hb b n) q⟩, fun b u q n _ => by rw [upd_ne (hx b n)]; exact n, fun b u q _ => ?_,
    fun b xs q => by rw [upd_ne (hm b _ q fun z => z)]; exact q, fun b u xs q => by rw [upd_ne (hm b _ q fun z => z)]; exact q, fun b ps q => ⟨#[], by rw [upd_ne (hm b _ q fun z => z), q]; simp⟩⟩
  by_cases hbe : b = e
  · subst hbe; exact heo
  · exact ⟨u, k b u hbe q⟩
theorem Un.mono (u : Un fs ex H H1 h h1) (hs : ∀ b ∈ fs, b ∈ fs') (hx : ∀ b ∈ ex, b ∈ ex') : Un fs' ex' H H1 h h1 :=
  ⟨fun b ob q n hb he => u.keep b ob q n (fun z => hb (hs b z)) fun z => he (hx b z), fun _ _ q n _ he => u.any q n fun z => he (hx _ z), fun b ob q n he => u.free b ob q n fun z => he (hx b z), fun b ob q he => u.there b ob q fun z => he (hx b z), u.tups, u.frzs, u.tbls⟩
end

/-! ### the heap without what is tracked -/
def trk (h : Heap) (H : Hp) : List Addr := (List.range h.objs.size).filter fun a => (H a).isSome
def hidT (h : Heap) (H : Hp) : Heap := PySem.W.hideAll h (trk h H)
theorem hidT_size (h : Heap) (H : Hp) : (hidT h H).objs.size = h.objs.size := PySem.W.hideAll_size _ _
theorem hidT_get {h : Heap} {H : Hp} {b : Addr} {o : Obj} (e : h.get? b = some o) (n : H b = none) : (hidT h H).get? b = some o :=
  PySem.W.hideAll_get _ e fun hm => by
    have q : (H b).isSome = true := (List.mem_filter.mp hm).2
    rw [n] at q; simp at q
theorem of_hidT {h : Heap} {H : Hp} {b : Addr} {o : Obj} (e : (hidT h H).get? b = some o) : h.get? b = some o ∧ H b = none := by
  have e' : h.get? b = some o := PySem.W.of_hideAll (trk h H) e
  refine ⟨e', ?_⟩
  cases q : H b with
  | none => rfl
  | some x =>
    have hm : b ∈ trk h H := List.mem_filter.mpr ⟨List.mem_range.mpr (Heap.lt_size e'), by simp [q]⟩
    have z : (hidT h H).get? b = none := PySem.W.hideAll_none (trk h H) hm
    rw [z] at e; cases e

/-! ### OpenK's ledger, filled with every new object but one -/
def allNews (g h : Heap) (L : Addr) : List (Addr × Obj) := (List.range h.objs.size).filterMap fun a => if a = L ∨ (g.get? a).isSome = true then none else (h.get? a).map fun o => (a, o)
def rest (g h : Heap) (L d : Addr) : List (Addr × Obj) := (allNews g h L).filter fun p => decide (p.1 ≠ d)
end L2

namespace L2
open PySem PySem.Spec PyProof.Rows

structure Mod (K : PySem.W.Frag) (mg : Str → Option Value) (base : Heap) : Prop where
  kin : K.In base
  glob : base.Ns mainGlobals mg
  blt : ∃ mb, base.Ns builtinsNs mb ∧ ∀ x : Str, x ≠ "__name__" → mb x = bootBuiltins x
  nolimit : base.NoLimit

structure Cx where
  prog : Program
  w : World
  K : PySem.W.Frag
  mg : Str → Option Value
  base : Heap
  A : Around
  N : List Str
  s₀ : Shared
  H₀ : Hp
  env : Env
  outer : List Env
  stack : List Env
  ex : List Addr
  fn : Str → Bool
  calm : Bool
  pn : List (Addr × Obj)
  xe : Value → Shared → Prop
def frs (l : List Env) : List Addr := l.filterMap (·.frame)
abbrev Cx.fs (X : Cx) : List Addr := frs X.outer

def Vis (sc : Scope) (x : Str) : Prop := sc.names.lookup x = some .local ∨ sc.names.lookup x = some .cell ∨ sc.names.lookup x = some .free
def Loc (sc : Scope) (x : Str) : Prop := sc.names.lookup x = some .local ∨ sc.names.lookup x = some .cell
def Look (env : Env) (h : Heap) (m : Str → Option Value) (x : Str) (u : Value) : Prop :=
  (env.kindOf x = some .local ∧ m x = some u) ∨ ((env.kindOf x = some .cell ∨ env.kindOf x = some .free) ∧ ∃ c, env.cells.lookup x = some c ∧ h.IsCell c (some u))

structure Cx.Ok (X : Cx) : Prop where
  mod : Mod X.K X.mg X.base
  kind : X.env.scope.kind = .function
  glob : X.env.globals = mainGlobals
  blt : X.env.builtins = builtinsNs
  above : X.s₀.heap.objs.size ≤ X.env.locals
  inj : ∀ x y c, X.env.cells.lookup x = some c → X.env.cells.lookup y = some c → x = y
  has : ∀ x, (X.env.kindOf x = some .cell ∨ X.env.kindOf x = some .free) → ∃ c, X.env.cells.lookup x = some c
  cab : ∀ x c, X.fn x = true → X.env.cells.lookup x = some c → X.s₀.heap.objs.size ≤ c
  hd : X.calm = true → X.A.handled = none
  frames : X.A.frames = some X.stack
  stk : X.stack = X.outer ∨ (X.stack = X.env :: X.outer ∧ X.env.frame = some X.env.locals)
  exf : ∀ b ∈ X.ex, b ≠ X.env.locals ∧ ∀ x c, X.env.cells.lookup x = some c → c ≠ b
  bs : ∀ b o, X.base.get? b = some o → X.s₀.heap.get? b = some o ∧ X.H₀ b = none
  bsz : X.base.objs.size ≤ X.s₀.heap.objs.size
  noex : ∀ b o, X.base.get? b = some o → b ∉ X.ex
  exfs : ∀ b ∈ X.ex, b ∉ X.fs
  funs : X.s₀.heap.FunFrames X.base X.outer
  frf : ∀ b ∈ X.fs, X.H₀ b = none

structure Inv (X : Cx) (pins : List (Addr × Obj)) (σ : List (Option V)) (H : Hp) (s : Shared) : Prop where
  ok : X.Ok
  os : s.os = X.s₀.os
  bare : AllBare s.gens
  base : Un X.fs X.ex X.H₀ H X.s₀.heap s.heap
  loc : ∃ m, s.heap.Ns X.env.locals m ∧ ∀ (i : Nat) (x : Str) (v : V), X.N[i]? = some x → σ[i]? = some (some v) → Vis X.env.scope x → ∃ u, RelV v u ∧ Look X.env s.heap m x u
  cell : ∀ x c, X.env.cells.lookup x = some c → ∃ v, s.heap.IsCell c v
  free : H X.env.locals = none
  freeC : ∀ x c, X.env.cells.lookup x = some c → H c = none
  pin : ∀ p ∈ X.pn ++ pins, s.heap.get? p.1 = some p.2 ∧ H p.1 = none ∧ p.1 ≠ X.env.locals ∧ p.1 ∉ X.fs ∧ ∀ v, p.2.data ≠ .cell v
  hok : HOk X.prog X.w H s.heap
  len : σ.length = X.N.length

section
variable {X : Cx} {pins : List (Addr × Obj)} {σ : List (Option V)} {H H' : Hp} {s : Shared} {h' : Heap}

theorem Cx.Ok.nofr (ok : X.Ok) {b : Addr} {o : Obj} (e : X.base.get? b = some o) : b ∉ X.fs := fun hb => by
  have := (ok.funs.mem hb).1
  rw [e] at this; cases this
theorem Inv.bs (I : Inv X pins σ H s) : ∀ b o, X.base.get? b = some o → s.heap.get? b = some o ∧ H b = none := fun b o e =>
  ⟨I.base.keep b o (I.ok.bs b o e).1 (I.ok.bs b o e).2 (I.ok.nofr e) (I.ok.noex b o e), I.base.free b o (I.ok.bs b o e).1 (I.ok.bs b o e).2 (I.ok.noex b o e)⟩
theorem Inv.bk (I : Inv X pins σ H s) : ∀ b o, X.base.get? b = some o → s.heap.get? b = some o := fun b o e => (I.bs b o e).1
theorem Inv.mod (I : Inv X pins σ H s) : Mod X.K X.mg X.base := I.ok.mod
theorem Inv.kIn (I : Inv X pins σ H s) : X.K.In s.heap := I.ok.mod.kin.keeps I.bk
theorem Inv.nolimit (I : Inv X pins σ H s) : s.heap.NoLimit := I.ok.mod.nolimit.keeps I.bk
theorem Inv.fr (I : Inv X pins σ H s) : ∃ m, Fr X.base X.env.locals s.heap m :=
  let ⟨m, hn, _⟩ := I.loc
  ⟨m, hn, I.bk, Nat.le_trans I.ok.bsz I.ok.above⟩
theorem Inv.lt (I : Inv X pins σ H s) : X.env.locals < s.heap.objs.size := let ⟨_, hn, _⟩ := I.loc; hn.lt
theorem Inv.sz (I : Inv X pins σ H s) : X.s₀.heap.objs.size ≤ s.heap.objs.size := Nat.le_trans I.ok.above (Nat.le_of_lt I.lt)
theorem Inv.nofs (I : Inv X pins σ H s) {a : Addr} (h : s.heap.objs.size ≤ a) : a ∉ X.fs := fun hb => by
  obtain ⟨_, o, ho, _⟩ := I.ok.funs.mem hb
  exact absurd (Nat.lt_of_lt_of_le (Heap.lt_size ho) (Nat.le_trans I.sz h)) (Nat.lt_irrefl _)
theorem Inv.cne (I : Inv X pins σ H s) : ∀ x c, X.env.cells.lookup x = some c → c ≠ X.env.locals := fun x c e z => by
  obtain ⟨v, o, ho, hd⟩ := I.cell x c e
  obtain ⟨m, ⟨o', es, ep, ho', hd', _⟩, _⟩ := I.loc
  rw [z, ho'] at ho; cases ho; rw [hd'] at hd; cases hd
theorem Inv.funs (I : Inv X pins σ H s) : s.heap.FunFrames X.base X.outer := by
  have all : ∀ (l : List Env), (∀ b ∈ frs l, b ∈ X.fs) → X.s₀.heap.FunFrames X.base l → s.heap.FunFrames X.base l := by
    intro l
    induction l with
    | nil => intro _ _; trivial
    | cons env r ih =>
      intro hs hl
      obtain ⟨hk, ⟨L, o, hf, hn, ho, hd⟩, hr⟩ := hl
      have hL : L ∈ X.fs := hs L (by unfold frs; rw [List.filterMap_cons, hf]; exact List.mem_cons_self)
      obtain ⟨sl, e⟩ := I.base.slot L o ho (I.ok.frf L hL) hL fun z => I.ok.exfs L z hL
      exact ⟨hk, ⟨L, _, hf, hn, e, hd⟩, ih (fun b hb => hs b (by unfold frs; rw [List.filterMap_cons, hf]; exact List.mem_cons_of_mem _ hb)) hr⟩
  exact all X.outer (fun _ hb => hb) I.ok.funs

theorem Inv.stack (I : Inv X pins σ H s) : s.heap.FunFrames X.base X.stack := by
  rcases I.ok.stk with e | ⟨e, hf⟩
  · rw [e]; exact I.funs
  · rw [e]
    obtain ⟨m, hn, _⟩ := I.loc
    refine .cons (by rw [I.ok.kind]; decide) hf hn ?_ I.funs
    exact Heap.get?_none_of_le (Nat.le_trans I.ok.bsz I.ok.above)
theorem Inv.stkSub (I : Inv X pins σ H s) : ∀ b ∈ frs X.stack, b ∈ X.env.locals :: X.fs := fun b hb => by
  rcases I.ok.stk with e | ⟨e, hf⟩
  · rw [e] at hb; exact List.mem_cons_of_mem _ hb
  · rw [e] at hb
    unfold frs at hb
    rw [List.filterMap_cons, hf] at hb
    exact hb
theorem Inv.stkFree (I : Inv X pins σ H s) : ∀ b ∈ frs X.stack, H b = none := fun b hb => by
  rcases List.mem_cons.mp (I.stkSub b hb) with e | hb
  · rw [e]; exact I.free
  · obtain ⟨_, o, ho, _⟩ := I.ok.funs.mem hb
    exact I.base.free b o ho (I.ok.frf b hb) fun z => I.ok.exfs b z hb

theorem Inv.step {g' : Array GenState} {t' : Nat} {d' : Drawn} {ch : List Addr} (I : Inv X pins σ H s)
    (hch : ∀ b ∈ ch, (b ∈ X.ex ∨ X.s₀.heap.objs.size ≤ b) ∧ b ≠ X.env.locals ∧ (∀ x c, X.env.cells.lookup x = some c → c ≠ b) ∧ ∀ p ∈ X.pn ++ pins, p.1 ≠ b)
    (keep : ∀ b o, b ≠ X.env.locals → b ∉ X.fs → b ∉ ch → s.heap.get? b = some o → H b = none → h'.get? b = some o)
    (slot : ∀ b o, b ≠ X.env.locals → b ∈ X.fs → b ∉ ch → s.heap.get? b = some o → H b = none → ∃ sl, h'.get? b = some { o with slots := sl }) (free : ∀ b o, b ∉ ch → s.heap.get? b = some o → H b = none → H' b = none)
    (there : ∀ b o, b ∉ ch → s.heap.get? b = some o → ∃ o', h'.get? b = some o')
    (tups : ∀ b xs, H b = some (.tup xs) → H' b = some (.tup xs)) (frzs : ∀ b o u, H b = some (.frz o u) → H' b = some (.frz o u)) (tbls : ∀ b ps, H b = some (.tbl ps) → ∃ more, H' b = some (.tbl (ps ++ more)))
    (ns : ∀ m, s.heap.Ns X.env.locals m → h'.Ns X.env.locals m) (hok : HOk X.prog X.w H' h') (hg : AllBare g') :
    Inv X pins σ H' { s with heap := h', gens := g', drawn := d', toks := t' } := by
  have neL : ∀ b o, X.s₀.heap.get? b = some o → b ≠ X.env.locals := fun b o e => Nat.ne_of_lt (Nat.lt_of_lt_of_le (Heap.lt_size e) I.ok.above)
  have neC : ∀ b o, X.s₀.heap.get? b = some o → b ∉ X.ex → b ∉ ch := fun b o e hx hb => by
    rcases (hch b hb).1 with z | z
    · exact hx z
    · exact absurd (Nat.lt_of_lt_of_le (Heap.lt_size e) z) (Nat.lt_irrefl _)
  have cellK : ∀ x c, X.env.cells.lookup x = some c → ∀ v, s.heap.IsCell c v → h'.IsCell c v := fun x c e v ⟨o, ho, hd⟩ => by
    have nch : c ∉ ch := fun z => (hch c z).2.2.1 x c e rfl
    by_cases hc : c ∈ X.fs
    · obtain ⟨sl, q⟩ := slot c o (I.cne x c e) hc nch ho (I.freeC x c e)
      exact ⟨_, q, hd⟩
    · exact ⟨o, keep c o (I.cne x c e) hc nch ho (I.freeC x c e), hd⟩
  refine ⟨I.ok, I.os, hg, ⟨fun b o e n hb hx => ?_, fun b o e n hb hx => ?_, fun b o e n hx => ?_, fun b o e hx => ?_, fun b xs e => tups b xs (I.base.tups b xs e), fun b o xs e => frzs b o xs (I.base.frzs b o xs e), fun b ps e => ?_⟩, ?_, fun x c e => ?_, ?_, fun x c e => ?_, fun p hp => ?_, hok, I.len⟩
  · exact keep b o (neL b o e) hb (neC b o e hx) (I.base.keep b o e n hb hx) (I.base.free b o e n hx)
  · obtain ⟨sl, e1⟩ := I.base.slot b o e n hb hx
    obtain ⟨sl', e2⟩ := slot b _ (neL b o e) hb (neC b o e hx) e1 (I.base.free b o e n hx)
    exact ⟨sl', e2⟩
  · obtain ⟨o', e1⟩ := I.base.there b o e hx
    exact free b o' (neC b o e hx) e1 (I.base.free b o e n hx)
  · obtain ⟨o', e1⟩ := I.base.there b o e hx
    exact there b o' (neC b o e hx) e1
  · obtain ⟨m1, e1⟩ := I.base.tbls b ps e
    obtain ⟨m2, e2⟩ := tbls b _ e1
    exact ⟨m1 ++ m2, by rw [e2, Array.append_assoc]⟩
  · obtain ⟨m, hn, hl⟩ := I.loc
    refine ⟨m, ns m hn, fun i x v e1 e2 e3 => ?_⟩
    obtain ⟨u, r, l⟩ := hl i x v e1 e2 e3
    refine ⟨u, r, ?_⟩
    rcases l with l | ⟨k, c, e, z⟩
    · exact .inl l
    · exact .inr ⟨k, c, e, cellK x c e _ z⟩
  · obtain ⟨v, z⟩ := I.cell x c e
    exact ⟨v, cellK x c e v z⟩
  · obtain ⟨m, ⟨o, _, _, ho, _⟩, _⟩ := I.loc
    exact free _ o (fun z => (hch _ z).2.1 rfl) ho I.free
  · obtain ⟨v, o, ho, hd⟩ := I.cell x c e
    exact free c o (fun z => (hch c z).2.2.1 x c e rfl) ho (I.freeC x c e)
  · obtain ⟨e, n, ne, nf, d⟩ := I.pin p hp
    have nch : p.1 ∉ ch := fun z => (hch p.1 z).2.2.2 p hp rfl
    exact ⟨keep p.1 p.2 ne nf nch e n, free p.1 p.2 nch e n, ne, nf, d⟩
theorem Inv.un {t' : Nat} (I : Inv X pins σ H s) (u : Un X.fs [] H H' s.heap h') (hok : HOk X.prog X.w H' h') : Inv X pins σ H' { s with heap := h', toks := t' } := by
  obtain ⟨m, ⟨o, es, ep, ho, r⟩, _⟩ := id I.loc
  obtain ⟨sl, hL⟩ := u.any ho I.free (by simp)
  exact I.step (g' := s.gens) (d' := s.drawn) (ch := []) (fun _ z => nomatch z) (fun b o _ hb _ e n => u.keep b o e n hb (by simp)) (fun b o _ hb _ e n => u.slot b o e n hb (by simp)) (fun b o _ e n => u.free b o e n (by simp)) (fun b o _ e => u.there b o e (by simp)) u.tups u.frzs u.tbls (fun m' hm => by
    obtain ⟨o', es', ep', ho', r'⟩ := hm
    rw [ho] at ho'; cases ho'
    exact ⟨_, es', ep', hL, r'⟩) hok I.bare
theorem Inv.call {g' : Array GenState} {t' : Nat} {d' : Drawn} {ch : List Addr} (I : Inv X pins σ H s) (u : Un (frs X.stack) ch H H' s.heap h') (hok : HOk X.prog X.w H' h') (hg : AllBare g')
    (hch : ∀ b ∈ ch, (b ∈ X.ex ∨ X.s₀.heap.objs.size ≤ b) ∧ b ≠ X.env.locals ∧ (∀ x c, X.env.cells.lookup x = some c → c ≠ b) ∧ ∀ p ∈ X.pn ++ pins, p.1 ≠ b) :
    Inv X pins σ H' { s with heap := h', gens := g', drawn := d', toks := t' } := by
  obtain ⟨m, ⟨o, es, ep, ho, r⟩, _⟩ := id I.loc
  obtain ⟨sl, hL⟩ := u.any ho I.free fun z => (hch _ z).2.1 rfl
  exact I.step (ch := ch) hch (fun b o hL hb hc e n => u.keep b o e n (fun z => (List.mem_cons.mp (I.stkSub b z)).elim hL hb) hc) (fun b o _ _ hc e n => u.any e n hc) (fun b o hc e n => u.free b o e n hc) (fun b o hc e => u.there b o e hc) u.tups u.frzs u.tbls (fun m' hm => by
    obtain ⟨o', es', ep', ho', r'⟩ := hm
    rw [ho] at ho'; cases ho'
    exact ⟨_, es', ep', hL, r'⟩) hok hg
theorem Inv.turned {t' : Nat} {it : Addr} (I : Inv X pins σ H s) (k : ∀ b o, b ≠ it → s.heap.get? b = some o → h'.get? b = some o) (hn : H it = none) (hL : it ≠ X.env.locals)
    (h1 : it ∈ X.ex ∨ X.s₀.heap.objs.size ≤ it) (h2 : ∀ x c, X.env.cells.lookup x = some c → c ≠ it) (h3 : ∀ p ∈ X.pn ++ pins, p.1 ≠ it) : Inv X pins σ H { s with heap := h', toks := t' } := by
  have nit : ∀ b u, H b = some u → b ≠ it := fun b u e z => by rw [z, hn] at e; cases e
  refine I.step (g' := s.gens) (d' := s.drawn) (ch := [it]) (fun b hb => ?_) (fun b o _ _ hc e _ => k b o (fun z => hc (by simp [z])) e) (fun b o _ _ hc e _ => ⟨o.slots, k b o (fun z => hc (by simp [z])) e⟩) (fun _ _ _ _ n => n)
    (fun b o hc e => ⟨o, k b o (fun z => hc (by simp [z])) e⟩) (fun _ _ e => e) (fun _ _ _ e => e) (fun b ps e => ⟨#[], by rw [e]; simp⟩) (fun m hm => ?_) (fun b u e => ?_) I.bare
  · have e : b = it := by simpa using hb
    subst e
    exact ⟨h1, hL, h2, h3⟩
  · obtain ⟨o, es, ep, ho, r⟩ := hm
    exact ⟨o, es, ep, k _ o (Ne.symm hL) ho, r⟩
  · refine (I.hok b u e).stay (fun c v hc q => k c v ?_ q) (fun _ q => q) fun _ _ q => q
    rcases hc with z | z
    · rw [z]; exact nit b u e
    · exact nit c _ z
theorem Inv.tok (I : Inv X pins σ H s) (t : Nat) : Inv X pins σ H { s with toks := t } := I.un (h' := s.heap) (t' := t) Un.refl I.hok
theorem Inv.kept {t' : Nat} (I : Inv X pins σ H s) (k : ∀ b u, s.heap.get? b = some u → h'.get? b = some u) : Inv X pins σ H { s with heap := h', toks := t' } := I.un (Un.kept k) (I.hok.kept k)
theorem Inv.laid {a : Addr} {o : HO} {t' : Nat} (I : Inv X pins σ H s) (k : ∀ b u, s.heap.get? b = some u → h'.get? b = some u) (hp : s.heap.objs.size ≤ a) (new : ObjOk X.prog X.w (upd H a o) h' a o) :
    Inv X pins σ (upd H a o) { s with heap := h', toks := t' } := I.un (Un.laid k hp (I.hok.fresh hp)) (I.hok.laid k hp new)
theorem Inv.write {x e : Addr} {o : HO} {t' : Nat} (I : Inv X pins σ H s) (mu : Mut (H x)) (he : e = x ∨ H e = some (.own x)) (k : ∀ b u, b ≠ e → s.heap.get? b = some u → h'.get? b = some u) (heo : ∃ u, h'.get? e = some u)
    (new : ObjOk X.prog X.w (upd H x o) h' x o) : Inv X pins σ (upd H x o) { s with heap := h', toks := t' } := I.un (Un.write mu he k heo) (I.hok.write mu he k heo new)
theorem Inv.pins_of {pins' : List (Addr × Obj)} (I : Inv X pins σ H s) (h : ∀ p ∈ pins', s.heap.get? p.1 = some p.2 ∧ H p.1 = none ∧ p.1 ≠ X.env.locals ∧ p.1 ∉ X.fs ∧ ∀ v, p.2.data ≠ .cell v) : Inv X pins' σ H s :=
  ⟨I.ok, I.os, I.bare, I.base, I.loc, I.cell, I.free, I.freeC, fun p hp => (List.mem_append.mp hp).elim (fun z => I.pin p (List.mem_append_left _ z)) (h p), I.hok, I.len⟩

theorem nodup_ix {N : List Str} (hN : N.Nodup) {i j : Nat} {x : Str} (a : N[i]? = some x) (b : N[j]? = some x) : i = j := by
  obtain ⟨h1, e1⟩ := List.getElem?_eq_some_iff.mp a
  obtain ⟨h2, e2⟩ := List.getElem?_eq_some_iff.mp b
  exact (List.getElem_inj hN).mp (e1.trans e2.symm)

theorem store_ok2 {M : Model} {A : Around} {E : Value → Shared → Prop} {i : Nat} {x : Str} {v : V} {u : Value} {Q : Unit → Shared → Prop} (I : Inv X pins σ H s) (hN : X.N.Nodup) (hi : X.N[i]? = some x) (hx : Loc X.env.scope x) (r : RelV v u)
    (h : ∀ s', Inv X pins (σ.set i (some v)) H s' → (∃ a, Heap.SameBut a s.heap s'.heap ∧ (a = X.env.locals ∨ X.env.cells.lookup x = some a)) → Q () s') (hf : X.fn x = true ∨ X.env.scope.names.lookup x = some .local := by first | exact .inl rfl | exact .inr rfl | assumption) : wpAny M A (storeName X.env x u) Q E s := by
  obtain ⟨m, hn, hl⟩ := id I.loc
  have hcls : (X.env.scope.kind == .class || (X.env.scope.kind == .module && X.env.locals != X.env.globals)) = false := by rw [I.ok.kind]; rfl
  have hiσ : i < σ.length := by rw [I.len]; exact (List.getElem?_eq_some_iff.mp hi).1
  have cne := I.cne
  have tracked : ∀ {a : Addr} {h' : Heap}, (∃ o, s.heap.get? a = some o ∧ H a = none) → Heap.SameBut a s.heap h' → HOk X.prog X.w H h' := fun {a h'} ha hs b ob e => by
    obtain ⟨_, _, hfree⟩ := ha
    refine (I.hok b ob e).stay (fun c w' hc q => (hs.2 c ?_).trans q) (fun _ q => q) fun _ _ q => q
    rintro rfl
    rcases hc with rfl | hc
    · rw [hfree] at e; cases e
    · rw [hfree] at hc; cases hc
  rcases hx with hk | hk
  · refine wpAny_storeName_local hk hn (fun h' hn' hs => ?_) hcls
    obtain ⟨oL, _, _, hoL, _⟩ := id hn
    refine h _ ⟨I.ok, I.os, I.bare, ⟨fun b o e n hb hx => ?_, fun b o e n hb hx => ?_, I.base.free, fun b o e hx => ?_, I.base.tups, I.base.frzs, I.base.tbls⟩, ⟨_, hn', fun j y v' e1 e2 e3 => ?_⟩, fun y c e => ?_, I.free, I.freeC, fun p hp => ?_, tracked ⟨oL, hoL, I.free⟩ hs, by simpa using I.len⟩ ⟨_, hs, .inl rfl⟩
    · exact (hs.2 b (Nat.ne_of_lt (Nat.lt_of_lt_of_le (Heap.lt_size e) I.ok.above))).trans (I.base.keep b o e n hb hx)
    · obtain ⟨sl, e1⟩ := I.base.slot b o e n hb hx
      exact ⟨sl, (hs.2 b (Nat.ne_of_lt (Nat.lt_of_lt_of_le (Heap.lt_size e) I.ok.above))).trans e1⟩
    · obtain ⟨o', e1⟩ := I.base.there b o e hx
      exact ⟨o', (hs.2 b (Nat.ne_of_lt (Nat.lt_of_lt_of_le (Heap.lt_size e) I.ok.above))).trans e1⟩
    · by_cases hj : j = i
      · subst hj
        rw [hi] at e1; cases e1
        rw [List.getElem?_set_self hiσ] at e2
        cases e2
        exact ⟨u, r, .inl ⟨hk, by simp⟩⟩
      · rw [List.getElem?_set_ne (Ne.symm hj)] at e2
        obtain ⟨u', r', q⟩ := hl j y v' e1 e2 e3
        refine ⟨u', r', ?_⟩
        rcases q with ⟨k, e⟩ | ⟨k, c, e, z⟩
        · refine .inl ⟨k, ?_⟩
          have : y ≠ x := fun e => hj (nodup_ix hN e1 (e ▸ hi))
          simp [this, e]
        · exact .inr ⟨k, c, e, z.sameBut hs (cne y c e)⟩
    · obtain ⟨w', z⟩ := I.cell y c e
      exact ⟨w', z.sameBut hs (cne y c e)⟩
    · obtain ⟨e, n, ne, nf, d⟩ := I.pin p hp
      exact ⟨(hs.2 p.1 ne).trans e, n, ne, nf, d⟩
  · have hfn : X.fn x = true := by
      rcases hf with z | z
      · exact z
      · rw [z] at hk; cases hk
    obtain ⟨c, hc⟩ := I.ok.has x (.inl hk)
    obtain ⟨w', z⟩ := I.cell x c hc
    refine wpAny_storeName_cell I.ok.kind hk hc z (fun h' hc' hs => ?_)
    obtain ⟨oc, hoc, hocd⟩ := id z
    refine h { s with heap := h' } ⟨I.ok, I.os, I.bare, ⟨fun b o e n hb hx => ?_, fun b o e n hb hx => ?_, I.base.free, fun b o e hx => ?_, I.base.tups, I.base.frzs, I.base.tbls⟩, ⟨m, hn.sameBut hs (Ne.symm (cne x c hc)), fun j y v' e1 e2 e3 => ?_⟩, fun y c' e => ?_, I.free, I.freeC, fun p hp => ?_, tracked ⟨oc, hoc, I.freeC x c hc⟩ hs, by simpa using I.len⟩ ⟨c, hs, .inr hc⟩
    · exact (hs.2 b (Nat.ne_of_lt (Nat.lt_of_lt_of_le (Heap.lt_size e) (I.ok.cab x c hfn hc)))).trans (I.base.keep b o e n hb hx)
    · obtain ⟨sl, e1⟩ := I.base.slot b o e n hb hx
      exact ⟨sl, (hs.2 b (Nat.ne_of_lt (Nat.lt_of_lt_of_le (Heap.lt_size e) (I.ok.cab x c hfn hc)))).trans e1⟩
    · obtain ⟨o', e1⟩ := I.base.there b o e hx
      exact ⟨o', (hs.2 b (Nat.ne_of_lt (Nat.lt_of_lt_of_le (Heap.lt_size e) (I.ok.cab x c hfn hc)))).trans e1⟩
    · by_cases hj : j = i
      · subst hj
        rw [hi] at e1; cases e1
        rw [List.getElem?_set_self hiσ] at e2
        cases e2
        exact ⟨u, r, .inr ⟨.inl hk, c, hc, hc'⟩⟩
      · rw [List.getElem?_set_ne (Ne.symm hj)] at e2
        obtain ⟨u', r', q⟩ := hl j y v' e1 e2 e3
        refine ⟨u', r', ?_⟩
        rcases q with q | ⟨k, c', e, z'⟩
        · exact .inl q
        · refine .inr ⟨k, c', e, z'.sameBut hs ?_⟩
          rintro rfl
          exact hj (nodup_ix hN e1 (I.ok.inj _ _ _ e hc ▸ hi))
    · by_cases hcc : c' = c
      · subst hcc; exact ⟨_, hc'⟩
      · obtain ⟨w2, z2⟩ := I.cell y c' e
        exact ⟨w2, z2.sameBut hs hcc⟩
    · obtain ⟨e, n, ne, nf, d⟩ := I.pin p hp
      refine ⟨(hs.2 p.1 ?_).trans e, n, ne, nf, d⟩
      intro q
      rw [q, hoc] at e
      have q' : oc = p.2 := Option.some.inj e
      exact d w' (by rw [← q']; exact hocd)
theorem store_ok {M : Model} {A : Around} {E : Value → Shared → Prop} {i : Nat} {x : Str} {v : V} {u : Value} {Q : Unit → Shared → Prop} (I : Inv X pins σ H s) (hN : X.N.Nodup) (hi : X.N[i]? = some x) (hx : Loc X.env.scope x) (r : RelV v u)
    (h : ∀ s', Inv X pins (σ.set i (some v)) H s' → Q () s') (hf : X.fn x = true ∨ X.env.scope.names.lookup x = some .local := by first | exact .inl rfl | exact .inr rfl | assumption) : wpAny M A (storeName X.env x u) Q E s :=
  store_ok2 I hN hi hx r (fun s' I' _ => h s' I') hf
theorem Inv.call' {s' : Shared} {ch : List Addr} (I : Inv X pins σ H s) (ho : s'.os = s.os) (u : Un (frs X.stack) ch H H' s.heap s'.heap) (hok : HOk X.prog X.w H' s'.heap) (hg : AllBare s'.gens)
    (hch : ∀ b ∈ ch, (b ∈ X.ex ∨ X.s₀.heap.objs.size ≤ b) ∧ b ≠ X.env.locals ∧ (∀ x c, X.env.cells.lookup x = some c → c ≠ b) ∧ ∀ p ∈ X.pn ++ pins, p.1 ≠ b) : Inv X pins σ H' s' := by
  obtain ⟨h', g', d', t', o'⟩ := s'
  have e : o' = s.os := ho
  subst e
  exact I.call (g' := g') (t' := t') (d' := d') u hok hg hch
end

/-! ### the judgements -/
abbrev XK := Value → Option Addr → Hp → Prop
abbrev St := List (Option V)
abbrev VK := V → Hp → Prop
abbrev TE := St → Hp → VK → Prop
abbrev TT := St → Hp → (Bool → Hp → Prop) → Prop
abbrev TA := St → Hp → (List V → Hp → Prop) → Prop
structure Ends where
  nx : St → Hp → Prop
  rt : VK
  bk : St → Hp → Prop := fun _ _ => False
  ct : St → Hp → Prop := fun _ _ => False
abbrev TS := Ends → St → Hp → Prop

def EP (X : Cx) (pins : List (Addr × Obj)) (σ : St) (Q : VK) (u : Value) (s' : Shared) : Prop := ∃ v H', Inv X pins σ H' s' ∧ RelV v u ∧ Q v H'
def TP (X : Cx) (pins : List (Addr × Obj)) (σ : St) (Q : Bool → Hp → Prop) (b : Bool) (s' : Shared) : Prop := ∃ H', Inv X pins σ H' s' ∧ Q b H'
def AP (X : Cx) (pins : List (Addr × Obj)) (σ : St) (Q : List V → Hp → Prop) (us : List Value) (s' : Shared) : Prop := ∃ vs H', Inv X pins σ H' s' ∧ Vals vs us ∧ Q vs H'
def SP (X : Cx) (pins : List (Addr × Obj)) (D : Ends) (f : Flow) (s' : Shared) : Prop :=
  match f with
  | .next => ∃ σ' H', Inv X pins σ' H' s' ∧ D.nx σ' H'
  | .brk => ∃ σ' H', Inv X pins σ' H' s' ∧ D.bk σ' H'
  | .cont => ∃ σ' H', Inv X pins σ' H' s' ∧ D.ct σ' H'
  | .ret u => ∃ v σ' H', Inv X pins σ' H' s' ∧ RelV v u ∧ D.rt v H'

def PE (X : Cx) (e : Expr) (t : TE) : Prop :=
  ∀ (pins : List (Addr × Obj)) (s : Shared) (σ : St) (H : Hp) (Q : VK), Inv X pins σ H s → t σ H Q → wpAny (model X.prog X.w) X.A (eval e X.env) (EP X pins σ Q) X.xe s
def PT (X : Cx) (e : Expr) (t : TT) : Prop :=
  ∀ (pins : List (Addr × Obj)) (s : Shared) (σ : St) (H : Hp) (Q : Bool → Hp → Prop), Inv X pins σ H s → t σ H Q → wpAny (model X.prog X.w) X.A (isTrue e X.env (eval e X.env)) (TP X pins σ Q) X.xe s
def PW (X : Cx) (e : Expr) (t : TT) : Prop :=
  ∀ (whole : Sem Value) (pins : List (Addr × Obj)) (s : Shared) (σ : St) (H : Hp) (Q : Bool → Hp → Prop), Inv X pins σ H s → t σ H Q → wpAny (model X.prog X.w) X.A (isTrue e X.env whole) (TP X pins σ Q) X.xe s
theorem PW.pt {X : Cx} {e : Expr} {t : TT} (h : PW X e t) : PT X e t := h _
def PA (X : Cx) (es : List Expr) (t : TA) : Prop :=
  ∀ (pos : Pos) (pins : List (Addr × Obj)) (s : Shared) (σ : St) (H : Hp) (Q : List V → Hp → Prop), Inv X pins σ H s → t σ H Q → wpAny (model X.prog X.w) X.A (spliced (backTo pos (starEach es X.env))) (AP X pins σ Q) X.xe s
def PS (X : Cx) (st : Stmt) (t : TS) : Prop :=
  ∀ (pins : List (Addr × Obj)) (s : Shared) (σ : St) (H : Hp) (D : Ends), Inv X pins σ H s → t D σ H → wpAny (model X.prog X.w) X.A (exec st X.env) (SP X pins D) X.xe s
def PSs (X : Cx) (st : List Stmt) (t : TS) : Prop :=
  ∀ (pins : List (Addr × Obj)) (s : Shared) (σ : St) (H : Hp) (D : Ends), Inv X pins σ H s → t D σ H → wpAny (model X.prog X.w) X.A (execs st X.env) (SP X pins D) X.xe s
theorem thn {α : Type} {t : Sem α} {Q Q' : α → Shared → Prop} {M : Model} {A : Around} {E : Value → Shared → Prop} {s : Shared} (h : wpAny M A t Q E s) (hQ : ∀ a s, Q a s → Q' a s) : wpAny M A t Q' E s := wpAny_mono h hQ fun _ _ x => x
end L2

namespace L2
open PySem PySem.Spec PyProof.Rows
section
variable {X : Cx}

/-! ### names and constants -/
def tVar (i : Nat) : TE := fun σ H Q => ∃ v, σ[i]? = some (some v) ∧ Q v H
def tC (v : V) : TE := fun _ H Q => Q v H
theorem pe_var {i : Nat} {x : Str} {pos : Pos} (hN : X.N[i]? = some x) (hv : Vis X.env.scope x) (hd : (x == ("__debug__" : Str)) = false := by decide) (hcd : (x == ("__classdict__" : Str)) = false := by decide) : PE X (.Name x pos) (tVar i) := by
  intro pins s σ H Q I h
  obtain ⟨v, e, h⟩ := h
  obtain ⟨m, hn, hl⟩ := I.loc
  obtain ⟨u, r, l⟩ := hl i x v hN e hv
  have fin : EP X pins σ Q u s := ⟨v, H, I, r, h⟩
  rcases l with ⟨hk, hm⟩ | ⟨hk, c, hc, hcell⟩
  · exact wpAny_Name (wpAny_loadName_local I.ok.kind hk hn hm fin) hd
  · rcases hk with hk | hk
    · exact wpAny_Name (wpAny_loadName_cell I.ok.kind hk hc hcell fin) hd
    · exact wpAny_Name (wpAny_loadName_free I.ok.kind hk hc hcell fin hcd) hd
theorem pe_int {i j pos} : PE X (.Constant (.int i) j pos) (tC (.int i)) := fun _ _ _ H _ I h => wpAny_Constant_int ⟨.int i, H, I.tok _, ⟨_, rfl⟩, h⟩
theorem pe_bl {b j pos} : PE X (.Constant (.bool b) j pos) (tC (.bl b)) := fun _ _ _ H _ I h => Constant_bool ⟨.bl b, H, I, rfl, h⟩
theorem pe_str {x j pos} : PE X (.Constant (.str x) j pos) (tC (.str x)) := fun _ _ _ H _ I h => Calls.Constant_str ⟨.str x, H, I.tok _, ⟨_, rfl⟩, h⟩

def Gl (X : Cx) (x : Str) : Prop := X.env.kindOf x = some .globalImplicit
theorem ld_glob {E : Value → Shared → Prop} {pins : List (Addr × Obj)} {s : Shared} {σ : St} {H : Hp} {x : Str} {u : Value} {pos : Pos} {Q : Value → Shared → Prop} (I : Inv X pins σ H s) (hg : Gl X x) (hm : X.mg x = some u) (h : Q u s)
    (hd : (x == ("__debug__" : Str)) = false := by decide) : wpAny (model X.prog X.w) X.A (eval (.Name x pos) X.env) Q E s :=
  Calls.Name_function_global I.ok.kind hg (Calls.loadGlobal_global (by rw [I.ok.glob]; exact I.mod.glob.keeps I.bk) hm h) hd
theorem ld_blt {E : Value → Shared → Prop} {pins : List (Addr × Obj)} {s : Shared} {σ : St} {H : Hp} {x : Str} {u : Value} {pos : Pos} {Q : Value → Shared → Prop} (I : Inv X pins σ H s) (hg : Gl X x) (hm : X.mg x = none) (hv : bootBuiltins x = some u) (h : Q u s)
    (hn : x ≠ "__name__" := by decide) (hd : (x == ("__debug__" : Str)) = false := by decide) : wpAny (model X.prog X.w) X.A (eval (.Name x pos) X.env) Q E s := by
  obtain ⟨mb, h1, h2⟩ := I.mod.blt
  exact Calls.Name_function_global I.ok.kind hg (Calls.loadGlobal_builtin (by rw [I.ok.glob]; exact I.mod.glob.keeps I.bk) hm (by rw [I.ok.blt]; exact h1.keeps I.bk) ((h2 x hn).trans hv) h) hd
/-! ### arithmetic -/
variable {a b : Expr} {ta tb : TE} {pos : Pos}
/-! ### comparisons -/
def PC (X : Cx) (op : CmpOp) (a b : Expr) (t : TE) : Prop :=
  ∀ (pins : List (Addr × Obj)) (s : Shared) (σ : St) (H : Hp) (Q : VK), Inv X pins σ H s → t σ H Q →
    wpAny (model X.prog X.w) X.A (eval a X.env) (fun v s₁ => wpAny (model X.prog X.w) X.A (eval b X.env) (fun u s₂ => wpAny (model X.prog X.w) X.A (compareOp op v u) (EP X pins σ Q) X.xe s₂) X.xe s₁) X.xe s
theorem nobehind (b : Expr) {op : CmpOp} (h : op ≠ .In) (h2 : op ≠ .NotIn) : behindInMarks op b = false := by
  have e1 : (op == CmpOp.In) = false := by cases op <;> first | rfl | exact absurd rfl h
  have e2 : (op == CmpOp.NotIn) = false := by cases op <;> first | rfl | exact absurd rfl h2
  cases b <;> simp [behindInMarks, e1, e2]
def tB (t : TE) : TT := fun σ H Q => t σ H fun x H1 => ∃ c, x = .bl c ∧ Q c H1
theorem pt_cmp {op : CmpOp} {t : TE} (h : PC X op a b t) (h1 : behindInMarks op b = false := by first | exact nobehind _ (by decide) (by decide) | rfl) : PT X (.Compare a [op] [b] pos) (tB t) := by
  intro pins s σ H Q I hw
  refine wpAny_isTrue_Compare1 (thn (h pins s σ H _ I hw) fun v s1 h1 => thn h1 fun u s2 h2 => thn h2 fun c s3 ⟨x, H1, I1, r1, q1⟩ => ?_) h1
  obtain ⟨d, rfl, q⟩ := q1
  cases r1
  exact wpAny_truthy_bool ⟨H1, I1, q⟩
/-! ### and, or, not -/
variable {tA tB' : TT} {rest : List Expr}
def tAnd (t u : TT) : TT := fun σ H Q => t σ H fun c H1 => if c = true then u σ H1 Q else Q false H1
def tOr (t u : TT) : TT := fun σ H Q => t σ H fun c H1 => if c = true then Q true H1 else u σ H1 Q
def tNot (t : TT) : TT := fun σ H Q => t σ H fun c H1 => Q (!c) H1
theorem pw_and1 (ha : PT X a tA) : PW X (.BoolOp .And [a] pos) tA := by
  intro wh pins s σ H Q I h
  refine isTrue_and (thn (ha pins s σ H Q I h) fun c s1 e => ?_)
  cases c with
  | true => exact isTrue_and_nil e
  | false => exact e
theorem pw_or1 (ha : PT X a tA) : PW X (.BoolOp .Or [a] pos) tA := by
  intro wh pins s σ H Q I h
  refine isTrue_or (thn (ha pins s σ H Q I h) fun c s1 e => ?_)
  cases c with
  | false => exact isTrue_or_nil e
  | true => exact e
theorem pw_and (ha : PT X a tA) (hb : PW X (.BoolOp .And (b :: rest) pos) tB') : PW X (.BoolOp .And (a :: b :: rest) pos) (tAnd tA tB') := by
  intro wh pins s σ H Q I h
  refine isTrue_and (thn (ha pins s σ H _ I h) fun c s1 ⟨H1, I1, q1⟩ => ?_)
  cases c with
  | true => exact hb wh pins s1 σ H1 Q I1 q1
  | false => exact ⟨H1, I1, q1⟩
theorem pw_or (ha : PT X a tA) (hb : PW X (.BoolOp .Or (b :: rest) pos) tB') : PW X (.BoolOp .Or (a :: b :: rest) pos) (tOr tA tB') := by
  intro wh pins s σ H Q I h
  refine isTrue_or (thn (ha pins s σ H _ I h) fun c s1 ⟨H1, I1, q1⟩ => ?_)
  cases c with
  | true => exact ⟨H1, I1, q1⟩
  | false => exact hb wh pins s1 σ H1 Q I1 q1
def tAndV (ta tb : TE) : TE := fun σ H Q => ta σ H fun x H1 => ∃ c, x = .bl c ∧ if c = true then tb σ H1 Q else Q (.bl false) H1
def tOrV (ta tb : TE) : TE := fun σ H Q => ta σ H fun x H1 => ∃ c, x = .bl c ∧ if c = true then Q (.bl true) H1 else tb σ H1 Q
def tNotV (ta : TE) : TE := fun σ H Q => ta σ H fun x H1 => ∃ c, x = .bl c ∧ Q (.bl (!c)) H1
theorem pe_one {op} {t : TE} (h : PE X a t) : PE X (.BoolOp op [a] pos) t := fun pins s σ H Q I hw => BoolOp_one (h pins s σ H Q I hw)
theorem pe_and (ha : PE X a ta) (hb : PE X (.BoolOp .And (b :: rest) pos) tb) : PE X (.BoolOp .And (a :: b :: rest) pos) (tAndV ta tb) := by
  intro pins s σ H Q I h
  refine BoolOp_and (thn (ha pins s σ H _ I h) fun v s1 ⟨x, H1, I1, r1, q1⟩ => ?_)
  obtain ⟨c, rfl, q1⟩ := q1
  cases r1
  refine wpAny_truthy_bool ?_
  cases c with
  | true => exact hb pins s1 σ H1 Q I1 q1
  | false => exact ⟨.bl false, H1, I1, rfl, q1⟩
def tIf (t : TT) (ta tb : TE) : TE := fun σ H Q => t σ H fun c H1 => if c = true then ta σ H1 Q else tb σ H1 Q
end
end L2

namespace L2
open PySem PySem.Spec PyProof.Rows

/-! ### a list, a tuple that is read: tracked, frozen, or an object of the module -/
def SqL (K : PySem.W.Frag) (H : Hp) (a : Addr) (xs : List V) : Prop :=
  Rd H a (.lst xs) ∨
    ∃ (o : Obj) (its : Array Value) (n : Nat), K.lookup a = some o ∧ o.cls = .type "list" ∧ o.dict = none ∧ o.data = .seq its n ∧ its.size ≤ sizeLine ∧ Vals xs its.toList
def SqT (K : PySem.W.Frag) (H : Hp) (a : Addr) (xs : List V) : Prop :=
  Rd H a (.tup xs) ∨
    ∃ (o : Obj) (its : Array Value) (n : Nat), K.lookup a = some o ∧ o.cls = .type "tuple" ∧ o.data = .seq its n ∧ its.size ≤ sizeLine ∧ Vals xs its.toList
def absV : Value → Option V
  | .none => some .non
  | .bool b => some (.bl b)
  | .int i _ => some (.int i)
  | .str x _ => some (.str x)
  | .bytes b _ => some (.byt b)
  | .float b _ => some (.flt b)
  | .ref a => some (.ref a)
  | .type n => some (.ty n)
  | _ => none
theorem RelV.abs {x : V} {u : Value} (r : RelV x u) : absV u = some x := by
  cases x with
  | non => cases r; rfl
  | bl _ => cases r; rfl
  | int _ => obtain ⟨t, rfl⟩ := r; rfl
  | str _ => obtain ⟨t, rfl⟩ := r; rfl
  | byt _ => obtain ⟨t, rfl⟩ := r; rfl
  | flt _ => obtain ⟨t, rfl⟩ := r; rfl
  | ref _ => cases r; rfl
  | ty _ => cases r; rfl
theorem RelV.inj {x y : V} {u : Value} (r : RelV x u) (q : RelV y u) : x = y := Option.some.inj (r.abs.symm.trans q.abs)
theorem Vals.inj : ∀ {xs ys : List V} {us : List Value}, Vals xs us → Vals ys us → xs = ys
  | _, _, _, .nil, .nil => rfl
  | _, _, _, .cons r t, .cons r' t' => by rw [r.inj r', Vals.inj t t']
section
variable {X : Cx} {pins : List (Addr × Obj)} {σ : St} {H : Hp} {s : Shared} {a : Addr} {xs ys : List V}
theorem SqL.of {K : PySem.W.Frag} (h : H a = some (.lst xs)) : SqL K H a xs := .inl (.inl h)
theorem SqT.of {K : PySem.W.Frag} (h : H a = some (.tup xs)) : SqT K H a xs := .inl (.inl h)
theorem Inv.list (I : Inv X pins σ H s) (h : SqL X.K H a xs) : ∃ its : List Value, Vals xs its ∧ PlainL s.heap a its.toArray ∧ xs.length ≤ sizeLine := by
  rcases h with h | ⟨o, its, n, hk, hc, hd, hs, hz, r⟩
  · obtain ⟨z, its, n, r, e⟩ := h.ok I.hok
    exact ⟨its, r, ⟨_, n, e, rfl, rfl, rfl⟩, z⟩
  · refine ⟨its.toList, r, ⟨o, n, I.kIn a o hk, hc, hd, by simpa using hs⟩, ?_⟩
    have e := r.length
    simp only [Array.length_toList] at e
    omega
theorem Inv.tuple (I : Inv X pins σ H s) (h : SqT X.K H a xs) : ∃ its : List Value, Vals xs its ∧ IsTup s.heap a its.toArray ∧ xs.length ≤ sizeLine := by
  rcases h with h | ⟨o, its, n, hk, hc, hs, hz, r⟩
  · obtain ⟨z, its, r, p⟩ := h.ok I.hok
    exact ⟨its, r, p, z⟩
  · refine ⟨its.toList, r, ⟨o, I.kIn a o hk, hc, n, by simpa using hs⟩, ?_⟩
    have e := r.length
    simp only [Array.length_toList] at e
    omega
theorem Inv.list_inj (I : Inv X pins σ H s) (h : SqL X.K H a xs) (h' : SqL X.K H a ys) : xs = ys := by
  obtain ⟨its, r, ⟨o, n, e, _, _, d⟩, _⟩ := I.list h
  obtain ⟨its', r', ⟨o', n', e', _, _, d'⟩, _⟩ := I.list h'
  rw [e] at e'; cases e'
  rw [d] at d'
  injection d' with d1 _
  have : its = its' := by simpa using congrArg Array.toList d1
  subst this
  exact r.inj r'
end

/-! ### another wish about exceptions -/
abbrev Cx.wish (X : Cx) (E : Value → Shared → Prop) : Cx := { X with xe := E }
abbrev Cx.nox (X : Cx) : Cx := X.wish fun _ _ => False
theorem Cx.Ok.wish {X : Cx} (ok : X.Ok) (E : Value → Shared → Prop) : (X.wish E).Ok :=
  ⟨ok.mod, ok.kind, ok.glob, ok.blt, ok.above, ok.inj, ok.has, ok.cab, ok.hd, ok.frames, ok.stk, ok.exf, ok.bs, ok.bsz, ok.noex, ok.exfs, ok.funs, ok.frf⟩
theorem Cx.Ok.unwish {X : Cx} {E : Value → Shared → Prop} (ok : (X.wish E).Ok) : X.Ok :=
  ⟨ok.mod, ok.kind, ok.glob, ok.blt, ok.above, ok.inj, ok.has, ok.cab, ok.hd, ok.frames, ok.stk, ok.exf, ok.bs, ok.bsz, ok.noex, ok.exfs, ok.funs, ok.frf⟩
section
variable {X : Cx} {pins : List (Addr × Obj)} {σ : St} {H : Hp} {s : Shared} {E : Value → Shared → Prop}
theorem Inv.wish (I : Inv X pins σ H s) (E : Value → Shared → Prop) : Inv (X.wish E) pins σ H s := ⟨I.ok.wish E, I.os, I.bare, I.base, I.loc, I.cell, I.free, I.freeC, I.pin, I.hok, I.len⟩
theorem Inv.unwish (I : Inv (X.wish E) pins σ H s) : Inv X pins σ H s := ⟨I.ok.unwish, I.os, I.bare, I.base, I.loc, I.cell, I.free, I.freeC, I.pin, I.hok, I.len⟩
theorem SP.unwish {D : Ends} {f : Flow} {s' : Shared} (h : SP (X.wish E) pins D f s') : SP X pins D f s' := by
  cases f with
  | next => obtain ⟨σ', H', I, q⟩ := h; exact ⟨σ', H', I.unwish, q⟩
  | brk => obtain ⟨σ', H', I, q⟩ := h; exact ⟨σ', H', I.unwish, q⟩
  | cont => obtain ⟨σ', H', I, q⟩ := h; exact ⟨σ', H', I.unwish, q⟩
  | ret u => obtain ⟨v, σ', H', I, r, q⟩ := h; exact ⟨v, σ', H', I.unwish, r, q⟩
theorem PE.nox {e : Expr} {t : TE} (h : PE X.nox e t) : PE X e t := fun pins s σ H Q I hw =>
  wpAny_mono (h pins s σ H Q (I.wish _) hw) (fun _ _ ⟨v, H', I', r, q⟩ => ⟨v, H', I'.unwish, r, q⟩) fun _ _ z => False.elim z
theorem PT.nox {e : Expr} {t : TT} (h : PT X.nox e t) : PT X e t := fun pins s σ H Q I hw =>
  wpAny_mono (h pins s σ H Q (I.wish _) hw) (fun _ _ ⟨H', I', q⟩ => ⟨H', I'.unwish, q⟩) fun _ _ z => False.elim z
theorem PSs.nox {st : List Stmt} {t : TS} (h : PSs X.nox st t) : PSs X st t := fun pins s σ H D I hw =>
  wpAny_mono (h pins s σ H D (I.wish _) hw) (fun _ _ q => q.unwish) fun _ _ z => False.elim z
end

/-! ### blocks and small statements -/
section
variable {X : Cx} {st : Stmt} {rest : List Stmt} {t u : TS} {e : Expr} {te : TE} {pos : Pos}
def tNext : TS := fun D σ H => D.nx σ H
def tSeq (t u : TS) : TS := fun D σ H => t { D with nx := u D } σ H
theorem pss_nil : PSs X [] tNext := fun _ _ σ H _ I h => wpAny_execs_nil ⟨σ, H, I, h⟩
theorem pss_cons (h1 : PS X st t) (h2 : PSs X rest u) : PSs X (st :: rest) (tSeq t u) := by
  intro pins s σ H D I h
  refine wpAny_execs_cons (thn (h1 pins s σ H { D with nx := u D } I h) fun f s1 q => ?_)
  cases f with
  | next =>
    obtain ⟨σ', H', I', q⟩ := q
    exact h2 pins s1 σ' H' D I' q
  | ret v => exact q
  | brk => exact q
  | cont => exact q
theorem pss_one (h1 : PS X st t) : PSs X [st] t := by
  intro pins s σ H D I h
  refine wpAny_execs_cons (thn (h1 pins s σ H D I h) fun f s1 q => ?_)
  cases f with
  | next => exact wpAny_execs_nil q
  | ret v => exact q
  | brk => exact q
  | cont => exact q
def tBreak : TS := fun D σ H => D.bk σ H
def tCont : TS := fun D σ H => D.ct σ H
theorem ps_break : PS X (.Break pos) tBreak := fun _ _ σ H _ I h => wpAny_Break ⟨σ, H, I, h⟩
theorem Inv.quiet {pins : List (Addr × Obj)} {σ : St} {H : Hp} {s : Shared} (I : Inv X pins σ H s) : interactive X.env = false := by simp [interactive, I.ok.kind]
def tDrop (te : TE) : TS := fun D σ H => te σ H fun _ H1 => D.nx σ H1
theorem ps_expr (he : PE X e te) (hs : swapsWith e none pos.line X.env = pure false := by rfl) : PS X (.Expr e pos) (tDrop te) := by
  intro pins s σ H D I h
  exact wpAny_Expr_any (thn (he pins s σ H _ I h) fun v s1 ⟨x, H1, I1, r1, q1⟩ => ⟨σ, H1, I1, q1⟩) I.quiet hs
def tRet (te : TE) : TS := fun D σ H => te σ H D.rt
theorem ps_ret (he : PE X e te) : PS X (.Return (some e) pos) (tRet te) := by
  intro pins s σ H D I h
  exact wpAny_Return_some (thn (he pins s σ H _ I h) fun v s1 ⟨x, H1, I1, r1, q1⟩ => ⟨x, σ, H1, I1, r1, q1⟩)
def tRetN : TS := fun D _ H => D.rt .non H
def tIfS (c : TT) (t u : TS) : TS := fun D σ H => c σ H fun b H1 => if b = true then t D σ H1 else u D σ H1
theorem ps_if {c : Expr} {a b : List Stmt} {tc : TT} (hc : PT X c tc) (ha : PSs X a t) (hb : PSs X b u) : PS X (.If c a b pos) (tIfS tc t u) := by
  intro pins s σ H D I h
  refine wpAny_If (thn (hc pins s σ H _ I h) fun d s1 ⟨H1, I1, q1⟩ => ?_)
  cases d with
  | true => exact ha pins s1 σ H1 D I1 q1
  | false => exact hb pins s1 σ H1 D I1 q1
end

/-! ### targets -/
abbrev TG := V → St → Hp → (St → Hp → Prop) → Prop
abbrev TGs := List V → St → Hp → (St → Hp → Prop) → Prop
def PG (X : Cx) (target : Expr) (t : TG) : Prop :=
  ∀ (pins : List (Addr × Obj)) (s : Shared) (σ : St) (H : Hp) (v : V) (u : Value) (Q : St → Hp → Prop), Inv X pins σ H s → RelV v u → t v σ H Q →
    wpAny (model X.prog X.w) X.A (assign target X.env u) (fun _ s' => ∃ σ' H', Inv X pins σ' H' s' ∧ Q σ' H') X.xe s
def PGs (X : Cx) (ts : List Expr) (t : TGs) : Prop :=
  ∀ (pins : List (Addr × Obj)) (s : Shared) (σ : St) (H : Hp) (vs : List V) (us : List Value) (Q : St → Hp → Prop), Inv X pins σ H s → Vals vs us → t vs σ H Q →
    wpAny (model X.prog X.w) X.A (assignInOrder ((assignEach ts X.env).map (·.2)) us) (fun _ s' => ∃ σ' H', Inv X pins σ' H' s' ∧ Q σ' H') X.xe s
abbrev TSet := V → V → V → Hp → (Hp → Prop) → Prop
def PSet (X : Cx) (t : TSet) : Prop :=
  ∀ (pins : List (Addr × Obj)) (s : Shared) (σ : St) (H : Hp) (o i v : V) (ov iv u : Value) (Q : Hp → Prop), Inv X pins σ H s → RelV o ov → RelV i iv → RelV v u → t o i v H Q →
    wpAny (model X.prog X.w) X.A (setItem ov iv u) (fun _ s' => ∃ H', Inv X pins σ H' s' ∧ Q H') X.xe s
section
variable {X : Cx} {pos : Pos}
def gName (i : Nat) : TG := fun v σ H Q => Q (σ.set i (some v)) H
theorem pg_name {i : Nat} {x : Str} (hN : X.N.Nodup) (hi : X.N[i]? = some x) (hx : Loc X.env.scope x) (hf : X.fn x = true ∨ X.env.scope.names.lookup x = some .local := by first | exact .inl rfl | exact .inr rfl | assumption) : PG X (.Name x pos) (gName i) := by
  intro pins s σ H v u Q I r h
  exact wpAny_assign_Name (store_ok I hN hi hx r (fun s' I' => ⟨_, H, I', h⟩) hf)
def gNil : TGs := fun vs σ H Q => vs = [] ∧ Q σ H
def gCons (t : TG) (u : TGs) : TGs := fun vs σ H Q => ∃ v r, vs = v :: r ∧ t v σ H fun σ' H' => u r σ' H' Q
theorem pgs_nil : PGs X [] gNil := by
  intro pins s σ H vs us Q I r h
  obtain ⟨e, h⟩ := h
  subst e
  cases r
  exact assignInOrder_nil ⟨σ, H, I, h⟩
theorem pgs_cons {e : Expr} {es : List Expr} {t : TG} {u : TGs} (h1 : PG X e t) (h2 : PGs X es u)
    (hs : (assignEach (e :: es) X.env).map (·.2) = assign e X.env :: (assignEach es X.env).map (·.2) := by rfl) : PGs X (e :: es) (gCons t u) := by
  intro pins s σ H vs us Q I r h
  obtain ⟨v, vr, e1, h⟩ := h
  subst e1
  cases r with
  | cons r rr =>
    rw [hs]
    refine assignInOrder_cons (thn (h1 pins s σ H _ _ _ I r h) fun _ s1 ⟨σ1, H1, I1, q1⟩ => ?_)
    exact h2 pins s1 σ1 H1 _ _ Q I1 rr q1
def gTup (K : PySem.W.Frag) (n : Nat) (t : TGs) : TG := fun v σ H Q => ∃ a xs, v = .ref a ∧ SqT K H a xs ∧ xs.length = n ∧ t xs σ H Q
theorem pg_tup {es : List Expr} {k : Nat} {t : TGs} {n : Nat} (hc : X.calm = true) (h : PGs X es t)
    (hn : (assignEach es X.env).length = n := by rfl) (hst : (assignEach es X.env).findIdx? (·.1) = none := by rfl) : PG X (.Tuple es k pos) (gTup X.K n t) := by
  intro pins s σ H v u Q I r hw
  obtain ⟨a, xs, e1, hq, hl, hw⟩ := hw
  subst e1
  cases r
  obtain ⟨its, rv, ht, hz⟩ := I.tuple hq
  refine assign_Tuple_tuple (I.ok.hd hc) ht (by simp [hn, ← hl, rv.length]) hst fun h' hx => ?_
  have I1 : Inv X pins σ H { s with heap := h' } := I.kept (t' := s.toks) fun b o e => hx b o (Nat.ne_of_lt (Heap.lt_size e)) e
  exact h pins _ σ H xs _ Q I1 (by simpa using rv) hw
def gSub (to ti : TE) (t : TSet) : TG := fun v σ H Q => to σ H fun o H1 => ti σ H1 fun i H2 => t o i v H2 fun H3 => Q σ H3
def tAsg (te : TE) (g : TG) : TS := fun D σ H => te σ H fun x H1 => g x σ H1 D.nx
theorem ps_asg {tg e : Expr} {te : TE} {g : TG} (he : PE X e te) (hg : PG X tg g) (hs : swapsWithSole [tg] e pos.line X.env = pure false := by rfl) (hw : swappedStores [tg] e X.env = pure none := by rfl)
    (h1 : (assignEach [tg] X.env).map (·.2) = [assign tg X.env] := by rfl) : PS X (.Assign [tg] e pos) (tAsg te g) := by
  intro pins s σ H D I h
  refine wpAny_Assign_stores (thn (he pins s σ H _ I h) fun v s1 ⟨x, H1, I1, r1, q1⟩ => ?_) hs hw
  rw [h1]
  exact thn (hg pins s1 σ H1 x v _ I1 r1 q1) fun _ s2 q => q
theorem ps_set {i : Nat} {x : Str} {e : Expr} {te : TE} {pos' : Pos} (hN : X.N.Nodup) (hi : X.N[i]? = some x) (hx : Loc X.env.scope x) (he : PE X e te) (hs : swapsWith e (some (.Name x pos')) pos.line X.env = pure false := by rfl) (hf : X.fn x = true ∨ X.env.scope.names.lookup x = some .local := by first | exact .inl rfl | exact .inr rfl | assumption) :
    PS X (.Assign [.Name x pos'] e pos) (tAsg te (gName i)) := by
  intro pins s σ H D I h
  refine wpAny_Assign_Name (thn (he pins s σ H _ I h) fun v s1 ⟨y, H1, I1, r1, q1⟩ => ?_) hs
  exact store_ok I1 hN hi hx r1 (fun s2 I2 => ⟨_, H1, I2, q1⟩) hf
end

/-! ### while -/
section
variable {X : Cx} {pos : Pos}
def tWhile (c : TT) (tb : TS) : TS := fun D σ H => ∃ W : Nat → St → Hp → Prop, (∃ m, W m σ H) ∧ ∀ m σ H, W m σ H →
  c σ H fun b H1 => if b = true then ∃ N : St → Hp → Prop, (∀ σ' H', N σ' H' → ∃ m', m' < m ∧ W m' σ' H') ∧ tb { D with nx := N, ct := N, bk := D.nx } σ H1 else D.nx σ H1
theorem ps_while {c : Expr} {body : List Stmt} {tc : TT} {tb : TS} (hp : PassesOwn (model X.prog X.w) X.A X.env X.xe) (hc : PT X c tc) (hb : PSs X body tb) : PS X (.While c body [] pos) (tWhile tc tb) := by
  intro pins s σ H D I h
  obtain ⟨W, ⟨m0, w0⟩, turn⟩ := h
  refine wpAny_While (codeAny_whileLoop (fun n s' => ∃ σ' H', Inv X pins σ' H' s' ∧ W n σ' H') ?_ m0 ⟨σ, H, I, w0⟩)
  rintro n s1 ⟨σ1, H1, I1, w1⟩
  refine wpAny_passesOwn hp (thn (hc pins s1 σ1 H1 _ I1 (turn n σ1 H1 w1)) fun b s2 ⟨H2, I2, q2⟩ => ?_)
  cases b with
  | true =>
    obtain ⟨N, hN, q2⟩ := q2
    rw [if_pos rfl]
    refine wpAny_passesOwn hp (thn (hb pins s2 σ1 H2 _ I2 q2) fun f s3 q3 => ?_)
    cases f with
    | next =>
      obtain ⟨σ3, H3, I3, n3⟩ := q3
      obtain ⟨m', hm, w3⟩ := hN σ3 H3 n3
      exact ⟨m', hm, σ3, H3, I3, w3⟩
    | cont =>
      obtain ⟨σ3, H3, I3, n3⟩ := q3
      obtain ⟨m', hm, w3⟩ := hN σ3 H3 n3
      exact ⟨m', hm, σ3, H3, I3, w3⟩
    | brk => exact q3
    | ret v => exact q3
  | false =>
    rw [if_neg Bool.false_ne_true]
    exact wpAny_execs_nil ⟨σ1, H2, I2, q2⟩
end

/-! ### what a loop or a comprehension walks -/
structure It where
  go : Nat → Hp → Prop
  yld : Nat → Hp → V → Hp → Prop
  stop : Nat → Hp → Prop
def FpOk (X : Cx) (pins : List (Addr × Obj)) (H : Hp) (b : Addr) : Prop :=
  H b = none ∧ b ≠ X.env.locals ∧ b ∉ X.fs ∧ (b ∈ X.ex ∨ X.s₀.heap.objs.size ≤ b) ∧ (∀ x c, X.env.cells.lookup x = some c → c ≠ b) ∧ ∀ p ∈ X.pn ++ pins, p.1 ≠ b
theorem Inv.fpOk {X : Cx} {pins : List (Addr × Obj)} {σ : St} {H H' : Hp} {s : Shared} {b : Addr} (I : Inv X pins σ H s) (hb : s.heap.objs.size ≤ b) (hn : H' b = none) : FpOk X pins H' b := by
  refine ⟨hn, Nat.ne_of_gt (Nat.lt_of_lt_of_le I.lt hb), I.nofs hb, .inr (Nat.le_trans I.sz hb), fun x c e z => ?_, fun p hp z => ?_⟩
  · obtain ⟨v, q⟩ := I.cell x c e
    exact absurd (Nat.lt_of_lt_of_le q.lt (by rw [z]; exact hb)) (Nat.lt_irrefl _)
  · exact absurd (Nat.lt_of_lt_of_le (Heap.lt_size (I.pin p hp).1) (by rw [z]; exact hb)) (Nat.lt_irrefl _)
structure Turn (P : Program) (w : World) (K : PySem.W.Frag) (tg : Expr) (J : It) (fp : List Addr) (it : Addr) (tn : Nat → Heap → Prop) : Prop where
  mem : it ∈ fp
  obj : ∀ i h, tn i h → ∀ b ∈ fp, ∃ o, h.get? b = some o ∧ ∀ v, o.data ≠ .cell v
  keep : ∀ i h h', tn i h → (∀ b ∈ fp, ∀ o, h.get? b = some o → h'.get? b = some o) → tn i h'
  item : ∀ (X : Cx), X.prog = P → X.w = w → X.K = K → X.calm = true → ∀ (i : Nat) (pins : List (Addr × Obj)) (s : Shared) (σ : St) (H : Hp) (E : Value → Shared → Prop), Inv X pins σ H s → (∀ b ∈ fp, FpOk X pins H b) → tn i s.heap → J.go i H →
    wpAny (model P w) X.A (pyNext (.ref it)) (fun r s1 => ∃ u, r = some u ∧
      wpAny (model P w) X.A (letOwnedTupleGo tg (.ref it) u) (fun _ s2 => ∃ x H', Inv X pins σ H' s2 ∧ RelV x u ∧ J.yld i H x H' ∧ tn (i + 1) s2.heap ∧ ∀ b ∈ fp, H' b = none) E s1) E s
  done : ∀ (X : Cx), X.prog = P → X.w = w → X.K = K → X.calm = true → ∀ (i : Nat) (pins : List (Addr × Obj)) (s : Shared) (σ : St) (H : Hp) (E : Value → Shared → Prop), Inv X pins σ H s → (∀ b ∈ fp, FpOk X pins H b) → tn i s.heap → J.stop i H →
    wpAny (model P w) X.A (pyNext (.ref it)) (fun r s1 => r = none ∧ Inv X pins σ H s1) E s
  self : ∀ (A : Around) (i : Nat) (s : Shared) (Q : Value → Shared → Prop) (E : Value → Shared → Prop), tn i s.heap → Q (.ref it) s → wpAny (model P w) A (pyIter (.ref it)) Q E s
abbrev TI := St → Hp → (It → Hp → Prop) → Prop
def PIE (X : Cx) (pins : List (Addr × Obj)) (σ : St) (tg : Expr) (R : It → Hp → Prop) (itv : Value) (s2 : Shared) : Prop :=
  ∃ (it : Addr) (fp : List Addr) (tn : Nat → Heap → Prop) (J : It) (H' : Hp), itv = .ref it ∧ Inv X pins σ H' s2 ∧ Turn X.prog X.w X.K tg J fp it tn ∧ tn 0 s2.heap ∧ (∀ b ∈ fp, FpOk X pins H' b) ∧ R J H'
def PI (X : Cx) (tg iter : Expr) (wi : TI) : Prop :=
  ∀ (pins : List (Addr × Obj)) (s : Shared) (σ : St) (H : Hp) (R : It → Hp → Prop), Inv X pins σ H s → wi σ H R →
    wpAny (model X.prog X.w) X.A (eval iter X.env) (fun v s1 => wpAny (model X.prog X.w) X.A (pyIter v) (PIE X pins σ tg R) X.xe s1) X.xe s

theorem go_of {M : Model} {A : Around} {E : Value → Shared → Prop} {s : Shared} {tg : Expr} {it : Addr} {u : Value} {o : Obj} {n : String} {vs : Array Value} {Q : Unit → Shared → Prop} (ho : s.heap.get? it = some o) (hc : o.cls = .type n) (hd : o.data = .fields vs)
    (hn : ["enumerate", "zip", "dict_itemiterator", "dict_reverseitemiterator", "odict_iterator", "itertools.zip_longest", "itertools.pairwise"].contains n = false) (hQ : Q () s) : wpAny M A (letOwnedTupleGo tg (.ref it) u) Q E s := by
  unfold letOwnedTupleGo
  cases tg <;> first
    | exact wpAny_pure hQ
    | (cases u <;> first
        | exact wpAny_pure hQ
        | (refine wpAny_bind (wpAny_load ho ?_)
           rw [hc, hd]
           show wpAny M A (if (["enumerate", "zip", "dict_itemiterator", "dict_reverseitemiterator", "odict_iterator", "itertools.zip_longest", "itertools.pairwise"].contains n && vs[0]? == some (rawInt _)) = true then _ else _) Q E s
           rw [if_neg (by intro h; rw [hn, Bool.false_and] at h; cases h)]
           exact wpAny_pure hQ))

def Itl (K : PySem.W.Frag) (a : Addr) : It :=
  ⟨fun i H => ∃ xs x, SqL K H a xs ∧ xs[i]? = some x, fun i H x H' => H' = H ∧ ∀ xs, SqL K H a xs → xs[i]? = some x, fun i H => ∃ xs, SqL K H a xs ∧ xs.length ≤ i⟩
def Itr (lo : Int) (n : Nat) : It := ⟨fun i _ => i < n, fun i H x H' => H' = H ∧ x = .int (lo + i), fun i _ => n ≤ i⟩
theorem turn_list {P : Program} {w : World} {K : PySem.W.Frag} {tg : Expr} (a it : Addr) : Turn P w K tg (Itl K a) [it] it (fun i h => h.IsListIter it a i) where
  mem := by simp
  obj := fun i h st b hb => by
    have e : b = it := by simpa using hb
    subst e
    obtain ⟨o, e, c, d⟩ := st
    exact ⟨o, e, fun v z => by rw [d] at z; cases z⟩
  keep := fun i h h' st k => st.at fun o e => k it (by simp) o e
  item := by
    intro X hP hw hK hc i pins s σ H E I hf st hg
    subst hP hw hK
    obtain ⟨xs, x, hq, hx⟩ := hg
    obtain ⟨its, rv, p, hz⟩ := I.list hq
    obtain ⟨u, hu, ru⟩ := rv.get hx
    obtain ⟨f0, f1, f2, f3, f4, f5⟩ := hf it (by simp)
    refine wpAny_pyNext_list_item st p.isList (x := u) (by simpa using hu) fun h' st' sb => ?_
    have I1 : Inv X pins σ H { s with heap := h' } := I.turned (t' := s.toks) (fun b o hb e => (sb.2 b hb).trans e) f0 f1 f3 f4 f5
    obtain ⟨o, e, c, d⟩ := id st'
    exact ⟨u, rfl, go_of (s := { s with heap := h' }) e c d (by decide) ⟨x, H, I1, ru, ⟨rfl, fun ys hy => by rw [I.list_inj hy hq]; exact hx⟩, st', fun b hb => (hf b hb).1⟩⟩
  done := by
    intro X hP hw hK hc i pins s σ H E I hf st hg
    subst hP hw hK
    obtain ⟨xs, hq, hx⟩ := hg
    obtain ⟨its, rv, p, hz⟩ := I.list hq
    obtain ⟨f0, f1, f2, f3, f4, f5⟩ := hf it (by simp)
    have hl := rv.length
    exact wpAny_pyNext_list_end (I.ok.hd hc) st p.isList (by simp; omega) fun h' eb => ⟨rfl, I.turned (t' := s.toks) (fun b o hb e => eb b o hb e) f0 f1 f3 f4 f5⟩
  self := fun _ _ _ _ _ st h => wpAny_pyIter_listiter st h
theorem turn_range {P : Program} {w : World} {K : PySem.W.Frag} {tg : Expr} (it : Addr) (lo : Int) (n : Nat) : Turn P w K tg (Itr lo n) [it] it (fun i h => IsRangeIter h it (lo + (i : Nat) * 1) ((n : Int) - (i : Nat)) 1) where
  mem := by simp
  obj := fun i h st b hb => by
    have e : b = it := by simpa using hb
    subst e
    exact ⟨_, st, fun v z => by
      have z' : Data.fields _ = Data.cell v := z
      cases z'⟩
  keep := fun i h h' st k => k it (by simp) _ st
  item := by
    intro X hP hw hK hc i pins s σ H E I hf st hg
    subst hP hw hK
    obtain ⟨f0, f1, f2, f3, f4, f5⟩ := hf it (by simp)
    have W := Walks.range (prog := X.prog) (w := X.w) (I.ok.hd hc) it lo 1 n
    refine W.item i s _ _ hg st fun v h' tk hv st' kk => ?_
    obtain ⟨t, rfl⟩ := hv
    have I1 : Inv X pins σ H { s with heap := h', toks := tk } := I.turned (fun b o hb e => kk b o (by simpa using hb) e) f0 f1 f3 f4 f5
    refine ⟨_, rfl, go_of (s := { s with heap := h', toks := tk }) (n := "range_iterator") st' rfl rfl (by decide) ⟨.int (lo + i), H, I1, ⟨t, ?_⟩, ⟨rfl, rfl⟩, st', fun b hb => (hf b hb).1⟩⟩
    rw [Int.mul_one]
  done := by
    intro X hP hw hK hc i pins s σ H E I hf st hg
    subst hP hw hK
    obtain ⟨f0, f1, f2, f3, f4, f5⟩ := hf it (by simp)
    exact wpAny_pyNext_range_end (I.ok.hd hc) st (by have : n ≤ i := hg; omega) fun h' eb => ⟨rfl, I.turned (t' := s.toks) (fun b o hb e => eb b o hb e) f0 f1 f3 f4 f5⟩
  self := fun _ _ _ _ _ st h => wpAny_pyIter_rangeiter st h
end L2

namespace L2
open PySem PySem.Spec PyProof.Rows
section
variable {X : Cx} {tg : Expr}
def iList (K : PySem.W.Frag) (tl : TE) : TI := fun σ H R => tl σ H fun x H1 => ∃ a, x = .ref a ∧ (∃ xs, SqL K H1 a xs) ∧ R (Itl K a) H1
theorem pi_list {l : Expr} {tl : TE} (hl : PE X l tl) : PI X tg l (iList X.K tl) := by
  intro pins s σ H R I h
  refine thn (hl pins s σ H _ I h) fun v s1 ⟨x, H1, I1, r1, q1⟩ => ?_
  obtain ⟨a, e, ⟨xs, hq⟩, q⟩ := q1
  subst e
  cases r1
  obtain ⟨its, rv, p, hz⟩ := I1.list hq
  refine wpAny_pyIter_list p.isList ?_
  refine ⟨s1.heap.objs.size, [s1.heap.objs.size], _, _, H1, rfl, I1.kept (t' := s1.toks) fun b o e => Heap.get?_push_of_some _ e, turn_list a _, ⟨_, Heap.get?_push_size _ rfl, rfl, rfl⟩, fun b hb => ?_, q⟩
  have e : b = s1.heap.objs.size := by simpa using hb
  subst e
  exact I1.fpOk (Nat.le_refl _) (I1.hok.fresh (Nat.le_refl _))
theorem range_it {pins : List (Addr × Obj)} {σ : St} {H : Hp} {s : Shared} {R : It → Hp → Prop} {E : Value → Shared → Prop} {lo hi : Int} {t u v : Tok} {tk : Nat} (I : Inv X pins σ H s) (h1 : -(2 ^ 62) ≤ lo) (h2 : lo < 2 ^ 62) (h3 : -(2 ^ 62) ≤ hi) (h4 : hi < 2 ^ 62)
    (q : R (Itr lo (hi - lo).toNat) H) : wpAny (model X.prog X.w) X.A (pyIter (.ref s.heap.objs.size)) (PIE X pins σ tg R) E { s with heap := s.heap.push { cls := .type "range", data := .fields #[.int lo t, .int hi u, .int 1 v] }, toks := tk } := by
  refine wpAny_pyIter_range (IsRange.new ..) (small_one h1 h2 h3 h4) ?_
  have I1 : Inv X pins σ H { s with heap := s.heap.push { cls := .type "range", data := .fields #[.int lo t, .int hi u, .int 1 v] }, toks := tk } := I.kept fun b o e => Heap.get?_push_of_some _ e
  refine ⟨(s.heap.push { cls := .type "range", data := .fields #[.int lo t, .int hi u, .int 1 v] }).objs.size, [(s.heap.push { cls := .type "range", data := .fields #[.int lo t, .int hi u, .int 1 v] }).objs.size], _, _, H, rfl,
    I1.kept (t' := tk) fun b o e => Heap.get?_push_of_some _ e, turn_range _ lo (hi - lo).toNat, ?_, fun b hb => ?_, q⟩
  · have e1 : lo + ((0 : Nat) : Int) * 1 = lo := by simp
    have e2 : (((hi - lo).toNat : Nat) : Int) - ((0 : Nat) : Int) = Builtin.Range.rangeSize lo hi 1 := by rw [rangeSize_one]; split <;> omega
    show IsRangeIter _ _ (lo + ((0 : Nat) : Int) * 1) ((((hi - lo).toNat : Nat) : Int) - ((0 : Nat) : Int)) 1
    rw [e1, e2]
    exact Heap.get?_push_size _ rfl
  · have e : b = (s.heap.push { cls := .type "range", data := .fields #[.int lo t, .int hi u, .int 1 v] }).objs.size := by simpa using hb
    subst e
    exact I1.fpOk (Nat.le_refl _) (I1.hok.fresh (Nat.le_refl _))
def iRng1 (ta : TA) : TI := fun σ H R => ta σ H fun vs H1 => ∃ j : Int, vs = [.int j] ∧ -(2 ^ 62) ≤ j ∧ j < 2 ^ 62 ∧ R (Itr 0 j.toNat) H1
def iRng2 (ta : TA) : TI := fun σ H R => ta σ H fun vs H1 => ∃ i j : Int, vs = [.int i, .int j] ∧ (-(2 ^ 62) ≤ i ∧ i < 2 ^ 62 ∧ -(2 ^ 62) ≤ j ∧ j < 2 ^ 62) ∧ R (Itr i (j - i).toNat) H1
theorem pi_range1 {a : Expr} {ta : TA} {p pos : Pos} (hg : Gl X "range") (hm : X.mg "range" = none) (ha : PA X [a] ta) (hs : starEach [a] X.env = [(false, eval a X.env)] := by rfl) : PI X tg (.Call (.Name "range" p) [a] [] pos) (iRng1 ta) := by
  intro pins s σ H R I h
  refine Call_ (ld_blt I hg hm boot_range (PyProof.Rows.callWith_type1 (thn (ha pos pins s σ H _ I h) fun us s1 ⟨vs, H1, I1, r1, q1⟩ => ?_) hs rfl))
  obtain ⟨j, e, q1, q2, q⟩ := q1
  subst e
  cases r1 with
  | cons r rr =>
    cases rr
    obtain ⟨t, rfl⟩ := r
    exact call_range_1 (range_it I1 (by omega) (by omega) q1 q2 (by simpa using q))
theorem pi_range2 {a b : Expr} {ta : TA} {p pos : Pos} (hg : Gl X "range") (hm : X.mg "range" = none) (ha : PA X [a, b] ta) (hs : starEach [a, b] X.env = [(false, eval a X.env), (false, eval b X.env)] := by rfl) (hs2 : starEach [b] X.env = [(false, eval b X.env)] := by rfl) :
    PI X tg (.Call (.Name "range" p) [a, b] [] pos) (iRng2 ta) := by
  intro pins s σ H R I h
  refine Call_ (ld_blt I hg hm boot_range (PyProof.Rows.callWith_type1 (thn (ha pos pins s σ H _ I h) fun us s1 ⟨vs, H1, I1, r1, q1⟩ => ?_) (by rw [hs, hs2]) (by rw [hs2]; rfl)))
  obtain ⟨i, j, e, ⟨q1, q2, q3, q4⟩, q⟩ := q1
  subst e
  cases r1 with
  | cons r rr =>
    cases rr with
    | cons r' rr =>
      cases rr
      obtain ⟨t, rfl⟩ := r
      obtain ⟨t', rfl⟩ := r'
      exact call_range_2 (range_it I1 q1 q2 q3 q4 q)

/-! ### for -/
def tFor (wi : TI) (g : TG) (tb : TS) : TS := fun D σ H => wi σ H fun J H1 => ∃ W : Nat → Nat → St → Hp → Prop, (∃ m, W 0 m σ H1) ∧ ∀ i m σ H, W i m σ H →
  (J.stop i H ∧ D.nx σ H) ∨ (J.go i H ∧ ∃ N : St → Hp → Prop, (∀ σ' H', N σ' H' → ∃ m', m' < m ∧ W (i + 1) m' σ' H') ∧ ∀ x H', J.yld i H x H' → g x σ H' fun σ2 H2 => tb { D with nx := N, ct := N, bk := D.nx } σ2 H2)
def pinsAt (fp : List Addr) (h : Heap) : List (Addr × Obj) := fp.filterMap fun b => (h.get? b).map fun o => (b, o)
theorem mem_pinsAt {fp : List Addr} {h : Heap} {b : Addr} {o : Obj} (hb : b ∈ fp) (e : h.get? b = some o) : (b, o) ∈ pinsAt fp h := List.mem_filterMap.mpr ⟨b, hb, by rw [e]; rfl⟩
theorem of_pinsAt {fp : List Addr} {h : Heap} {p : Addr × Obj} (hp : p ∈ pinsAt fp h) : p.1 ∈ fp ∧ h.get? p.1 = some p.2 := by
  obtain ⟨b, hb, e⟩ := List.mem_filterMap.mp hp
  cases q : h.get? b with
  | none => rw [q] at e; cases e
  | some o =>
    rw [q] at e
    have e' : (b, o) = p := Option.some.inj e
    subst e'
    exact ⟨hb, q⟩
theorem Inv.pinned {pins : List (Addr × Obj)} {σ : St} {H : Hp} {s : Shared} {fp : List Addr} (I : Inv X pins σ H s) (hf : ∀ b ∈ fp, FpOk X pins H b) (ho : ∀ b ∈ fp, ∃ o, s.heap.get? b = some o ∧ ∀ v, o.data ≠ .cell v) : Inv X (pins ++ pinsAt fp s.heap) σ H s :=
  I.pins_of fun p hp => (List.mem_append.mp hp).elim (fun z => I.pin p (List.mem_append_right _ z)) fun z => by
    obtain ⟨hb, e⟩ := of_pinsAt z
    obtain ⟨f0, f1, f2, _⟩ := hf p.1 hb
    obtain ⟨o, e', d⟩ := ho p.1 hb
    rw [e] at e'; cases e'
    exact ⟨e, f0, f1, f2, d⟩
theorem Inv.unpinned {pins pl : List (Addr × Obj)} {σ : St} {H : Hp} {s : Shared} (I : Inv X (pins ++ pl) σ H s) : Inv X pins σ H s := I.pins_of fun p hp => I.pin p (List.mem_append_right _ (List.mem_append_left _ hp))
theorem ps_for {iter : Expr} {body : List Stmt} {wi : TI} {g : TG} {tb : TS} {pos : Pos} (hp : PassesOwn (model X.prog X.w) X.A X.env X.xe) (hc : X.calm = true) (hi : PI X tg iter wi) (hg : PG X tg g) (hb : PSs X body tb)
    (hs : ∀ x, foldedSetIterable iter X.env x = pure x := by intro _; rfl) : PS X (.For tg iter body [] pos) (tFor wi g tb) := by
  intro pins s σ H D I h
  refine wpAny_For (thn (hi pins s σ H _ I h) fun v s1 h1 => thn h1 fun itv s2 h2 => ?_) hs
  obtain ⟨it, fp, tn, J, H2, e, I2, T, st2, f2, W, ⟨m0, w0⟩, turn⟩ := h2
  subst e
  -- what stays true of the iterator's objects through the loop
  have stat : ∀ {H' : Hp}, (∀ b ∈ fp, H' b = none) → ∀ b ∈ fp, FpOk X pins H' b := fun hn b hb => ⟨hn b hb, (f2 b hb).2⟩
  refine codeAny_forLoop_any (fun n s' => ∃ i σ' H', Inv X pins σ' H' s' ∧ tn i s'.heap ∧ (∀ b ∈ fp, H' b = none) ∧ W i n σ' H') ?_ m0 ⟨0, σ, H2, I2, st2, fun b hb => (f2 b hb).1, w0⟩
  rintro n s3 ⟨i, σ3, H3, I3, st3, fr3, w3⟩
  rcases turn i n σ3 H3 w3 with ⟨stop, qn⟩ | ⟨go, N, hN, step⟩
  · refine wpAny_passesOwn hp (thn (T.done X rfl rfl rfl hc i pins s3 σ3 H3 X.xe I3 (stat fr3) st3 stop) fun r s4 ⟨hr, I4⟩ => ?_)
    subst hr
    exact wpAny_execs_nil ⟨σ3, H3, I4, qn⟩
  · refine wpAny_passesOwn hp (thn (T.item X rfl rfl rfl hc i pins s3 σ3 H3 X.xe I3 (stat fr3) st3 go) fun r s4 ⟨u, hr, h4⟩ => ?_)
    subst hr
    refine wpAny_passesOwn hp (thn h4 fun _ s5 ⟨x, H5, I5, r5, y5, st5, fr5⟩ => ?_)
    have I5' := I5.pinned (stat fr5) (T.obj _ _ st5)
    refine wpAny_passesOwn hp (thn (hg _ s5 σ3 H5 x u _ I5' r5 (step x H5 y5)) fun _ s6 ⟨σ6, H6, I6, q6⟩ => ?_)
    refine wpAny_passesOwn hp (thn (hb _ s6 σ6 H6 _ I6 q6) fun f s7 q7 => ?_)
    have again : ∀ {σ7 : St} {H7 : Hp}, Inv X (pins ++ pinsAt fp s5.heap) σ7 H7 s7 → N σ7 H7 → ∃ m, m < n ∧ ∃ i σ' H', Inv X pins σ' H' s7 ∧ tn i s7.heap ∧ (∀ b ∈ fp, H' b = none) ∧ W i m σ' H' := fun {σ7 H7} I7 n7 => by
      obtain ⟨m', hm, w7⟩ := hN σ7 H7 n7
      refine ⟨m', hm, i + 1, σ7, H7, I7.unpinned, T.keep _ _ _ st5 fun b hb o e => (I7.pin (b, o) (List.mem_append_right _ (List.mem_append_right _ (mem_pinsAt hb e)))).1, fun b hb => ?_, w7⟩
      obtain ⟨o, e, d⟩ := T.obj _ _ st5 b hb
      exact (I7.pin (b, o) (List.mem_append_right _ (List.mem_append_right _ (mem_pinsAt hb e)))).2.1
    cases f with
    | next => obtain ⟨σ7, H7, I7, n7⟩ := q7; exact again I7 n7
    | cont => obtain ⟨σ7, H7, I7, n7⟩ := q7; exact again I7 n7
    | brk => obtain ⟨σ7, H7, I7, q7⟩ := q7; exact ⟨σ7, H7, I7.unpinned, q7⟩
    | ret v => obtain ⟨x7, σ7, H7, I7, r7, q7⟩ := q7; exact ⟨x7, σ7, H7, I7.unpinned, r7, q7⟩
end

/-! ### the forms one uses -/
theorem for_list {K : PySem.W.Frag} {a : Addr} {xs : List V} {g : TG} {tb : TS} {D : Ends} {σ : St} {H : Hp} (Pv : Nat → St → Hp → Prop) (h0 : Pv 0 σ H) (hl : ∀ i σ H, i ≤ xs.length → Pv i σ H → SqL K H a xs)
    (hs : ∀ i x σ H, xs[i]? = some x → Pv i σ H → g x σ H fun σ2 H2 => tb { D with nx := Pv (i + 1), ct := Pv (i + 1), bk := D.nx } σ2 H2) (hd : ∀ σ H, Pv xs.length σ H → D.nx σ H) :
    ∃ W : Nat → Nat → St → Hp → Prop, (∃ m, W 0 m σ H) ∧ ∀ i m σ H, W i m σ H →
      ((Itl K a).stop i H ∧ D.nx σ H) ∨ ((Itl K a).go i H ∧ ∃ N : St → Hp → Prop, (∀ σ' H', N σ' H' → ∃ m', m' < m ∧ W (i + 1) m' σ' H') ∧ ∀ x H', (Itl K a).yld i H x H' → g x σ H' fun σ2 H2 => tb { D with nx := N, ct := N, bk := D.nx } σ2 H2) := by
  refine ⟨fun i m σ H => m = xs.length - i ∧ i ≤ xs.length ∧ Pv i σ H, ⟨xs.length, by simp, Nat.zero_le _, h0⟩, ?_⟩
  rintro i m σ H ⟨rfl, hi, p⟩
  have q := hl i σ H hi p
  by_cases hlt : i < xs.length
  · refine .inr ⟨⟨xs, xs[i], q, by simp [hlt]⟩, Pv (i + 1), fun σ' H' p' => ⟨xs.length - (i + 1), by omega, rfl, hlt, p'⟩, fun x H' y => ?_⟩
    obtain ⟨e, y⟩ := y
    subst e
    exact hs i x σ _ (y xs q) p
  · have e : i = xs.length := by omega
    subst e
    exact .inl ⟨⟨xs, q, Nat.le_refl _⟩, hd σ H p⟩
end L2

namespace L2
open PySem PySem.Spec PyProof.Rows

abbrev R2 := V → V → Hp → VK → Prop
def OpR (X : Cx) (f : Value → Value → Sem Value) (r : R2) : Prop :=
  ∀ (pins : List (Addr × Obj)) (s : Shared) (σ : St) (H : Hp) (x y : V) (v u : Value) (Q : VK), Inv X pins σ H s → RelV x v → RelV y u → r x y H Q →
    wpAny (model X.prog X.w) X.A (f v u) (EP X pins σ Q) X.xe s
def UnR (X : Cx) (f : Value → Sem Value) (r : V → Hp → VK → Prop) : Prop :=
  ∀ (pins : List (Addr × Obj)) (s : Shared) (σ : St) (H : Hp) (x : V) (v : Value) (Q : VK), Inv X pins σ H s → RelV x v → r x H Q →
    wpAny (model X.prog X.w) X.A (f v) (EP X pins σ Q) X.xe s
def CallR (X : Cx) (f : Value) (r : List V → Hp → VK → Prop) : Prop :=
  ∀ (pins : List (Addr × Obj)) (s : Shared) (σ : St) (H : Hp) (xs : List V) (us : List Value) (Q : VK), Inv X pins σ H s → Vals xs us → r xs H Q →
    wpAny (model X.prog X.w) X.A (call f us) (EP X pins σ Q) X.xe s
def TruR (X : Cx) (r : V → Hp → (Bool → Hp → Prop) → Prop) : Prop :=
  ∀ (pins : List (Addr × Obj)) (s : Shared) (σ : St) (H : Hp) (x : V) (v : Value) (Q : Bool → Hp → Prop), Inv X pins σ H s → RelV x v → r x H Q →
    wpAny (model X.prog X.w) X.A (truthy v) (TP X pins σ Q) X.xe s

def tOp (r : R2) (ta tb : TE) : TE := fun σ H Q => ta σ H fun x H1 => tb σ H1 fun y H2 => r x y H2 Q
def tUn (r : V → Hp → VK → Prop) (ta : TE) : TE := fun σ H Q => ta σ H fun x H1 => r x H1 Q
def rI (C : Int → Int → Prop) (g : Int → Int → V) : R2 := fun x y H Q => ∃ i j, x = .int i ∧ y = .int j ∧ C i j ∧ Q (g i j) H
def rI0 (g : Int → Int → V) : R2 := fun x y H Q => ∃ i j, x = .int i ∧ y = .int j ∧ Q (g i j) H
def rU (g : Int → V) : V → Hp → VK → Prop := fun x H Q => ∃ i, x = .int i ∧ Q (g i) H

section
variable {X : Cx} {a b c : Expr} {ta tb tc : TE} {pos : Pos}

theorem binT (ha : PE X a ta) (hb : PE X b tb) {pins : List (Addr × Obj)} {s : Shared} {σ : St} {H : Hp} {R : V → V → Hp → Prop} (I : Inv X pins σ H s)
    (h : ta σ H fun x H1 => tb σ H1 fun y H2 => R x y H2) {Q : Value → Shared → Prop} {f : Value → Value → Sem Value}
    (hf : ∀ v u s2 x y H2, Inv X pins σ H2 s2 → RelV x v → RelV y u → R x y H2 → wpAny (model X.prog X.w) X.A (f v u) Q X.xe s2) :
    wpAny (model X.prog X.w) X.A (eval a X.env) (fun v s₁ => wpAny (model X.prog X.w) X.A (eval b X.env) (fun u s₂ => wpAny (model X.prog X.w) X.A (f v u) Q X.xe s₂) X.xe s₁) X.xe s := by
  refine thn (ha pins s σ H _ I h) fun v s1 ⟨x, H1, I1, r1, q1⟩ => ?_
  refine thn (hb pins s1 σ H1 _ I1 q1) fun u s2 ⟨y, H2, I2, r2, q2⟩ => ?_
  exact hf v u s2 x y H2 I2 r1 r2 q2

theorem pe_op {op : Operator} {r : R2} (ho : OpR X (binaryOp op) r) (ha : PE X a ta) (hb : PE X b tb) : PE X (.BinOp a op b pos) (tOp r ta tb) := by
  intro pins s σ H Q I h
  exact wpAny_BinOp (binT ha hb I h fun v u s2 x y H2 I2 rx ry q => ho pins s2 σ H2 x y v u Q I2 rx ry q)
theorem pe_un {op : UnaryOp} {r : V → Hp → VK → Prop} (ho : UnR X (unaryOp op) r) (ha : PE X a ta) : PE X (.UnaryOp op a pos) (tUn r ta) := by
  intro pins s σ H Q I h
  exact UnaryOp_ (thn (ha pins s σ H _ I h) fun v s1 ⟨x, H1, I1, r1, q1⟩ => ho pins s1 σ H1 x v Q I1 r1 q1)
/-! ### ints -/
theorem opI {f : Value → Value → Sem Value} {C : Int → Int → Prop} {g : Int → Int → Int}
    (rule : ∀ (i j : Int) (t u : Tok) (s : Shared) (Q : Value → Shared → Prop) (E : Value → Shared → Prop), C i j → Q (.int (g i j) s.toks) { s with toks := s.toks + 1 } → wpAny (model X.prog X.w) X.A (f (.int i t) (.int j u)) Q E s) :
    OpR X f (rI C fun i j => .int (g i j)) := by
  intro pins s σ H x y v u Q I rx ry h
  obtain ⟨i, j, rfl, rfl, hc, q⟩ := h
  obtain ⟨t, rfl⟩ := rx
  obtain ⟨t', rfl⟩ := ry
  exact rule i j t t' s _ _ hc ⟨.int (g i j), H, I.tok _, ⟨_, rfl⟩, q⟩
theorem opI0 {f : Value → Value → Sem Value} {g : Int → Int → Int}
    (rule : ∀ (i j : Int) (t u : Tok) (s : Shared) (Q : Value → Shared → Prop) (E : Value → Shared → Prop), Q (.int (g i j) s.toks) { s with toks := s.toks + 1 } → wpAny (model X.prog X.w) X.A (f (.int i t) (.int j u)) Q E s) :
    OpR X f (rI0 fun i j => .int (g i j)) := by
  intro pins s σ H x y v u Q I rx ry h
  obtain ⟨i, j, rfl, rfl, q⟩ := h
  obtain ⟨t, rfl⟩ := rx
  obtain ⟨t', rfl⟩ := ry
  exact rule i j t t' s _ _ ⟨.int (g i j), H, I.tok _, ⟨_, rfl⟩, q⟩
theorem opB0 {f : Value → Value → Sem Value} {g : Int → Int → Bool}
    (rule : ∀ (i j : Int) (t u : Tok) (s : Shared) (Q : Value → Shared → Prop) (E : Value → Shared → Prop), Q (.bool (g i j)) s → wpAny (model X.prog X.w) X.A (f (.int i t) (.int j u)) Q E s) :
    OpR X f (rI0 fun i j => .bl (g i j)) := by
  intro pins s σ H x y v u Q I rx ry h
  obtain ⟨i, j, rfl, rfl, q⟩ := h
  obtain ⟨t, rfl⟩ := rx
  obtain ⟨t', rfl⟩ := ry
  exact rule i j t t' s _ _ ⟨.bl (g i j), H, I, rfl, q⟩

def CDiv (i j : Int) : Prop := 0 < j ∧ j < 1073741824
def CPow (i j : Int) : Prop := 0 ≤ j ∧ j ≤ 1000000 ∧ i.natAbs < 2 ^ 64
def CMul (i j : Int) : Prop := (-(2 ^ 64) < i ∧ i < 2 ^ 64) ∨ (-(2 ^ 64) < j ∧ j < 2 ^ 64)
theorem CMul.ok {i j : Int} (h : CMul i j) : IntMulOk i j := by
  rcases h with ⟨h1, h2⟩ | ⟨h1, h2⟩
  · exact .of_left (intBits_le_64 h1 h2)
  · exact .of_right (intBits_le_64 h1 h2)
theorem two_pow_nn (k : Nat) : (0 : Int) ≤ 2 ^ k := by
  rw [two_pow_cast]
  exact Int.natCast_nonneg _

theorem op_add : OpR X (binaryOp .Add) (rI0 fun i j => .int (i + j)) := opI0 fun _ _ _ _ _ _ _ q => add_int q
theorem op_sub : OpR X (binaryOp .Sub) (rI0 fun i j => .int (i - j)) := opI0 fun _ _ _ _ _ _ _ q => sub_int q
theorem op_mul : OpR X (binaryOp .Mult) (rI CMul fun i j => .int (i * j)) := opI fun _ _ _ _ _ _ _ hc q => mul_int q hc.ok
theorem op_fdiv : OpR X (binaryOp .FloorDiv) (rI CDiv fun i j => .int (i / j)) := opI fun i j _ _ _ _ _ hc q => by
  have h1 : (0 : Int) < j := hc.1
  have h2 : j < 1073741824 := hc.2
  exact floordiv_int (by omega) (by rw [Int.fdiv_eq_ediv_of_nonneg i (by omega)]; exact q) (.inl (PyProof.noPylong_small (by omega)))
theorem op_mod : OpR X (binaryOp .Mod) (rI (fun _ j => 0 < j) fun i j => .int (i % j)) := opI fun i j _ _ _ _ _ hc q => by
  have h1 : (0 : Int) < j := hc
  exact mod_int' (by omega) (by rw [Int.fmod_eq_emod_of_nonneg i (by omega)]; exact q)
theorem op_pow : OpR X (binaryOp .Pow) (rI CPow fun i j => .int (i ^ j.toNat)) := opI fun _ _ _ _ _ _ _ hc q => pow_int_small hc.1 hc.2.1 hc.2.2 q
theorem op_shr : OpR X (binaryOp .RShift) (rI (fun _ j => 0 ≤ j) fun i j => .int (i / 2 ^ j.toNat)) := opI fun i j _ _ _ _ _ hc q =>
  rshift_int hc (by rw [Int.fdiv_eq_ediv_of_nonneg i (two_pow_nn _)]; exact q)
theorem unI {f : Value → Sem Value} {g : Int → Int}
    (rule : ∀ (i : Int) (t : Tok) (s : Shared) (Q : Value → Shared → Prop) (E : Value → Shared → Prop), Q (.int (g i) s.toks) { s with toks := s.toks + 1 } → wpAny (model X.prog X.w) X.A (f (.int i t)) Q E s) :
    UnR X f (rU fun i => .int (g i)) := by
  intro pins s σ H x v Q I rx h
  obtain ⟨i, rfl, q⟩ := h
  obtain ⟨t, rfl⟩ := rx
  exact rule i t s _ _ ⟨.int (g i), H, I.tok _, ⟨_, rfl⟩, q⟩
theorem un_neg : UnR X (unaryOp .USub) (rU fun i => .int (-i)) := unI fun _ _ _ _ _ q => neg_int q
/-! ### bools among ints: n += (a < b) -/
end

/-! ### comparisons -/
def scal : V → V → Bool
  | .non, .non => true | .non, .int _ => true | .int _, .non => true | .non, .bl _ => true | .bl _, .non => true | .non, .str _ => true | .str _, .non => true
  | .int _, .int _ => true | .bl _, .bl _ => true | .str _, .str _ => true | .byt _, .byt _ => true
  | .int _, .str _ => true | .str _, .int _ => true | .bl _, .str _ => true | .str _, .bl _ => true
  | _, _ => false
def rEq : R2 := fun x y H Q => scal x y = true ∧ Q (.bl (decide (x = y))) H
def rNe : R2 := fun x y H Q => scal x y = true ∧ Q (.bl (!decide (x = y))) H

theorem dec_int {i j : Int} : decide (V.int i = V.int j) = (i == j) := by
  rw [Bool.eq_iff_iff]
  simp
theorem dec_bl {i j : Bool} : decide (V.bl i = V.bl j) = (i == j) := by
  rw [Bool.eq_iff_iff]
  simp
theorem dec_str {i j : Str} : decide (V.str i = V.str j) = (i == j) := by
  rw [Bool.eq_iff_iff]
  simp
theorem dec_byt {i j : Array UInt8} : decide (V.byt i = V.byt j) = (i.toList == j.toList) := by
  rw [Bool.eq_iff_iff]
  cases i
  cases j
  simp

section
variable {X : Cx} {a b c : Expr} {ta tb tc : TE} {pos : Pos}
theorem fin_bl {pins : List (Addr × Obj)} {σ : St} {H : Hp} {s : Shared} {Q : VK} {k k' : Bool} (I : Inv X pins σ H s) (q : Q (.bl k) H) (e : k = k') : EP X pins σ Q (.bool k') s := by
  subst e
  exact ⟨.bl k, H, I, rfl, q⟩
theorem op_eq : OpR X (compareOp .Eq) rEq := by
  intro pins s σ H x y v u Q I rx ry h
  obtain ⟨hs, q⟩ := h
  cases x with
  | non =>
    cases rx
    cases y with
    | non => cases ry; exact PySem.EqNone.eq_none_none (fin_bl I q (by simp))
    | bl j => cases ry; exact PySem.EqNone.eq_none_bool (fin_bl I q (by simp))
    | int j => obtain ⟨t', rfl⟩ := ry; exact PySem.EqNone.eq_none_int (fin_bl I q (by simp))
    | str j => obtain ⟨t', rfl⟩ := ry; exact PySem.EqNone.eq_none_str (fin_bl I q (by simp))
    | _ => exact absurd (show false = true from hs) Bool.false_ne_true
  | bl i =>
    cases rx
    cases y with
    | non => cases ry; exact PySem.EqNone.eq_bool_none (fin_bl I q (by simp))
    | bl j => cases ry; exact eq_bool (fin_bl I q dec_bl)
    | str j => obtain ⟨t', rfl⟩ := ry; exact PySem.EqMixed.eq_bool_str (fin_bl I q (by simp))
    | _ => exact absurd (show false = true from hs) Bool.false_ne_true
  | int i =>
    obtain ⟨t, rfl⟩ := rx
    cases y with
    | non => cases ry; exact PySem.EqNone.eq_int_none (fin_bl I q (by simp))
    | int j => obtain ⟨t', rfl⟩ := ry; exact eq_int (fin_bl I q dec_int)
    | str j => obtain ⟨t', rfl⟩ := ry; exact PySem.EqMixed.eq_int_str (fin_bl I q (by simp))
    | _ => exact absurd (show false = true from hs) Bool.false_ne_true
  | str i =>
    obtain ⟨t, rfl⟩ := rx
    cases y with
    | non => cases ry; exact PySem.EqNone.eq_str_none (fin_bl I q (by simp))
    | bl j => cases ry; exact PySem.EqMixed.eq_str_bool (fin_bl I q (by simp))
    | int j => obtain ⟨t', rfl⟩ := ry; exact PySem.EqMixed.eq_str_int (fin_bl I q (by simp))
    | str j => obtain ⟨t', rfl⟩ := ry; exact eq_str (fin_bl I q dec_str)
    | _ => exact absurd (show false = true from hs) Bool.false_ne_true
  | byt i =>
    obtain ⟨t, rfl⟩ := rx
    cases y with
    | byt j => obtain ⟨t', rfl⟩ := ry; exact PySem.W.eq_bytes (fin_bl I q dec_byt)
    | _ => exact absurd (show false = true from hs) Bool.false_ne_true
  | _ => cases y <;> exact absurd (show false = true from hs) Bool.false_ne_true
theorem op_lt : OpR X (compareOp .Lt) (rI0 fun i j => .bl (decide (i < j))) := opB0 fun _ _ _ _ _ _ _ q => lt_int q
theorem op_le : OpR X (compareOp .LtE) (rI0 fun i j => .bl (decide (i ≤ j))) := opB0 fun _ _ _ _ _ _ _ q => le_int q
theorem op_gt : OpR X (compareOp .Gt) (rI0 fun i j => .bl (decide (j < i))) := opB0 fun _ _ _ _ _ _ _ q => gt_int q
theorem op_ge : OpR X (compareOp .GtE) (rI0 fun i j => .bl (decide (j ≤ i))) := opB0 fun _ _ _ _ _ _ _ q => ge_int q
theorem nomark (b : Expr) {op : CmpOp} (h : op ≠ .In := by decide) (h2 : op ≠ .NotIn := by decide) : behindInMarks op b = false := by
  have e1 : (op == CmpOp.In) = false := by cases op <;> first | rfl | exact absurd rfl h
  have e2 : (op == CmpOp.NotIn) = false := by cases op <;> first | rfl | exact absurd rfl h2
  cases b <;> simp [behindInMarks, e1, e2]
theorem pe_cmpR {op : CmpOp} {r : R2} (ho : OpR X (compareOp op) r) (ha : PE X a ta) (hb : PE X b tb) (hm : behindInMarks op b = false) : PE X (.Compare a [op] [b] pos) (tOp r ta tb) := by
  intro pins s σ H Q I h
  exact wpAny_Compare1 (binT ha hb I h fun v u s2 x y H2 I2 rx ry q => ho pins s2 σ H2 x y v u Q I2 rx ry q) hm
def tTest (t : TE) : TT := fun σ H Q => t σ H fun x H' => ∃ k, x = .bl k ∧ Q k H'
theorem pt_cmpR {op : CmpOp} {r : R2} (ho : OpR X (compareOp op) r) (ha : PE X a ta) (hb : PE X b tb) (hm : behindInMarks op b = false) : PT X (.Compare a [op] [b] pos) (tTest (tOp r ta tb)) := by
  intro pins s σ H Q I h
  refine wpAny_isTrue_Compare1 (thn (ha pins s σ H _ I h) fun v s1 ⟨x, H1, I1, r1, q1⟩ => thn (hb pins s1 σ H1 _ I1 q1) fun u s2 ⟨y, H2, I2, r2, q2⟩ =>
    thn (ho pins s2 σ H2 x y v u _ I2 r1 r2 q2) fun c s3 ⟨z, H3, I3, r3, k, e, q3⟩ => ?_) hm
  subst e
  cases r3
  exact wpAny_truthy_bool ⟨H3, I3, q3⟩
def tChain (r r' : R2) (ta tb tc : TE) : TE := fun σ H Q => ta σ H fun x H1 => tb σ H1 fun y H2 => r x y H2 fun z H3 => ∃ k, z = .bl k ∧
  (if k = true then tc σ H3 fun w' H4 => r' y w' H4 Q else Q (.bl false) H3)
/-! ### truth -/
def TruV (K : PySem.W.Frag) (x : V) (H : Hp) (k : Bool) : Prop :=
  match x with
  | .non => k = false
  | .bl b => k = b
  | .int i => k = (i != 0)
  | .str y => y.length ≤ sizeLine ∧ k = ((y.length : Int) != 0)
  | .byt y => y.size ≤ sizeLine ∧ k = ((y.size : Int) != 0)
  | .ref p => (∃ xs, SqL K H p xs ∧ k = !xs.isEmpty) ∨ (∃ xs, SqT K H p xs ∧ k = !xs.isEmpty) ∨ ∃ kvs, H p = some (.dK kvs) ∧ k = !kvs.isEmpty
  | _ => False
theorem isEmpty_kv {κ : Type} {kvs : List (κ × V)} {vs : List (κ × Value)} (r : KV kvs vs) : (!vs.isEmpty) = !kvs.isEmpty := by
  cases r <;> rfl
theorem isEmpty_of {xs : List V} {its : List Value} (r : Vals xs its) : (!its.toArray.isEmpty) = !xs.isEmpty := by
  cases r <;> simp
theorem line63 : (sizeLine : Nat) < 2 ^ 63 := by rw [sizeLine_eq]; decide
theorem tru_ok : TruR X (fun x H Q => ∃ k, TruV X.K x H k ∧ Q k H) := by
  intro pins s σ H x v Q I rx h
  obtain ⟨k, e, q⟩ := h
  have hl := line63
  have hs : sizeLine = 16777216 := sizeLine_eq
  cases x with
  | non =>
    cases rx
    have e' : k = false := e
    subst e'
    exact truthy_none ⟨H, I, q⟩
  | bl b =>
    cases rx
    have e' : k = b := e
    subst e'
    exact wpAny_truthy_bool ⟨H, I, q⟩
  | int i =>
    obtain ⟨t, rfl⟩ := rx
    have e' : k = (i != 0) := e
    subst e'
    exact PySem.P.truthy_int ⟨H, I, q⟩
  | str y =>
    obtain ⟨t, rfl⟩ := rx
    obtain ⟨hy, e'⟩ : y.length ≤ sizeLine ∧ k = ((y.length : Int) != 0) := e
    subst e'
    exact PySem.P.truthy_str (by omega) ⟨H, I.tok _, q⟩
  | byt y =>
    obtain ⟨t, rfl⟩ := rx
    obtain ⟨hy, e'⟩ : y.size ≤ sizeLine ∧ k = ((y.size : Int) != 0) := e
    subst e'
    exact PySem.W.truthy_bytes (by omega) ⟨H, I.tok _, q⟩
  | ref p =>
    cases rx
    have e' : (∃ xs, SqL X.K H p xs ∧ k = !xs.isEmpty) ∨ (∃ xs, SqT X.K H p xs ∧ k = !xs.isEmpty) ∨ ∃ kvs, H p = some (.dK kvs) ∧ k = !kvs.isEmpty := e
    rcases e' with ⟨xs, hx, e'⟩ | ⟨xs, hx, e'⟩ | ⟨kvs, hx, e'⟩
    · subst e'
      obtain ⟨its, r, pl, hz⟩ := I.list hx
      have hlen := r.length
      exact wpAny_truthy_list pl.isList (by simp only [List.size_toArray]; omega) ⟨H, I.tok _, by rw [isEmpty_of r]; exact q⟩
    · subst e'
      obtain ⟨its, r, pl, hz⟩ := I.tuple hx
      have hlen := r.length
      exact truthy_tuple pl (by simp only [List.size_toArray]; omega) ⟨H, I.tok _, by rw [isEmpty_of r]; exact q⟩
    · subst e'
      obtain ⟨hz, hS, vs, r, m⟩ : kvs.length ≤ sizeLine ∧ (p == sysModules) = false ∧ ∃ vs, KV kvs vs ∧ s.heap.DictOf (mixKind X.prog X.w) p vs := I.hok p _ hx
      have hlen : kvs.length = vs.length := Paired.length r
      exact wpAny_truthy_dict hS m (by omega) ⟨H, I.tok _, by rw [isEmpty_kv r]; exact q⟩
  | _ => exact (show False from e).elim
theorem pt_truth (ha : PE X a ta) (he : ∀ whole, isTrue a X.env whole = (do let v ← whole; standAt a.pos; holding [v] (truthy v))) :
    PT X a (fun σ H Q => ta σ H fun x H' => ∃ k, TruV X.K x H' k ∧ Q k H') := by
  intro pins s σ H Q I h
  exact isTrue_plain (thn (ha pins s σ H _ I h) fun v s1 ⟨x, H1, I1, r1, q1⟩ => tru_ok pins s1 σ H1 x v Q I1 r1 q1) (he _)

/-! ### strs and bytes -/
/-! ### scalar builtins, by CallR -/
theorem vals1 {x : V} {us : List Value} (r : Vals [x] us) : ∃ u, us = [u] ∧ RelV x u := by
  cases r with
  | cons r1 r2 => cases r2; exact ⟨_, rfl, r1⟩
theorem vals2 {x y : V} {us : List Value} (r : Vals [x, y] us) : ∃ u w', us = [u, w'] ∧ RelV x u ∧ RelV y w' := by
  cases r with
  | cons r1 r2 =>
    cases r2 with
    | cons r3 r4 => cases r4; exact ⟨_, _, rfl, r1, r3⟩
theorem call_min2 (hc : X.calm = true) : CallR X (.builtin "min") (fun xs H Q => ∃ i j, xs = [.int i, .int j] ∧ Q (.int (if j < i then j else i)) H) := by
  intro pins s σ H xs us Q I r h
  obtain ⟨i, j, rfl, q⟩ := h
  obtain ⟨u, w', rfl, ⟨t, rfl⟩, ⟨t', rfl⟩⟩ := vals2 r
  refine min_two_ints (I.ok.hd hc) fun h' tk k => ⟨_, H, I.kept k, ?_, q⟩
  by_cases hj : j < i
  · rw [if_pos hj, if_pos hj]; exact ⟨_, rfl⟩
  · rw [if_neg hj, if_neg hj]; exact ⟨_, rfl⟩
end
end L2

namespace L2
open PySem PySem.Spec PyProof.Rows

/-! ### an instance, its attributes a map -/
structure ObjM (h : Heap) (x dx C : Addr) (mA : Str → Option Value) : Prop where
  obj : h.get? x = some (PySem.W.instObj C dx)
  ns : h.Ns1 dx mA
  ne : dx ≠ x

theorem lookIn_ns {h : Heap} {dx : Addr} {mA : Str → Option Value} (n : h.Ns1 dx mA) : ∃ od, h.get? dx = some od ∧ ∀ name, PySem.W.lookIn name od = some (mA name) := by
  obtain ⟨o, es, ep, ho, hd, hk, _, hm⟩ := n
  refine ⟨o, ho, fun name => ?_⟩
  have e := hm name
  unfold nsFind findBy at e
  rw [← Array.find?_toList] at e
  unfold PySem.W.lookIn
  rw [hd]
  dsimp only
  split
  · rename_i y q
    rw [q] at e
    exact congrArg some e
  · rename_i q
    rw [q] at e
    have a : es.toList.any (·.refKey) = false := by
      rw [List.any_eq_false]
      intro y hy
      obtain ⟨z, t, hkey⟩ := hk y (Array.mem_toList_iff.mp hy)
      simp [DictEntry.refKey, hkey]
    have a' : ¬ es.toList.any (·.refKey) = true := by rw [a]; exact Bool.false_ne_true
    rw [if_neg a']
    exact congrArg some e

theorem ObjM.look {h : Heap} {x dx C : Addr} {mA : Str → Option Value} (I : ObjM h x dx C mA) : ∃ od, PySem.W.InstAt h x (PySem.W.instObj C dx) C (some od) ∧ ∀ name, PySem.W.lookIn name od = some (mA name) :=
  let ⟨od, ho, hl⟩ := lookIn_ns I.ns
  ⟨od, ⟨I.obj, rfl, rfl, ho⟩, hl⟩

section
variable {prog : Program} {w : World} {A : Around} {E : Value → Shared → Prop} {s : Shared} {K : PySem.W.Frag} {x dx C f : Addr} {mA : Str → Option Value} {name : Str} {v : Value}

theorem get_map {expr : Bool} {Q : Value → Shared → Prop} (X : K.In s.heap) (I : ObjM s.heap x dx C mA) (hg : PySem.W.plainGet K C name = true) (hh : PySem.W.hasDictIn K C = true)
    (ha : PySem.W.findIn K (.ref C) name = some none) (hv : mA name = some v) (hv' : PySem.W.handedIn v = true) (h : Q v { s with toks := s.toks + 1 }) :
    wpAny (model prog w) A (getAttr (.ref x) name expr) Q E s := by
  obtain ⟨od, J, hl⟩ := I.look
  exact PySem.W.get_value X J (PySem.W.plainGet_of hg).1 (PySem.W.findObj_own hh ha rfl (by rw [hl, hv])) hv' h

theorem get_meth {pl : Sem Bool} {Q : Value × List Value → Shared → Prop} (X : K.In s.heap) (I : ObjM s.heap x dx C mA) (hg : PySem.W.plainGet K C name = true)
    (hf : PySem.W.findIn K (.ref C) name = some (some (.ref f))) (ht : PySem.W.isFn K (.ref f) = true) (hv : mA name = none) (h : Q (.ref f, [.ref x]) s) :
    wpAny (model prog w) A (getMethod (.ref x) name pl) Q E s := by
  obtain ⟨od, J, hl⟩ := I.look
  exact PySem.W.method_fn X J (PySem.W.plainGet_of hg).1 (PySem.W.plainGet_of hg).2 hf (beq_iff_eq.mp ht) (by show (PySem.W.lookIn name od).map (·.isSome) = some false; rw [hl, hv]; rfl) h

theorem set_map {ns : List Str} {Q : Unit → Shared → Prop} (X : K.In s.heap) (I : ObjM s.heap x dx C mA)
    (hs : PySem.W.findIn K (.ref C) "__setattr__" = some (some (.builtin "object.__setattr__"))) (hp : PySem.W.plainOver K C = true) (ht : PySem.W.takerIn K C name = some none) (hh : PySem.W.hasDictIn K C = true)
    (hw : PySem.Within mA ns) (hsz : ns.length ≤ sizeLine)
    (h : ∀ h', ObjM h' x dx C (fun y => if y = name then some v else mA y) → Heap.SameBut dx s.heap h' → Q () { s with heap := h', toks := s.toks + 2 }) :
    wpAny (model prog w) A (setAttr (.ref x) name v) Q E s := by
  obtain ⟨od, J, hl⟩ := I.look
  refine PySem.W.set_plain X J hs (PySem.W.osa_open (s := { s with toks := s.toks + 1 }) (r := none) X J hp ht fun b => ?_)
  obtain ⟨cd, hc, hd'⟩ := PySem.W.any_some hh
  have hx : s.heap.get? x = some ⟨.ref C, some dx, .plain, #[]⟩ := I.obj
  refine wpAny_bind (wpAny_pure (wpAny_bind (wpAny_bind (wpAny_loadPart hx (wpAny_bind (PySem.W.Looks.here (s := { s with toks := s.toks + 1 }) (PySem.W.looks_clsIn X hc) ?_))))))
  rw [hd']
  refine wpAny_pure (a := some dx) (wpAny_bind (wpAny_pure (wpAny_bind ?_)))
  refine wpAny_nsSet1 (s := { s with toks := s.toks + 1 }) I.ns fun h' hn2 hs2 => ?_
  obtain ⟨oD, esD, epD, hoD, hdD, hcD⟩ := hn2.count (PySem.Within.cons name v hw)
  refine wpAny_bind (wpAny_lookBehind hoD (by rw [hdD]; exact pastItsLine_dict (Nat.le_trans hcD (by rw [List.length_cons]; omega))) ?_)
  exact wpAny_pure (h _ ⟨(hs2.2 _ (Ne.symm I.ne)).trans I.obj, hn2, I.ne⟩ hs2)

theorem make_map {R : Result → Shared → Prop} {vs : List Value} {kw : List (Str × Value)} (X : K.In s.heap) (hm : PySem.W.makesIn K C = true)
    (hi : PySem.W.findIn K (.ref C) "__init__" = some (some (.ref f))) (hf : PySem.W.typeIn K (.ref f) = some (.type "function"))
    (h : codeAny (model prog w) (A.under (.builtin "type.__call__" ⟨.ref C :: vs, kw⟩)) (.call (.ref f) ⟨.ref (s.heap.objs.size + 1) :: vs, kw⟩) (PySem.W.InitBack (s.heap.objs.size + 1) R)
      { s with heap := (s.heap.push PySem.W.emptyDict).push (PySem.W.instObj C s.heap.objs.size) }) :
    codeAny (model prog w) A (.call (.ref C) ⟨vs, kw⟩) R s := by
  obtain ⟨hh, g, d, t, os⟩ := s
  exact PySem.W.make_core (PySem.W.makes_of X hm) (PySem.W.looks_findIn X hi) (fun self => PySem.W.bind_fn X self hf) (.inl rfl) h
end

/-! ### the attributes as a list of pairs -/
def putF (f : Str) (v : V) : List (Str × V) → List (Str × V)
  | [] => [(f, v)]
  | (g, x) :: r => if g = f then (g, v) :: r else (g, x) :: putF f v r
theorem lookup_putF (f g : Str) (v : V) : ∀ fs : List (Str × V), (putF f v fs).lookup g = if g = f then some v else fs.lookup g
  | [] => by
    show List.lookup g [(f, v)] = _
    by_cases h : g = f
    · have hb : (g == f) = true := beq_iff_eq.mpr h
      simp only [List.lookup, hb, if_pos h]
    · have hb : (g == f) = false := beq_eq_false_iff_ne.mpr h
      simp only [List.lookup, hb, if_neg h]
  | (k, x) :: r => by
    have ih := lookup_putF f g v r
    rw [show putF f v ((k, x) :: r) = (if k = f then (k, v) :: r else (k, x) :: putF f v r) from rfl]
    by_cases hk : k = f
    · rw [if_pos hk]
      by_cases h : g = k
      · have hb : (g == k) = true := beq_iff_eq.mpr h
        simp only [List.lookup, hb, if_pos (h.trans hk)]
      · have hb : (g == k) = false := beq_eq_false_iff_ne.mpr h
        simp only [List.lookup, hb, if_neg (fun e : g = f => h (e.trans hk.symm))]
    · rw [if_neg hk]
      by_cases h : g = k
      · have hb : (g == k) = true := beq_iff_eq.mpr h
        simp only [List.lookup, hb, if_neg (fun e : g = f => hk (h.symm.trans e))]
      · have hb : (g == k) = false := beq_eq_false_iff_ne.mpr h
        simp only [List.lookup, hb]
        exact ih
theorem keys_putF (f : Str) (v : V) : ∀ fs : List (Str × V), f ∈ (putF f v fs).map (·.1) ∧ ∀ g, g ∈ fs.map (·.1) → g ∈ (putF f v fs).map (·.1)
  | [] => ⟨by simp [putF], fun g h => by simp at h⟩
  | (k, x) :: r => by
    obtain ⟨i1, i2⟩ := keys_putF f v r
    rw [show putF f v ((k, x) :: r) = (if k = f then (k, v) :: r else (k, x) :: putF f v r) from rfl]
    by_cases hk : k = f
    · rw [if_pos hk]
      subst hk
      exact ⟨by simp, fun g h => by simpa using h⟩
    · rw [if_neg hk]
      refine ⟨?_, fun g h => ?_⟩
      · rw [List.map_cons]
        exact List.mem_cons_of_mem _ i1
      · rw [List.map_cons] at h ⊢
        rcases List.mem_cons.mp h with e | e
        · exact List.mem_cons.mpr (.inl e)
        · exact List.mem_cons_of_mem _ (i2 g e)
theorem length_putF (f : Str) (v : V) : ∀ fs : List (Str × V), (putF f v fs).length ≤ fs.length + 1
  | [] => by simp [putF]
  | (k, x) :: r => by
    have ih := length_putF f v r
    rw [show putF f v ((k, x) :: r) = (if k = f then (k, v) :: r else (k, x) :: putF f v r) from rfl]
    by_cases hk : k = f
    · rw [if_pos hk, List.length_cons, List.length_cons]; omega
    · rw [if_neg hk, List.length_cons, List.length_cons]; omega

theorem RelO.some_of {v : V} {o : Option Value} (r : RelO (some v) o) : ∃ u, o = some u ∧ RelV v u := by
  cases o with
  | none => exact (show False from r).elim
  | some u => exact ⟨u, rfl, r⟩
theorem RelO.none_of {o : Option Value} (r : RelO none o) : o = none := by
  cases o with
  | none => rfl
  | some u => exact (show False from r).elim
theorem handed_of {v : V} {u : Value} (r : RelV v u) : PySem.W.handedIn u = true := by
  cases v with
  | non => cases (show u = Value.none from r); rfl
  | bl b => cases (show u = Value.bool b from r); rfl
  | int i => obtain ⟨t, e⟩ := (show ∃ t, u = Value.int i t from r); cases e; rfl
  | str x => obtain ⟨t, e⟩ := (show ∃ t, u = Value.str x t from r); cases e; rfl
  | byt b => obtain ⟨t, e⟩ := (show ∃ t, u = Value.bytes b t from r); cases e; rfl
  | flt b => obtain ⟨t, e⟩ := (show ∃ t, u = Value.float b t from r); cases e; rfl
  | ref a => cases (show u = Value.ref a from r); rfl
  | ty n => cases (show u = Value.type n from r); rfl

section
variable {P : Program} {w : World} {H H' : Hp} {h h' : Heap} {a C dx : Addr} {fs fs' : List (Str × V)}
theorem ins_get (hok : HOk P w H h) (e : H a = some (.ins C dx fs)) : ∃ mA, ObjM h a dx C mA ∧ (∀ f, RelO (fs.lookup f) (mA f)) ∧ PySem.Within mA (fs.map (·.1)) ∧ fs.length ≤ 1000 ∧ H dx = some (.own a) := by
  obtain ⟨d, z, ne, ob, mA, n, r, q⟩ := (show ObjOk P w H h a (.ins C dx fs) from hok a _ e)
  exact ⟨mA, ⟨ob, n, ne⟩, r, q, z, d⟩
end

/-! ### what of the text a class must have -/
structure Cls (K : PySem.W.Frag) (C : Addr) : Prop where
  pg : PySem.W.plainGet K C Str.empty = true
  hd : PySem.W.hasDictIn K C = true
  po : PySem.W.plainOver K C = true
  sa : PySem.W.findIn K (.ref C) "__setattr__" = some (some (.builtin "object.__setattr__"))
theorem Cls.get {K : PySem.W.Frag} {C : Addr} (c : Cls K C) (f : Str) : PySem.W.plainGet K C f = true := c.pg
def NoAttr (K : PySem.W.Frag) (C : Addr) (f : Str) : Prop := PySem.W.findIn K (.ref C) f = some none
theorem NoAttr.taker {K : PySem.W.Frag} {C : Addr} {f : Str} (n : NoAttr K C f) : PySem.W.takerIn K C f = some none := by
  unfold PySem.W.takerIn
  rw [show PySem.W.findIn K (.ref C) f = some none from n]
  rfl
structure Con (K : PySem.W.Frag) (C : Addr) (f : Str) (v : V) (u : Value) : Prop where
  at_ : PySem.W.findIn K (.ref C) f = some (some u)
  rel : RelV v u
  get : PySem.W.specialIn K u "__get__" = some none
  cp : PySem.W.copiedNames.contains f = false
structure Meth (K : PySem.W.Frag) (C : Addr) (m : Str) (f : Addr) : Prop where
  at_ : PySem.W.findIn K (.ref C) m = some (some (.ref f))
  fn : PySem.W.isFn K (.ref f) = true
  kp : PySem.W.keepIn K (.ref f) = true

section
variable {X : Cx} {pins : List (Addr × Obj)} {σ : St} {H : Hp} {s : Shared} {a C dx : Addr} {fs : List (Str × V)} {f : Str} {v : V} {A : Around} {E : Value → Shared → Prop}

theorem getattr_ok {b : Bool} {Q : Value → Shared → Prop} (I : Inv X pins σ H s) (e : H a = some (.ins C dx fs)) (c : Cls X.K C) (n : NoAttr X.K C f) (l : fs.lookup f = some v)
    (h : ∀ u s', Inv X pins σ H s' → RelV v u → Q u s') : wpAny (model X.prog X.w) A (getAttr (.ref a) f b) Q E s := by
  obtain ⟨mA, O, r, _, _, _⟩ := ins_get I.hok e
  obtain ⟨u, hu, ru⟩ := RelO.some_of (v := v) (o := mA f) (by rw [← l]; exact r f)
  exact get_map I.kIn O (c.get f) c.hd n hu (handed_of ru) (h u _ (I.tok _) ru)

theorem getmeth_ok {m : Str} {g : Addr} {pl : Sem Bool} {Q : Value × List Value → Shared → Prop} (I : Inv X pins σ H s) (e : H a = some (.ins C dx fs)) (c : Cls X.K C) (k : Meth X.K C m g) (l : fs.lookup m = none)
    (h : Q (.ref g, [.ref a]) s) : wpAny (model X.prog X.w) A (getMethod (.ref a) m pl) Q E s := by
  obtain ⟨mA, O, r, _, _, _⟩ := ins_get I.hok e
  have hn : mA m = none := RelO.none_of (by rw [← l]; exact r m)
  exact get_meth I.kIn O (c.get m) k.at_ k.fn hn h

theorem setattr_ok {y : V} {u : Value} {Q : Unit → Shared → Prop} (I : Inv X pins σ H s) (e : H a = some (.ins C dx fs)) (c : Cls X.K C) (n : NoAttr X.K C f) (hl : fs.length < 1000) (ry : RelV y u)
    (h : ∀ s', Inv X pins σ (upd H a (.ins C dx (putF f y fs))) s' → Q () s') : wpAny (model X.prog X.w) A (setAttr (.ref a) f u) Q E s := by
  obtain ⟨mA, O, r, wi, _, ho⟩ := ins_get I.hok e
  have hz : (fs.map (·.1)).length ≤ sizeLine := by rw [List.length_map, sizeLine_eq]; omega
  refine set_map I.kIn O c.sa c.po n.taker c.hd wi hz fun h' O' sb => h _ ?_
  have hd : ∃ o, h'.get? dx = some o := let ⟨o, _, _, e', _⟩ := O'.ns; ⟨o, e'⟩
  refine I.write (x := a) (e := dx) (by rw [e]; exact True.intro) (.inr ho) (fun b q hb z => (sb.2 b hb).trans z) hd ?_
  refine ⟨by rw [upd_ne O.ne]; exact ho, ?_, O.ne, O'.obj, _, O'.ns, fun g => ?_, fun g hg => ?_⟩
  · have := length_putF f y fs; omega
  · show RelO ((putF f y fs).lookup g) (if g = f then some u else mA g)
    rw [lookup_putF]
    by_cases q : g = f
    · rw [if_pos q, if_pos q]; exact ry
    · rw [if_neg q, if_neg q]; exact r g
  · by_cases q : g = f
    · rw [q]; exact (keys_putF f y fs).1
    · refine (keys_putF f y fs).2 g (wi g fun z => hg ?_)
      show (if g = f then some u else mA g) = none
      rw [if_neg q]; exact z

theorem Inv.made (I : Inv X pins σ H s) : Inv X pins σ (upd (upd H s.heap.objs.size (.own (s.heap.objs.size + 1))) (s.heap.objs.size + 1) (.ins C s.heap.objs.size []))
    { s with heap := (s.heap.push PySem.W.emptyDict).push (PySem.W.instObj C s.heap.objs.size) } := by
  have e1 : (s.heap.push PySem.W.emptyDict).get? s.heap.objs.size = some PySem.W.emptyDict := Heap.get?_push_size s.heap rfl
  have e2 : ((s.heap.push PySem.W.emptyDict).push (PySem.W.instObj C s.heap.objs.size)).get? (s.heap.objs.size + 1) = some (PySem.W.instObj C s.heap.objs.size) := by
    have := Heap.get?_push_size (s.heap.push PySem.W.emptyDict) (o := PySem.W.instObj C s.heap.objs.size) rfl
    rwa [Heap.size_push] at this
  have e3 : (s.heap.push PySem.W.emptyDict).Ns s.heap.objs.size (fun _ => none) := ⟨PySem.W.emptyDict, #[], _, e1, rfl, (fun e he => absurd he (by simp)), fun _ => rfl⟩
  have I1 := I.laid (a := s.heap.objs.size) (o := .own (s.heap.objs.size + 1)) (h' := s.heap.push PySem.W.emptyDict) (t' := s.toks) (fun b u q => Heap.get?_push_of_some _ q) (Nat.le_refl _) ⟨_, e1⟩
  refine I1.laid (a := s.heap.objs.size + 1) (o := .ins C s.heap.objs.size []) (t' := s.toks) (fun b u q => Heap.get?_push_of_some _ q) (Nat.le_of_eq (Heap.size_push _ _)) ?_
  have ne : s.heap.objs.size ≠ s.heap.objs.size + 1 := Nat.ne_of_lt (Nat.lt_succ_self _)
  refine ⟨by rw [upd_ne ne, upd_same], Nat.zero_le _, ne, e2, fun _ => none, (Heap.Ns1.of_empty e3).at fun o q => Heap.get?_push_of_some _ q, fun _ => True.intro, fun y hy => absurd rfl hy⟩

theorem attr_of {prog : Program} {w : World} {env : Env} {e : Expr} {f : Str} {pos : Pos} {s : Shared} {Q : Value → Shared → Prop} (hb : attributeBase e f env (eval e env) = eval e env)
    (h : wpAny (model prog w) A (eval e env) (fun o s₁ => wpAny (model prog w) A (getAttr o f true) Q E s₁) E s) : wpAny (model prog w) A (eval (.Attribute e f pos) env) Q E s :=
  Attribute_any_ h (by rw [arm_eval_Attribute, hb])
end

/-! ### readings and rules -/
section
variable {X : Cx} {o e value : Expr} {f : Str} {pos pos' tpos : Pos} {ta tv : TE}
end

/-! ### isinstance -/
section
variable {X : Cx} {pins : List (Addr × Obj)} {σ : St} {H : Hp} {s : Shared} {A : Around} {E : Value → Shared → Prop} {Q : Value → Shared → Prop} {c : Value} {b : Bool}
inductive TyOf (K : PySem.W.Frag) (H : Hp) : V → Value → Prop where
  | non : TyOf K H .non (.type "NoneType")
  | bl (x : Bool) : TyOf K H (.bl x) (.type "bool")
  | int (i : Int) : TyOf K H (.int i) (.type "int")
  | str (x : Str) : TyOf K H (.str x) (.type "str")
  | flt (x : UInt64) : TyOf K H (.flt x) (.type "float")
  | lst {a : Addr} {xs : List V} (e : H a = some (.lst xs)) : TyOf K H (.ref a) (.type "list")
  | frz {a : Addr} {o : Obj} {xs : List V} (e : H a = some (.frz o (.lst xs))) : TyOf K H (.ref a) (.type "list")
  | tup {a : Addr} {xs : List V} (e : H a = some (.tup xs)) : TyOf K H (.ref a) (.type "tuple")
  | dK {a : Addr} {kvs : List (Key × V)} (e : H a = some (.dK kvs)) : TyOf K H (.ref a) (.type "dict")
  | dT {a : Addr} {kvs : List (List Key × V)} (e : H a = some (.dT kvs)) : TyOf K H (.ref a) (.type "dict")
  | ins {a C dx : Addr} {fs : List (Str × V)} (e : H a = some (.ins C dx fs)) (cl : Cls K C) (ha : PySem.W.findIn K (.ref C) "__class__" = some (some (.builtin "object.__class__")))
      (hn : PySem.W.specialIn K (.builtin "object.__class__") "__get__" = some (some (.builtin "getset_descriptor.__get__"))) (htk : PySem.W.takesIn K (.builtin "object.__class__") = some true)
      (hm : PySem.W.mroIn K C (.type "object") = some true) : TyOf K H (.ref a) (.ref C)
end
end L2

namespace L2
open PySem PySem.Spec PyProof.Rows

/-! ### room -/
structure Room (k : Nat) (A : Around) : Prop where
  hd : A.handled = none
  dp : A.depth + 3 * k + 5 < recursionLimit
  un : A.units + 16 * k + 200 < cLine
theorem Room.mono {j k : Nat} {A : Around} (r : Room k A) (h : j ≤ k) : Room j A := ⟨r.hd, by have := r.dp; omega, by have := r.un; omega⟩
theorem Room.deeper {k : Nat} {A : Around} (r : Room (k + 1) A) (env : Env) : Room k (A.deeper env) :=
  ⟨r.hd, by have := r.dp; show A.depth + 1 + 3 * k + 5 < _; omega, by have := r.un; show A.units + 3 + 16 * k + 200 < _; omega⟩
theorem Room.in1 {k : Nat} {A : Around} (r : Room (k + 1) A) : Room k A.in1 :=
  ⟨r.hd, by have := r.dp; show A.depth + 3 * k + 5 < _; omega, by have := r.un; show A.units + 1 + 16 * k + 200 < _; omega⟩
theorem make_depth {A : Around} {C : Addr} {us : List Value} {kw : List (Str × Value)} : (A.under (.builtin "type.__call__" ⟨.ref C :: us, kw⟩)).depth = A.depth + 1 := by
  first | rfl | simp [Around.under, Code.weight, Code.isCreation, Code.isGuard, Code.isCaller, Code.frames, Code.isFrame, guardIds]
theorem make_units {A : Around} {C : Addr} {us : List Value} {kw : List (Str × Value)} : (A.under (.builtin "type.__call__" ⟨.ref C :: us, kw⟩)).units = A.units + 1 := by
  first | rfl | simp [Around.under, Code.cUnits, Code.frames, Code.isFrame]
theorem Room.make {k : Nat} {A : Around} (r : Room (k + 1) A) (C : Addr) (us : List Value) (kw : List (Str × Value)) : Room k (A.under (.builtin "type.__call__" ⟨.ref C :: us, kw⟩)) :=
  ⟨r.hd, by have := r.dp; rw [make_depth]; omega, by have := r.un; rw [make_units]; omega⟩
theorem Room.depth {k : Nat} {A : Around} (r : Room k A) : A.depth < recursionLimit := by have := r.dp; omega
theorem Room.units {k : Nat} {A : Around} (r : Room k A) : A.units + 64 < cLine := by have := r.un; omega
/-! ### argument lists and displays -/
def tNil : TA := fun _ H Q => Q [] H
def tCons (ta : TE) (tr : TA) : TA := fun σ H Q => ta σ H fun x H1 => tr σ H1 fun xs H2 => Q (x :: xs) H2
section
variable {X : Cx} {e : Expr} {es : List Expr} {te : TE} {t : TA} {pos : Pos}
theorem pa_nil : PA X [] tNil := fun _ _ _ _ H Q I h => Calls.spliced_nil ⟨[], H, I, .nil, h⟩
theorem pa_cons (ha : PE X e te) (hr : PA X es t) (hs : starEach (e :: es) X.env = (false, eval e X.env) :: starEach es X.env := by rfl) : PA X (e :: es) (tCons te t) := by
  intro pos pins s σ H Q I h
  rw [hs]
  show wpAny _ _ (spliced ((false, eval e X.env) :: backTo pos (starEach es X.env))) _ _ s
  refine Calls.spliced_cons (thn (ha pins s σ H _ I h) fun u s1 ⟨x, H1, I1, r1, q1⟩ => ?_)
  exact thn (hr pos pins s1 σ H1 _ I1 q1) fun us s2 ⟨xs, H2, I2, r2, q2⟩ => ⟨x :: xs, H2, I2, .cons r1 r2, q2⟩

def tTup (t : TA) : TE := fun σ H Q => t σ H fun xs H1 => xs.length ≤ sizeLine ∧ ∀ p, H1 p = none → Q (.ref p) (upd H1 p (.tup xs))
def tLst (t : TA) : TE := fun σ H Q => t σ H fun xs H1 => xs.length ≤ sizeLine ∧ ∀ p, H1 p = none → Q (.ref p) (upd H1 p (.lst xs))
theorem pe_tup {x1} (h : PA X es t) : PE X (.Tuple es x1 pos) (tTup t) := by
  intro pins s σ H Q I hq
  refine wpAny_Tuple_spliced (thn (h pos pins s σ H _ I hq) fun us s1 ⟨xs, H1, I1, r, z, q⟩ => ⟨by rw [← r.length]; exact z, ?_⟩)
  have hf : H1 s1.heap.objs.size = none := I1.hok.fresh (Nat.le_refl _)
  refine ⟨.ref s1.heap.objs.size, upd H1 s1.heap.objs.size (.tup xs), I1.laid (t' := s1.toks) (fun b u e => Heap.get?_push_of_some _ e) (Nat.le_refl _) ?_, rfl, q _ hf⟩
  exact ⟨z, us, r, ⟨_, Heap.get?_push_size _ rfl, rfl, _, rfl⟩⟩
theorem pe_lst (h : PA X es t) : PE X (.List es pos) (tLst t) := by
  intro pins s σ H Q I hq
  refine wpAny_List_spliced (thn (h pos pins s σ H _ I hq) fun us s1 ⟨xs, H1, I1, r, z, q⟩ => ⟨by rw [← r.length]; exact z, ?_⟩)
  have hf : H1 s1.heap.objs.size = none := I1.hok.fresh (Nat.le_refl _)
  refine ⟨.ref s1.heap.objs.size, upd H1 s1.heap.objs.size (.lst xs), I1.laid (t' := s1.toks) (fun b u e => Heap.get?_push_of_some _ e) (Nat.le_refl _) ?_, rfl, q _ hf⟩
  exact ⟨z, us, 0, r, Heap.get?_push_size _ rfl⟩
end

/-! ### what a def promises -/
abbrev Sp := List V → Hp → VK → XK → Prop
abbrev CXT := List Env → Hp → Shared → XK → Value → Shared → Prop

structure Env0 (P : Program) (w : World) (K : PySem.W.Frag) (mg : Str → Option Value) (base : Heap) (A : Around) (outer : List Env) (s : Shared) (H : Hp) : Prop where
  frames : A.frames = some outer
  mod : Mod K mg base
  bs : ∀ b o, base.get? b = some o → s.heap.get? b = some o ∧ H b = none
  bsz : base.objs.size ≤ s.heap.objs.size
  funs : s.heap.FunFrames base outer
  frf : ∀ b ∈ frs outer, H b = none
  hok : HOk P w H s.heap
  bare : AllBare s.gens
def CE (outer : List Env) (P : Program) (w : World) (H : Hp) (s : Shared) (Q : VK) (u : Value) (s' : Shared) : Prop :=
  ∃ v H', s'.os = s.os ∧ AllBare s'.gens ∧ Un (frs outer) [] H H' s.heap s'.heap ∧ HOk P w H' s'.heap ∧ RelV v u ∧ Q v H'
def CR (CX : CXT) (outer : List Env) (P : Program) (w : World) (H : Hp) (s : Shared) (Q : VK) (E : XK) (r : Result) (s' : Shared) : Prop :=
  match r with
  | .ok (.ret u) => CE outer P w H s Q u s'
  | .ok _ => False
  | .error e => CX outer H s E e s'
structure FnOk (P : Program) (w : World) (K : PySem.W.Frag) (mg : Str → Option Value) (base : Heap) (CX : CXT) (k : Nat) (f : Addr) (fd : FuncData) (ps : List Str) (sp : Sp) : Prop where
  len : ∀ vs H Q E, sp vs H Q E → vs.length = ps.length
  run : ∀ (A : Around) (outer : List Env) (s : Shared) (H : Hp) (args : Args) (us : List Value) (vs : List V) (Q : VK) (E : XK), Room k A → Env0 P w K mg base A outer s H → BindsTo s fd args (ps.zip us) → Vals vs us → sp vs H Q E →
    codeAny (model P w) A (.call (.ref f) args) (CR CX outer P w H s Q E) s
theorem FnOk.mono {P : Program} {w : World} {K : PySem.W.Frag} {mg : Str → Option Value} {base : Heap} {CX : CXT} {j k : Nat} {f : Addr} {fd : FuncData} {ps : List Str} {sp : Sp} (F : FnOk P w K mg base CX j f fd ps sp) (h : j ≤ k) :
    FnOk P w K mg base CX k f fd ps sp := ⟨F.len, fun A outer s H args us vs Q E hr => F.run A outer s H args us vs Q E (hr.mono h)⟩
theorem FnOk.imp {P : Program} {w : World} {K : PySem.W.Frag} {mg : Str → Option Value} {base : Heap} {CX : CXT} {k : Nat} {f : Addr} {fd : FuncData} {ps : List Str} {sp sp' : Sp} (F : FnOk P w K mg base CX k f fd ps sp)
    (h : ∀ vs H Q E, sp' vs H Q E → sp vs H Q E) : FnOk P w K mg base CX k f fd ps sp' :=
  ⟨fun vs H Q E q => F.len vs H Q E (h _ _ _ _ q), fun A outer s H args us vs Q E hr he hb hv hs => F.run A outer s H args us vs Q E hr he hb hv (h _ _ _ _ hs)⟩

theorem Env0.make {P : Program} {w : World} {K : PySem.W.Frag} {mg : Str → Option Value} {base : Heap} {A : Around} {outer : List Env} {s : Shared} {H : Hp} (e : Env0 P w K mg base A outer s H) (C : Addr) (us : List Value) (kw : List (Str × Value)) :
    Env0 P w K mg base (A.under (.builtin "type.__call__" ⟨.ref C :: us, kw⟩)) outer s H := ⟨by first | exact e.frames | (simpa [Around.under, Code.envs, Code.isFrame, pushEnvs] using e.frames), e.mod, e.bs, e.bsz, e.funs, e.frf, e.hok, e.bare⟩
theorem Env0.in1 {P : Program} {w : World} {K : PySem.W.Frag} {mg : Str → Option Value} {base : Heap} {A : Around} {outer : List Env} {s : Shared} {H : Hp} (e : Env0 P w K mg base A outer s H) :
    Env0 P w K mg base A.in1 outer s H := ⟨e.frames, e.mod, e.bs, e.bsz, e.funs, e.frf, e.hok, e.bare⟩

section
variable {X : Cx} {pins : List (Addr × Obj)} {σ : St} {H : Hp} {s s' : Shared}
theorem Inv.env0 (I : Inv X pins σ H s) : Env0 X.prog X.w X.K X.mg X.base X.A X.stack s H :=
  ⟨I.ok.frames, I.ok.mod, I.bs, Nat.le_trans I.ok.bsz I.sz, I.stack, I.stkFree, I.hok, I.bare⟩
theorem Inv.after {Q : VK} {u : Value} (I : Inv X pins σ H s) (h : CE X.stack X.prog X.w H s Q u s') : EP X pins σ Q u s' := by
  obtain ⟨v, H', os, bare, un, hok, r, q⟩ := h
  obtain ⟨hh, g, d, t, os'⟩ := s'
  obtain rfl : os' = s.os := os
  exact ⟨v, H', I.call (h' := hh) (g' := g) (d' := d) (t' := t) (ch := []) un hok bare (fun b z => absurd z (by simp)), r, q⟩
end

/-! ### calls -/
def tCall (sp : Sp) (dvs : List V) (E : XK) (t : TA) : TE := fun σ H Q => t σ H fun vs H1 => sp (vs ++ dvs) H1 Q E
def tMeth (C : Addr) (m : Str) (sp : Sp) (dvs : List V) (E : XK) (ta : TE) (t : TA) : TE := fun σ H Q => ta σ H fun x H1 => ∃ a dx fs, x = .ref a ∧ H1 a = some (.ins C dx fs) ∧ fs.lookup m = none ∧
  t σ H1 fun vs H2 => sp (x :: (vs ++ dvs)) H2 Q E
def Binds (K : PySem.W.Frag) (fd : FuncData) (ps : List Str) (ds : List Value) : Prop :=
  ∀ (s : Shared) (us : List Value), K.In s.heap → (us ++ ds).length = ps.length → BindsTo s fd ⟨us, []⟩ (ps.zip (us ++ ds))
theorem Binds.all {K : PySem.W.Frag} {fd : FuncData} {ps : List Str} (h : ∀ us : List Value, us.length = ps.length → bindArgs fd ⟨us, []⟩ = pure (ps.zip us)) : Binds K fd ps [] := fun s us _ hl => by
  rw [List.append_nil] at hl ⊢
  exact .of_eq (h us hl)

def Passes (CX : CXT) (X : Cx) (E : XK) : Prop := ∀ (pins : List (Addr × Obj)) (σ : St) (H : Hp) (s : Shared) (e : Value) (s' : Shared), Inv X pins σ H s → CX X.stack H s E e s' → X.xe e s'

section
variable {X : Cx} {CX : CXT} {k : Nat} {f C : Addr} {fd : FuncData} {ps : List Str} {sp : Sp} {dvs : List V} {ds : List Value} {E : XK} {x m : Str} {p pos apos : Pos} {e o : Expr} {es : List Expr} {ta : TE} {t : TA}

theorem run_fn {pins : List (Addr × Obj)} {σ : St} {H : Hp} {s : Shared} {Q : VK} {us : List Value} {vs : List V} (F : FnOk X.prog X.w X.K X.mg X.base CX k f fd ps sp) (hr : Room k X.A) (hb : Binds X.K fd ps ds) (hd : Vals dvs ds) (hx : Passes CX X E)
    (I : Inv X pins σ H s) (r : Vals vs us) (h : sp (vs ++ dvs) H Q E) : wpAny (model X.prog X.w) X.A (call (.ref f) us) (EP X pins σ Q) X.xe s := by
  have r2 : Vals (vs ++ dvs) (us ++ ds) := r.append hd
  have hl : (us ++ ds).length = ps.length := by rw [← r2.length]; exact F.len _ _ _ _ h
  refine wpAny_call (codeAny_mono (F.run X.A X.stack s H ⟨us, []⟩ (us ++ ds) (vs ++ dvs) Q E hr I.env0 (hb s us I.kIn hl) r2 h) fun r s' hq => ?_)
  cases r with
  | error e => exact hx pins σ H s e s' I hq
  | ok fl =>
    cases fl with
    | ret u => exact I.after hq
    | next => exact False.elim hq
    | brk => exact False.elim hq
    | cont => exact False.elim hq

theorem pe_call (F : FnOk X.prog X.w X.K X.mg X.base CX k f fd ps sp) (hr : Room k X.A) (hg : Gl X x) (hm : X.mg x = some (.ref f)) (hk : PySem.W.keepIn X.K (.ref f) = true) (hb : Binds X.K fd ps ds) (hd : Vals dvs ds) (hx : Passes CX X E)
    (ha : PA X (e :: es) t) (hdb : (x == ("__debug__" : Str)) = false := by decide) (he : starEach (e :: es) X.env = (false, eval e X.env) :: starEach es X.env := by rfl) (hpl : (backTo pos (starEach es X.env)).any (·.1) = false := by rfl) :
    PE X (.Call (.Name x p) (e :: es) [] pos) (tCall sp dvs E t) := by
  intro pins s σ H Q I h
  refine wpAny_Call_Name_kw (ld_glob I hg hm ?_ hdb)
  refine PySem.W.callWith_K (h₀ := X.base) I.ok.mod.kin hk (thn (ha pos pins s σ H _ I h) fun us s1 ⟨vs, H1, I1, r, q⟩ => ⟨I1.kIn, ?_⟩) he hpl
  exact run_fn F hr hb hd hx I1 r q
theorem pe_meth {pl : Sem Bool} (he : PE X o ta) (c : Cls X.K C) (hm : Meth X.K C m f) (F : FnOk X.prog X.w X.K X.mg X.base CX k f fd ps sp) (hr : Room k X.A) (hb : Binds X.K fd ps ds) (hd : Vals dvs ds) (hx : Passes CX X E) (ha : PA X (e :: es) t)
    (hst : starEach (e :: es) X.env = (false, eval e X.env) :: starEach es X.env := by rfl) (hpl : (backTo pos (starEach es X.env)).any (·.1) = false := by rfl)
    (ht : eval (.Call (.Attribute o m apos) (e :: es) [] pos) X.env = (do
      let ov ← eval o X.env
      standAt apos.atName
      let (f, first) ← holding [ov] (getMethod ov m pl)
      callWith pos f first (backTo pos (starEach (e :: es) X.env)) (backToKw pos (keywordEach [] X.env))) := by rfl) :
    PE X (.Call (.Attribute o m apos) (e :: es) [] pos) (tMeth C m sp dvs E ta t) := by
  intro pins s σ H Q I h
  refine PySem.W.methodCall_KW (pl := pl) (thn (he pins s σ H _ I h) fun u s1 ⟨x, H1, I1, rx, a, dx, fs, ex, ea, l, q⟩ => ?_) ht
  subst ex
  obtain rfl : u = Value.ref a := rx
  refine getmeth_ok I1 ea c hm l ?_
  refine PySem.W.callWith_K (first := [.ref a]) (h₀ := X.base) I.ok.mod.kin hm.kp (thn (ha pos pins s1 σ H1 _ I1 q) fun us s2 ⟨vs, H2, I2, r, q2⟩ => ⟨I2.kIn, ?_⟩) hst hpl
  exact run_fn (us := .ref a :: us) (vs := .ref a :: vs) F hr hb hd hx I2 (.cons rfl r) q2
theorem pe_meth0 {pl : Sem Bool} (he : PE X o ta) (c : Cls X.K C) (hm : Meth X.K C m f) (F : FnOk X.prog X.w X.K X.mg X.base CX k f fd ps sp) (hr : Room k X.A) (hb : Binds X.K fd ps ds) (hd : Vals dvs ds) (hx : Passes CX X E)
    (ht : eval (.Call (.Attribute o m apos) [] [] pos) X.env = (do
      let ov ← eval o X.env
      standAt apos.atName
      let (f, first) ← holding [ov] (getMethod ov m pl)
      callWith pos f first (backTo pos (starEach [] X.env)) (backToKw pos (keywordEach [] X.env))) := by rfl) :
    PE X (.Call (.Attribute o m apos) [] [] pos) (tMeth C m sp dvs E ta tNil) := by
  intro pins s σ H Q I h
  refine PySem.W.methodCall_KW (pl := pl) (thn (he pins s σ H _ I h) fun u s1 ⟨x, H1, I1, rx, a, dx, fs, ex, ea, l, q⟩ => ?_) ht
  subst ex
  obtain rfl : u = Value.ref a := rx
  refine getmeth_ok I1 ea c hm l ?_
  exact PySem.W.callWith_K0 (first := [.ref a]) I1.kIn hm.kp (run_fn (us := [.ref a]) (vs := [.ref a]) F hr hb hd hx I1 (.cons rfl .nil) q)

structure Mk (K : PySem.W.Frag) (C f : Addr) : Prop where
  makes : PySem.W.makesIn K C = true
  init : PySem.W.findIn K (.ref C) "__init__" = some (some (.ref f))
  fn : PySem.W.isFn K (.ref f) = true
  kp : PySem.W.keepIn K (.ref C) = true

theorem run_make {pins : List (Addr × Obj)} {σ : St} {H : Hp} {s : Shared} {Q : VK} {us : List Value} {vs : List V} (M : Mk X.K C f) (F : FnOk X.prog X.w X.K X.mg X.base CX k f fd ps sp) (hr : Room (k + 1) X.A) (hb : Binds X.K fd ps ds) (hd : Vals dvs ds)
    (hx : Passes CX X E) (I : Inv X pins σ H s) (r : Vals vs us)
    (h : ∀ x dx, H x = none → H dx = none → dx ≠ x → sp (.ref x :: (vs ++ dvs)) (upd (upd H dx (.own x)) x (.ins C dx [])) (fun v H2 => v = .non ∧ Q (.ref x) H2) E) :
    wpAny (model X.prog X.w) X.A (call (.ref C) us) (EP X pins σ Q) X.xe s := by
  have hq := h (s.heap.objs.size + 1) s.heap.objs.size (I.hok.fresh (Nat.le_succ _)) (I.hok.fresh (Nat.le_refl _)) (Nat.ne_of_lt (Nat.lt_succ_self _))
  have I2 := Inv.made (C := C) I
  have r2 : Vals (V.ref (s.heap.objs.size + 1) :: (vs ++ dvs)) (Value.ref (s.heap.objs.size + 1) :: (us ++ ds)) := .cons rfl (r.append hd)
  have hl : (Value.ref (s.heap.objs.size + 1) :: us ++ ds).length = ps.length := by
    have e := r2.length
    rw [F.len _ _ _ _ hq] at e
    exact e.symm
  refine wpAny_call (make_map (f := f) I.kIn M.makes M.init (beq_iff_eq.mp M.fn) (codeAny_mono (F.run _ X.stack _ _ ⟨Value.ref (s.heap.objs.size + 1) :: us, []⟩ (Value.ref (s.heap.objs.size + 1) :: (us ++ ds)) _ _ E (hr.make C us [])
    (I2.env0.make C us []) (hb _ (Value.ref (s.heap.objs.size + 1) :: us) I2.kIn hl) r2 hq) fun r s' hq' => ?_))
  cases r with
  | error e => exact hx pins σ _ _ e s' I2 hq'
  | ok fl =>
    cases fl with
    | ret u =>
      obtain ⟨v, H', I3, rv, ev, q3⟩ := I2.after hq'
      subst ev
      exact ⟨rv, ⟨V.ref (s.heap.objs.size + 1), H', I3, rfl, q3⟩⟩
    | next => exact False.elim hq'
    | brk => exact False.elim hq'
    | cont => exact False.elim hq'
end

/-! ### keywords -/
section
variable {X : Cx} {CX : CXT} {k : Nat} {f C : Addr} {fd : FuncData} {ps ks : List Str} {sp : Sp} {E : XK} {x m : Str} {p pos apos kpos : Pos} {e o : Expr} {es : List Expr} {kws : List Keyword} {te ta : TE} {t tk : TA} {nm : Option Str}
structure KBinds (K : PySem.W.Frag) (fd : FuncData) (ps ks : List Str) (g : List Value → List Value → List Value) (gV : List V → List V → List V) : Prop where
  to : ∀ (s : Shared) (us ws : List Value), K.In s.heap → (g us ws).length = ps.length → BindsTo s fd ⟨us, ks.zip ws⟩ (ps.zip (g us ws))
  rel : ∀ {vs : List V} {us : List Value} {zs : List V} {ws : List Value}, Vals vs us → Vals zs ws → Vals (gV vs zs) (g us ws)
variable {g : List Value → List Value → List Value} {gV : List V → List V → List V}
end

/-! ### a def's body keeps its promise -/
structure FnScope (N P : List Str) (sc : Scope) : Prop where
  kind : sc.kind = .function
  co : sc.isCoroutine = false
  gen : sc.isGenerator = false
  nd : N.Nodup
  pre : N.take P.length = P
  par : ∀ x ∈ P, sc.names.lookup x = some .local ∨ sc.names.lookup x = some .cell
  nofree : ∀ y ∈ sc.names, y.2 ≠ .free

theorem bindL_out {kindOf : Str → Option NameKind} {x : Str} : ∀ {binds : List (Str × Value)} {m : Str → Option Value}, (∀ v, (x, v) ∉ binds) → bindL kindOf binds m x = m x
  | [], _, _ => rfl
  | (n, v) :: r, m, h => by
    unfold bindL
    rw [bindL_out fun w hw => h w (List.mem_cons_of_mem _ hw)]
    split
    · have : x ≠ n := by rintro rfl; exact h v List.mem_cons_self
      simp [this]
    · rfl
theorem bindC_out {kindOf : Str → Option NameKind} {x : Str} : ∀ {binds : List (Str × Value)} {m : Str → Option Value}, (∀ v, (x, v) ∉ binds) → bindC kindOf binds m x = m x
  | [], _, _ => rfl
  | (n, v) :: r, m, h => by
    unfold bindC
    rw [bindC_out fun w hw => h w (List.mem_cons_of_mem _ hw)]
    split
    · rfl
    · have : x ≠ n := by rintro rfl; exact h v List.mem_cons_self
      simp [this]
theorem bindL_get {kindOf : Str → Option NameKind} {x : Str} {v : Value} : ∀ {P : List Str} {vs : List Value} {i : Nat} {m : Str → Option Value}, P.Nodup → P[i]? = some x → vs[i]? = some v → kindOf x = some .local →
    bindL kindOf (P.zip vs) m x = some v
  | [], _, _, _, _, h, _, _ => by simp at h
  | _ :: _, [], _, _, _, _, h, _ => by simp at h
  | p :: P, w :: vs, 0, m, nd, h1, h2, hk => by
    simp at h1 h2; subst h1; subst h2
    show bindL kindOf ((p, w) :: P.zip vs) m p = _
    unfold bindL
    rw [bindL_out fun v hv => (List.nodup_cons.mp nd).1 (List.of_mem_zip hv).1, if_pos hk]
    simp
  | p :: P, w :: vs, i + 1, m, nd, h1, h2, hk => by
    show bindL kindOf ((p, w) :: P.zip vs) m x = _
    unfold bindL
    exact bindL_get (i := i) (List.nodup_cons.mp nd).2 (by simpa using h1) (by simpa using h2) hk
theorem bindC_get {kindOf : Str → Option NameKind} {x : Str} {v : Value} : ∀ {P : List Str} {vs : List Value} {i : Nat} {m : Str → Option Value}, P.Nodup → P[i]? = some x → vs[i]? = some v → kindOf x ≠ some .local →
    bindC kindOf (P.zip vs) m x = some v
  | [], _, _, _, _, h, _, _ => by simp at h
  | _ :: _, [], _, _, _, _, h, _ => by simp at h
  | p :: P, w :: vs, 0, m, nd, h1, h2, hk => by
    simp at h1 h2; subst h1; subst h2
    show bindC kindOf ((p, w) :: P.zip vs) m p = _
    unfold bindC
    rw [bindC_out fun v hv => (List.nodup_cons.mp nd).1 (List.of_mem_zip hv).1, if_neg hk]
    simp
  | p :: P, w :: vs, i + 1, m, nd, h1, h2, hk => by
    show bindC kindOf ((p, w) :: P.zip vs) m x = _
    unfold bindC
    exact bindC_get (i := i) (List.nodup_cons.mp nd).2 (by simpa using h1) (by simpa using h2) hk

def start (N : List Str) (vs : List V) : St := vs.map some ++ List.replicate (N.length - vs.length) none

def cxOf (CX : CXT) (P : Program) (w : World) (K : PySem.W.Frag) (mg : Str → Option Value) (base : Heap) (N : List Str) (qual : Str) (scope : Scope) (f : Addr) (cd : Value) (A : Around) (outer : List Env) (s : Shared) (H : Hp) (E : XK) : Cx where
  prog := P
  w := w
  K := K
  mg := mg
  base := base
  A := A.deeper (envOfC qual scope s.heap.objs.size f cd)
  N := N
  s₀ := s
  H₀ := H
  env := envOfC qual scope s.heap.objs.size f cd
  outer := outer
  stack := envOfC qual scope s.heap.objs.size f cd :: outer
  ex := []
  calm := true
  fn := fun _ => true
  pn := []
  xe := fun e s' => wpAny (model P w) (A.deeper (envOfC qual scope s.heap.objs.size f cd)) (leaving (envOfC qual scope s.heap.objs.size f cd) e) (fun _ s'' => CX outer H s E e s'') (fun e' s'' => CX outer H s E e' s'') s'

theorem cell_has {sc : Scope} {n : Nat} {x : Str} (h : sc.names.lookup x = some .cell) : ∃ c, (cellsFrom n sc.names []).lookup x = some c := by
  have q := PySem.W.cellsFrom_some sc.names n [] (.inl h)
  exact Option.isSome_iff_exists.mp q

theorem inv_start {CX : CXT} {P : Program} {w : World} {K : PySem.W.Frag} {mg : Str → Option Value} {base : Heap} {N ps : List Str} {qual : Str} {scope : Scope} {f : Addr} {cd : Value} {A : Around} {outer : List Env} {s s1 : Shared} {H : Hp} {E : XK} {us : List Value} {vs : List V}
    (S : FnScope N ps scope) (hd : A.handled = none) (e0 : Env0 P w K mg base A outer s H) (hl : vs.length = ps.length) (r : Vals vs us)
    (x : InCallC s s.heap.objs.size (bindL (envOfC qual scope s.heap.objs.size f cd).kindOf (ps.zip us) fun _ => none) (cellsFrom (s.heap.objs.size + 1) scope.names []) (bindC (envOfC qual scope s.heap.objs.size f cd).kindOf (ps.zip us) fun _ => none) s1) :
    Inv (cxOf CX P w K mg base N qual scope f cd A outer s H E) [] (start N vs) H s1 := by
  have hpl : ps.length ≤ N.length := by have := congrArg List.length S.pre; rw [List.length_take] at this; omega
  obtain ⟨h1, tk, rfl, hk⟩ := x.done
  have noA : ∀ b : Addr, b ∉ (cxOf CX P w K mg base N qual scope f cd A outer s H E).ex := fun b z => absurd (show b ∈ ([] : List Addr) from z) (by simp)
  refine ⟨⟨e0.mod, S.kind, rfl, rfl, Nat.le_refl _, fun y z c h1 h2 => ?_, fun y hy => ?_, fun y c _ h => ?_, fun _ => hd, Around.frames_deeper e0.frames, .inr ⟨rfl, rfl⟩, fun b z => absurd z (noA b), e0.bs, e0.bsz, fun b _ _ => noA b, fun b z => absurd z (noA b), e0.funs, e0.frf⟩,
    rfl, e0.bare, Un.kept hk, ⟨_, x.toInCall.ns, fun i y v h1 h2 h3 => ?_⟩, fun y c h => ⟨_, x.cell y c h⟩, e0.hok.fresh (Nat.le_refl _), fun y c h => ?_, fun p hp => absurd (show p ∈ ([] : List (Addr × Obj)) from hp) (by simp), e0.hok.kept hk, ?_⟩
  · exact name_of_addr x.apart (PySem.mem_of_lookup h1) (PySem.mem_of_lookup h2)
  · have hy : scope.names.lookup y = some .cell ∨ scope.names.lookup y = some .free := hy
    rcases hy with hy | hy
    · exact cell_has hy
    · exact absurd rfl (S.nofree _ (PySem.mem_of_lookup hy))
  · exact Nat.le_of_lt (x.above y c (PySem.mem_of_lookup h))
  · have hi : i < vs.length := by
      unfold start at h2
      by_cases hi : i < vs.length
      · exact hi
      · rw [List.getElem?_append_right (by simpa using hi)] at h2
        rw [List.getElem?_replicate] at h2
        split at h2 <;> cases h2
    have ha : vs[i]? = some v := by
      unfold start at h2
      rw [List.getElem?_append_left (by simpa using hi), List.getElem?_map] at h2
      cases e : vs[i]? with
      | none => rw [e] at h2; cases h2
      | some a => rw [e] at h2; cases h2; rfl
    obtain ⟨u, hu, rv⟩ := r.get ha
    have hp : ps[i]? = some y := by
      rw [← S.pre, List.getElem?_take_of_lt (by omega)]; exact h1
    have ndP : ps.Nodup := by rw [← S.pre]; exact S.nd.sublist (List.take_sublist _ _)
    refine ⟨u, rv, ?_⟩
    rcases S.par y (List.mem_of_getElem? hp) with k | k
    · exact .inl ⟨k, bindL_get ndP hp hu k⟩
    · obtain ⟨c, e⟩ := cell_has (n := s.heap.objs.size + 1) k
      refine .inr ⟨.inl k, c, e, ?_⟩
      have q := x.cell y c e
      rw [bindC_get ndP hp hu (by show scope.names.lookup y ≠ _; rw [k]; decide)] at q
      exact q
  · exact e0.hok.fresh (Nat.le_of_lt (x.above y c (PySem.mem_of_lookup h)))
  · unfold start
    show _ = N.length
    rw [List.length_append, List.length_map, List.length_replicate]
    omega

theorem fn_of {CX : CXT} {P : Program} {w : World} {K : PySem.W.Frag} {mg : Str → Option Value} {base : Heap} {k : Nat} {f : Addr} {name qual : Str} {params : Arguments} {body : List Stmt} {scope : Scope} {dV kV doc pm cdv ct oc : Value} {an od : Option Addr}
    {osl : Array (Option Value)} {N ps : List Str} {sp : Sp} (lk : K.lookup f = some ⟨oc, od, .func (PySem.W.fnOf name qual params body scope dV kV doc pm an cdv ct), osl⟩) (hcd : PySem.W.codeIn K cdv qual = true) (S : FnScope N ps scope)
    (len : ∀ vs H Q E, sp vs H Q E → vs.length = ps.length)
    (hbody : ∀ (A : Around) (outer : List Env) (s : Shared) (H : Hp) (vs : List V) (Q : VK) (E : XK), Room k (A.deeper (envOfC qual scope s.heap.objs.size f cdv)) → sp vs H Q E →
      ∃ t, PSs (cxOf CX P w K mg base N qual scope f cdv A outer s H E) body t ∧ t { nx := fun _ H' => Q .non H', rt := Q } (start N vs) H) :
    FnOk P w K mg base CX (k + 1) f (PySem.W.fnOf name qual params body scope dV kV doc pm an cdv ct) ps sp := by
  refine ⟨len, fun A outer s H args us vs Q E hr e0 hb r hsp => ?_⟩
  have hl := len _ _ _ _ hsp
  have KX : K.In s.heap := e0.mod.kin.keeps fun b o e => (e0.bs b o e).1
  have lim : s.heap.NoLimit := e0.mod.nolimit.keeps fun b o e => (e0.bs b o e).1
  have hkind : ∀ y ∈ ps.zip us, scope.names.lookup y.1 = some .local ∨ (scope.names.lookup y.1 = some .cell ∧ ((cellsFrom (s.heap.objs.size + 1) scope.names []).lookup y.1).isSome = true) := fun ⟨n, v⟩ hy => by
    rcases S.par n (List.of_mem_zip hy).1 with q | q
    · exact .inl q
    · exact .inr ⟨q, PySem.W.cellsFrom_some _ _ _ (.inl q)⟩
  refine codeAny_call_function hr.depth (KX _ _ lk) rfl S.co S.gen rfl (PySem.W.codeRec_of KX hcd) (hb _ _ _ _ ?_)
  refine wpAny_newFunctionEnv_cells S.kind hkind fun env he s1 x => ?_
  subst he
  refine ⟨lim.keeps x.toInCall.keep, codeAny_func ?_⟩
  obtain ⟨t, ht, hq⟩ := hbody A outer s H vs Q E (hr.deeper _) hsp
  have I : Inv (cxOf CX P w K mg base N qual scope f cdv A outer s H E) [] (start N vs) H s1 := inv_start S hr.hd e0 hl r x
  refine wpAny_mono (ht [] s1 (start N vs) H _ I hq) (fun fl s' hs => ?_) fun e s' hs => hs
  have fin : ∀ {σ' : St} {H' : Hp} {v : V} {u : Value}, Inv (cxOf CX P w K mg base N qual scope f cdv A outer s H E) [] σ' H' s' → RelV v u → Q v H' → CE outer P w H s Q u s' :=
    fun {σ' H' v u} J rv q => ⟨v, H', J.os, J.bare, J.base, J.hok, rv, q⟩
  cases fl with
  | ret u =>
    obtain ⟨v, σ', H', J, rv, q⟩ := hs
    exact fin J rv q
  | next =>
    obtain ⟨σ', H', J, q⟩ := hs
    exact fin (v := V.non) (u := Value.none) J rfl q
  | brk =>
    obtain ⟨_, _, _, q⟩ := hs
    exact False.elim q
  | cont =>
    obtain ⟨_, _, _, q⟩ := hs
    exact False.elim q
end L2

namespace L2
open PySem PySem.Spec PyProof.Rows
section
variable {X : Cx} {x : Str} {p pos : Pos} {e : Expr} {es : List Expr} {t : TA} {id T : String} {r : List V → Hp → VK → Prop}

def tCB (r : List V → Hp → VK → Prop) (t : TA) : TE := fun σ H Q => t σ H fun vs H1 => r vs H1 Q
theorem pe_callB (hc : CallR X (.builtin id) r) (hg : Gl X x) (hm : X.mg x = none) (hv : bootBuiltins x = some (.builtin id)) (ha : PA X (e :: es) t) (hn : x ≠ "__name__" := by decide) (hdb : (x == ("__debug__" : Str)) = false := by decide)
    (he : starEach (e :: es) X.env = (false, eval e X.env) :: starEach es X.env := by rfl) (hpl : (backTo pos (starEach es X.env)).any (·.1) = false := by rfl) : PE X (.Call (.Name x p) (e :: es) [] pos) (tCB r t) := by
  intro pins s σ H Q I h
  refine wpAny_Call_Name_kw (ld_blt I hg hm hv ?_ hn hdb)
  exact PyProof.Rows.callWith_builtin1 (thn (ha pos pins s σ H _ I h) fun us s1 ⟨vs, H1, I1, r1, q1⟩ => hc pins s1 σ H1 vs us Q I1 r1 q1) he hpl
theorem pe_callTy (hc : CallR X (.type T) r) (hg : Gl X x) (hm : X.mg x = none) (hv : bootBuiltins x = some (.type T)) (ha : PA X (e :: es) t) (hn : x ≠ "__name__" := by decide) (hdb : (x == ("__debug__" : Str)) = false := by decide)
    (he : starEach (e :: es) X.env = (false, eval e X.env) :: starEach es X.env := by rfl) (hpl : (backTo pos (starEach es X.env)).any (·.1) = false := by rfl) : PE X (.Call (.Name x p) (e :: es) [] pos) (tCB r t) := by
  intro pins s σ H Q I h
  refine wpAny_Call_Name_kw (ld_blt I hg hm hv ?_ hn hdb)
  exact PyProof.Rows.callWith_type1 (thn (ha pos pins s σ H _ I h) fun us s1 ⟨vs, H1, I1, r1, q1⟩ => hc pins s1 σ H1 vs us Q I1 r1 q1) he hpl
end
end L2

namespace HT
open PySem PyProof.Rows

def lexLt : List Int → List Int → Bool
  | [], [] => false
  | [], _ :: _ => true
  | _ :: _, [] => false
  | x :: xs, y :: ys => if x = y then lexLt xs ys else decide (x < y)
section
open PySem.SeqAt
open PySem.AutoSeq1 (wpAny_loadPart')
open PySem.MeetsSeq PySem.MeetsSeq2 PySem.MeetsSeq3

end

section
variable {prog : Program} {w : World} {A : Around} {E : Value → Shared → Prop} {s : Shared}

/-! ### t[a:b], not the whole -/
def sIx (n d : Nat) : Option Int → Nat
  | none => d
  | some v => if v < 0 then (v + (n : Int)).toNat else min v.toNat n
theorem sIx_le (n d : Nat) (hd : d ≤ n) (o : Option Int) : sIx n d o ≤ n := by
  cases o with
  | none => exact hd
  | some v =>
    show (if v < 0 then (v + (n : Int)).toNat else min v.toNat n) ≤ n
    by_cases hv : v < 0
    · rw [if_pos hv]; omega
    · rw [if_neg hv]; exact Nat.min_le_right _ _
theorem clip_eq (v : Int) (n d : Nat) : (if v < 0 then max (v + (n : Int)) 0 else min v (n : Int)) = ((sIx n d (some v) : Nat) : Int) := by
  show (if v < 0 then max (v + (n : Int)) 0 else min v (n : Int)) = (((if v < 0 then (v + (n : Int)).toNat else min v.toNat n) : Nat) : Int)
  by_cases hv : v < 0
  · simp only [if_pos hv]; omega
  · simp only [if_neg hv]; omega
theorem adjust_gen (lo hi : Option Int) (n : Nat) : Builtin.Slice.sliceAdjust lo hi 1 (n : Int) = (((sIx n 0 lo : Nat) : Int), ((sIx n n hi : Nat) : Int)) := by
  have h1 : ¬ ((1 : Int) < 0) := by omega
  unfold Builtin.Slice.sliceAdjust
  simp only [h1, if_false]
  refine Prod.ext ?_ ?_
  · cases lo with
    | none => rfl
    | some v => exact clip_eq v n 0
  · cases hi with
    | none => rfl
    | some v => exact clip_eq v n n
theorem places_gen (i j : Nat) : Builtin.Slice.slicePlaces (i : Int) (j : Int) 1 = j - i := by
  unfold Builtin.Slice.slicePlaces
  have h1 : (1 : Int) > 0 := by omega
  simp only [h1, if_true, Int.ediv_one]
  split <;> omega
theorem slicePart_ {v : Value} {o : Option Int} {Q : Option Int → Shared → Prop} (p : IsPart v o) (h : Q o s) : wpAny (model prog w) A (Builtin.Slice.slicePartIndex v) Q E s := by
  cases p with
  | none => exact slicePart_none h
  | int i t => exact slicePart_int h
theorem sliceApplied_gen {sl : Addr} {vl vu : Value} {lo hi : Option Int} {n : Nat} {Q : Int × Int × Nat → Shared → Prop} (hs : s.heap.IsSliceOf sl vl vu .none) (pl : IsPart vl lo) (pu : IsPart vu hi)
    (h : Q (((sIx n 0 lo : Nat) : Int), 1, sIx n n hi - sIx n 0 lo) s) : wpAny (model prog w) A (Builtin.Slice.sliceApplied (.ref sl) (pure (n : Int))) Q E s := by
  obtain ⟨os, hos, hcs, hds⟩ := id hs
  unfold Builtin.Slice.sliceApplied Builtin.Slice.sliceFields
  refine wpAny_bind (wpAny_bind (wpAny_field hos hds (x := vl) rfl (wpAny_bind (wpAny_field hos hds (x := vu) rfl (wpAny_bind (wpAny_field hos hds (x := .none) rfl (wpAny_pure ?_)))))))
  refine wpAny_bind (slicePart_none ?_)
  show wpAny _ _ (if ((1 : Int) == 0) = true then _ else _) _ _ s
  rw [if_neg (by decide)]
  refine wpAny_bind (slicePart_ pl (wpAny_bind (slicePart_ pu (wpAny_bind (wpAny_pure ?_)))))
  show wpAny _ _ (match Builtin.Slice.sliceAdjust lo hi 1 (n : Int) with | (lo, hi) => pure (lo, (1 : Int), Builtin.Slice.slicePlaces lo hi 1)) _ _ s
  rw [adjust_gen lo hi n]
  show wpAny _ _ (pure (((sIx n 0 lo : Nat) : Int), (1 : Int), Builtin.Slice.slicePlaces ((sIx n 0 lo : Nat) : Int) ((sIx n n hi : Nat) : Int) 1)) _ _ s
  rw [places_gen]
  exact wpAny_pure h
theorem pick_gen (xs : Array Value) (i k : Nat) : ((List.range k).filterMap fun (m : Nat) => xs[((i : Int) + (m : Int) * 1).toNat]?).toArray = ((xs.toList.drop i).take k).toArray := by
  have e : (fun (m : Nat) => xs[((i : Int) + (m : Int) * 1).toNat]?) = fun m => xs[i + m]? := by
    funext m
    have : ((i : Int) + (m : Int) * 1).toNat = i + m := by omega
    rw [this]
  rw [e]
  have := pick_run xs i k
  rw [List.filterMap_map] at this
  have e2 : ((fun x => xs[x]?) ∘ fun x => i + x) = fun m => xs[i + m]? := rfl
  rw [e2] at this
  rw [this]

theorem getItem_tuple_cut {t sl : Addr} {items : Array Value} {vl vu : Value} {lo hi : Option Int} {Q : Value → Shared → Prop} (ht : IsTup s.heap t items) (hs : s.heap.IsSliceOf sl vl vu .none) (pl : IsPart vl lo) (pu : IsPart vu hi)
    (hw : ¬ (sIx items.size 0 lo = 0 ∧ sIx items.size items.size hi = items.size))
    (h : Q (.ref s.heap.objs.size) { s with heap := s.heap.push { cls := .type "tuple", data := .seq ((items.toList.drop (sIx items.size 0 lo)).take (sIx items.size items.size hi - sIx items.size 0 lo)).toArray } })
    (hsz : items.size ≤ sizeLine) : wpAny (model prog w) A (getItem (.ref t) (.ref sl)) Q E s := by
  have htake : sizeOk (.seq ((items.toList.drop (sIx items.size 0 lo)).take (sIx items.size items.size hi - sIx items.size 0 lo)).toArray) := by
    show ((items.toList.drop (sIx items.size 0 lo)).take (sIx items.size items.size hi - sIx items.size 0 lo)).toArray.size ≤ sizeLine
    rw [List.size_toArray, List.length_take, List.length_drop, Array.length_toList]
    omega
  have hj : sIx items.size items.size hi ≤ items.size := sIx_le _ _ (Nat.le_refl _) hi
  obtain ⟨os, hos, hcs, hds⟩ := id hs
  have hTs : s.TypeIs (.ref sl) "slice" := ⟨os, hos, hcs⟩
  unfold getItem
  try with_reducible refine wpAny_holding ?_
  first | refine wpAny_bind (wpAny_pure ?_) | skip
  refine wpAny_bind (wpAny_sequenceKey ht.typeIs (by decide) ?_)
  refine wpAny_bind (wpAny_callSpecial?_slot (name := Str.ofString "__getitem__") ht.typeIs PyProof.Rows.slot_tuple_getitem
    (wpAny_call_entry PyProof.Rows.slot_tuple_getitem ht.typeIs entry_tuple_getitem ?_ (args_tuple_getitem _ _)))
  show wpAny _ _ (Builtin.Tuple.tupleItemsOf (.ref t) >>= _) _ _ s
  refine wpAny_bind (tupleItemsOf_ ht ?_)
  refine wpAny_bind (wpAny_typeOf hTs ?_)
  rw [if_pos (by decide)]
  refine wpAny_bind (sliceApplied_gen hs pl pu ?_)
  have hno : ¬ ((((sIx items.size 0 lo : Nat) : Int) == 0 && (1 : Int) == 1 && (sIx items.size items.size hi - sIx items.size 0 lo) == items.size) = true) := by
    intro q
    rw [Bool.and_eq_true, Bool.and_eq_true] at q
    have q1 : ((sIx items.size 0 lo : Nat) : Int) = 0 := eq_of_beq q.1.1
    have q2 : sIx items.size items.size hi - sIx items.size 0 lo = items.size := eq_of_beq q.2
    exact hw ⟨by omega, by omega⟩
  show wpAny _ _ (if (((sIx items.size 0 lo : Nat) : Int) == 0 && (1 : Int) == 1 && (sIx items.size items.size hi - sIx items.size 0 lo) == items.size) = true then _ else _) _ _ s
  rw [if_neg hno, pick_gen]
  first
    | exact wpAny_bind (m := Builtin.Tuple.tupleExact _) (wpAny_newObj_type (wpAny_pure ⟨_, rfl, wpAny_pure h⟩) htake)
    | exact wpAny_bind (m := Builtin.Tuple.tupleExact _) (wpAny_newObj_type (wpAny_bind (wpAny_pure (wpAny_pure ⟨_, rfl, wpAny_pure h⟩))) htake)
    | exact wpAny_bind (wpAny_bind (m := Builtin.Tuple.tupleExact _) (wpAny_newObj_type (wpAny_pure (wpAny_pure ⟨_, rfl, wpAny_pure h⟩)) htake))
    | exact wpAny_bind (wpAny_bind (m := Builtin.Tuple.tupleExact _) (wpAny_newObj_type (wpAny_pure ⟨_, rfl, wpAny_pure h⟩) htake))
end
end HT

namespace L2
open PySem PySem.Spec PyProof.Rows

/-! ### the parts of a slice -/
abbrev TO := St → Hp → (Option Int → Hp → Prop) → Prop
def PO (X : Cx) (e : Option Expr) (t : TO) : Prop :=
  ∀ (pins : List (Addr × Obj)) (s : Shared) (σ : St) (H : Hp) (Q : Option Int → Hp → Prop), Inv X pins σ H s → t σ H Q →
    wpAny (model X.prog X.w) X.A (evalPart e X.env) (fun u s' => ∃ o H', Inv X pins σ H' s' ∧ IsPart u o ∧ Q o H') X.xe s
def tNoPart : TO := fun _ H Q => Q none H
def tPart (t : TE) : TO := fun σ H Q => t σ H fun x H1 => ∃ i, x = .int i ∧ Q (some i) H1

section
variable {X : Cx} {e : Expr} {te : TE} {lo hi : Option Expr} {tl th : TO} {pos p2 : Pos}

theorem po_none : PO X none tNoPart := by
  intro pins s σ H Q I h
  rw [evalPart_none]
  exact wpAny_pure ⟨none, H, I, .none, h⟩
theorem po_some (h : PE X e te) : PO X (some e) (tPart te) := by
  intro pins s σ H Q I hw
  rw [evalPart_some]
  refine thn (h pins s σ H _ I hw) fun u s1 ⟨x, H1, I1, r1, q1⟩ => ?_
  obtain ⟨i, rfl, q⟩ := q1
  obtain ⟨t, rfl⟩ := r1
  exact ⟨some i, H1, I1, .int i t, q⟩

def SlR (X : Cx) (r : V → Option Int → Option Int → Hp → VK → Prop) : Prop :=
  ∀ (pins : List (Addr × Obj)) (s : Shared) (σ : St) (H : Hp) (x : V) (v vl vu : Value) (lo hi : Option Int) (sl : Addr) (Q : VK), Inv X pins σ H s → RelV x v → s.heap.IsSliceOf sl vl vu .none → IsPart vl lo → IsPart vu hi → r x lo hi H Q →
    ∃ T id, typeLookup (.type T) "__getitem__" = pure (some (.builtin id)) ∧ s.TypeIs v T ∧ wpAny (model X.prog X.w) X.A (getItem v (.ref sl)) (EP X pins σ Q) X.xe s
def tSl (r : V → Option Int → Option Int → Hp → VK → Prop) (te : TE) (tl th : TO) : TE := fun σ H Q => te σ H fun x H1 => tl σ H1 fun l H2 => th σ H2 fun u H3 => r x l u H3 Q
theorem pe_slice {r : V → Option Int → Option Int → Hp → VK → Prop} (hr : SlR X r) (he : PE X e te) (hl : PO X lo tl) (hu : PO X hi th) : PE X (.Subscript e (.Slice lo hi none p2) pos) (tSl r te tl th) := by
  intro pins s σ H Q I h
  refine Subscript_ (thn (he pins s σ H _ I h) fun v s1 ⟨x, H1, I1, r1, q1⟩ => ?_)
  refine wpAny_Slice (thn (hl pins s1 σ H1 _ I1 q1) fun vl s2 ⟨l, H2, I2, pl, q2⟩ => thn (hu pins s2 σ H2 _ I2 q2) fun vu s3 ⟨u, H3, I3, pu, q3⟩ => ?_)
  rw [evalPart_none]
  refine wpAny_pure ?_
  have I4 : Inv X pins σ H3 { s3 with heap := s3.heap.push { cls := .type "slice", data := .fields #[vl, vu, .none] } } := I3.kept (t' := s3.toks) fun b ob q => Heap.get?_push_of_some _ q
  obtain ⟨T, id, hT, ht, hg⟩ := hr pins { s3 with heap := s3.heap.push { cls := .type "slice", data := .fields #[vl, vu, .none] } } σ H3 x v vl vu l u s3.heap.objs.size Q I4 r1 (Heap.IsSliceOf.new ..) pl pu q3
  show wpAny (model X.prog X.w) X.A (subscriptTail e (.Slice lo hi none p2) v (.ref s3.heap.objs.size)) (EP X pins σ Q) X.xe { s3 with heap := s3.heap.push { cls := .type "slice", data := .fields #[vl, vu, .none] } }
  exact tail_any (ops := [.ref s3.heap.objs.size, v]) ht hT hg (by with_unfolding_all rfl)

def cutV (xs : List V) (lo hi : Option Int) : List V := (xs.drop (HT.sIx xs.length 0 lo)).take (HT.sIx xs.length xs.length hi - HT.sIx xs.length 0 lo)
theorem cutV_length (xs : List V) (lo hi : Option Int) : (cutV xs lo hi).length ≤ xs.length := by
  unfold cutV
  rw [List.length_take, List.length_drop]
  omega
def rSlT (K : PySem.W.Frag) : V → Option Int → Option Int → Hp → VK → Prop := fun x lo hi H Q => ∃ a xs, x = .ref a ∧ SqT K H a xs ∧
  ¬ (HT.sIx xs.length 0 lo = 0 ∧ HT.sIx xs.length xs.length hi = xs.length) ∧ ∀ p, H p = none → Q (.ref p) (upd H p (.tup (cutV xs lo hi)))
theorem sl_tup : SlR X (rSlT X.K) := by
  intro pins s σ H x v vl vu lo hi sl Q I rx hs pl pu h
  obtain ⟨a, xs, rfl, hx, hw, q⟩ := h
  cases rx
  obtain ⟨its, r, ht, hz⟩ := I.tuple hx
  have hlen : its.toArray.size = xs.length := by rw [List.size_toArray]; exact r.length.symm
  refine ⟨"tuple", _, PyProof.Rows.slot_tuple_getitem.lookup, ht.typeIs, ?_⟩
  refine HT.getItem_tuple_cut ht hs pl pu (by rw [hlen]; exact hw) ?_ (by rw [hlen]; exact hz)
  rw [hlen]
  refine ⟨.ref s.heap.objs.size, _, I.laid (t' := s.toks) (o := .tup (cutV xs lo hi)) (fun b ob q => Heap.get?_push_of_some _ q) (Nat.le_refl _) ?_, rfl, q _ (I.hok.fresh (Nat.le_refl _))⟩
  exact ⟨Nat.le_trans (cutV_length xs lo hi) hz, _, (r.drop (HT.sIx xs.length 0 lo)).take (HT.sIx xs.length xs.length hi - HT.sIx xs.length 0 lo), IsTup.new _ _⟩

/-! ### t < u, t + u -/
def rLtT (K : PySem.W.Frag) : R2 := fun x y H Q => ∃ a b ns ms, x = .ref a ∧ y = .ref b ∧ SqT K H a (ns.map V.int) ∧ SqT K H b (ms.map V.int) ∧ Q (.bl (HT.lexLt ns ms)) H
end
end L2

namespace L2
open PySem PySem.Spec PyProof.Rows

/-! ### places -/
def ixN (n : Nat) (i : Int) : Option Nat := if 0 ≤ i then (if i < n then some i.toNat else none) else if -(n : Int) ≤ i then some (i + n).toNat else none
def atI {α : Type} (xs : List α) (i : Int) : Option α := (ixN xs.length i).bind fun j => xs[j]?
theorem ixN_seq {n : Nat} {i : Int} {j : Nat} (h : ixN n i = some j) : seqIndex? i n = some j ∧ j < n ∧ -(n : Int) ≤ i ∧ i < n := by
  unfold ixN at h
  by_cases h0 : 0 ≤ i
  · rw [if_pos h0] at h
    by_cases h1 : i < n
    · rw [if_pos h1] at h
      have e : i.toNat = j := Option.some.inj h
      exact ⟨by rw [seqIndex_of h0 h1, e], by omega, by omega, h1⟩
    · rw [if_neg h1] at h; cases h
  · rw [if_neg h0] at h
    by_cases h1 : -(n : Int) ≤ i
    · rw [if_pos h1] at h
      have e : (i + n).toNat = j := Option.some.inj h
      exact ⟨by rw [seqIndex_neg (by omega) h1, e], by omega, h1, by omega⟩
    · rw [if_neg h1] at h; cases h
theorem atI_get {α : Type} {xs : List α} {i : Int} {v : α} (h : atI xs i = some v) : ∃ j, seqIndex? i xs.length = some j ∧ xs[j]? = some v ∧ j < xs.length ∧ -(xs.length : Int) ≤ i ∧ i < xs.length := by
  unfold atI at h
  cases e : ixN xs.length i with
  | none => rw [e] at h; cases h
  | some j =>
    rw [e] at h
    obtain ⟨h1, h2, h3, h4⟩ := ixN_seq e
    exact ⟨j, h1, h, h2, h3, h4⟩
theorem atI_nat {α : Type} {xs : List α} {j : Nat} {v : α} (h : xs[j]? = some v) : atI xs (j : Int) = some v := by
  have hj : j < xs.length := (List.getElem?_eq_some_iff.mp h).1
  have e : ixN xs.length (j : Int) = some j := by
    unfold ixN
    rw [if_pos (by omega), if_pos (by omega)]; simp
  unfold atI; rw [e]; exact h
/-! ### what may be subscripted -/
def PlainIx (b : Expr) : Prop := ∀ o i, subscripted b false o i = operate [o, i] (getItem o i)
def IxR (X : Cx) (r : R2) : Prop :=
  ∀ (value slice : Expr) (pins : List (Addr × Obj)) (s : Shared) (σ : St) (H : Hp) (x y : V) (v u : Value) (Q : VK), Inv X pins σ H s → RelV x v → RelV y u → r x y H Q →
    subscripted slice false v u = operate [v, u] (getItem v u) → wpAny (model X.prog X.w) X.A (subscriptTail value slice v u) (EP X pins σ Q) X.xe s
def MtR (X : Cx) (id : String) (r : V → List V → Hp → VK → Prop) : Prop :=
  ∀ (pins : List (Addr × Obj)) (s : Shared) (σ : St) (H : Hp) (x : V) (xs : List V) (v : Value) (us : List Value) (Q : VK), Inv X pins σ H s → RelV x v → Vals xs us → r x xs H Q →
    wpAny (model X.prog X.w) X.A (call (.builtin id) (v :: us)) (EP X pins σ Q) X.xe s
section
variable {X : Cx} {a b : Expr} {ta tb : TE} {pos : Pos}
theorem pe_ix {r : R2} (hr : IxR X r) (ha : PE X a ta) (hb : PE X b tb) (hs : PlainIx b) : PE X (.Subscript a b pos) (tOp r ta tb) := by
  intro pins s σ H Q I h
  exact Subscript_ (binT ha hb I h fun v u s2 x y H2 I2 rx ry q => hr a b pins s2 σ H2 x y v u Q I2 rx ry q (hs _ _))

def rIxL (K : PySem.W.Frag) : R2 := fun x y H Q => ∃ p xs i v, x = .ref p ∧ y = .int i ∧ SqL K H p xs ∧ atI xs i = some v ∧ Q v H
def rIxT (K : PySem.W.Frag) : R2 := fun x y H Q => ∃ p xs i v, x = .ref p ∧ y = .int i ∧ SqT K H p xs ∧ atI xs i = some v ∧ Q v H
def rIxS : R2 := fun x y H Q => ∃ z i c, x = .str z ∧ y = .int i ∧ z.length ≤ sizeLine ∧ atI z.cps.toList i = some c ∧ Q (.str ⟨#[c]⟩) H
theorem ix_list : IxR X (rIxL X.K) := by
  intro value slice pins s σ H x y v u Q I rx ry h hs
  obtain ⟨p, xs, i, z, rfl, rfl, hq, he, q⟩ := h
  cases rx
  obtain ⟨t, rfl⟩ := ry
  obtain ⟨its, r, pl, hz⟩ := I.list hq
  obtain ⟨j, h1, h2, h3, h4, h5⟩ := atI_get he
  obtain ⟨w, ew, rw'⟩ := r.get h2
  have hl := r.length
  have hn := line63
  have fin : EP X pins σ Q w s := ⟨z, H, I, rw', q⟩
  by_cases h0 : 0 ≤ i
  · have hj : i.toNat = j := by
      rw [seqIndex_of h0 h5] at h1
      exact Option.some.inj h1
    exact item_listR pl.isList h0 (by omega) (by rw [hj]; simpa using ew) fin hs
  · have hj : (i + (its.toArray.size : Int)).toNat = j := by
      rw [seqIndex_neg (by omega) h4] at h1
      rw [List.size_toArray, ← hl]
      exact Option.some.inj h1
    exact subscriptTail_builtinR (x := w) pl.isList.typeIs slot_list_getitem.lookup
      (wpAny_getItem_list_neg (Q := fun r s' => r = w ∧ EP X pins σ Q r s') pl.isList (by omega) (by rw [List.size_toArray] <;> omega) (by omega) (by rw [hj]; simpa using ew) ⟨rfl, fin⟩) hs
theorem ix_tup : IxR X (rIxT X.K) := by
  intro value slice pins s σ H x y v u Q I rx ry h hs
  obtain ⟨p, xs, i, z, rfl, rfl, hq, he, q⟩ := h
  cases rx
  obtain ⟨t, rfl⟩ := ry
  obtain ⟨its, r, pl, hz⟩ := I.tuple hq
  obtain ⟨j, h1, h2, h3, h4, h5⟩ := atI_get he
  obtain ⟨w, ew, rw'⟩ := r.get h2
  have hl := r.length
  have hn := line63
  have fin : EP X pins σ Q w s := ⟨z, H, I, rw', q⟩
  exact subscriptTail_builtinR (x := w) pl.typeIs slot_tuple_getitem.lookup
    (getItem_tuple (j := j) (Q := fun r s' => r = w ∧ EP X pins σ Q r s') pl (by omega) (by omega) (by rw [List.size_toArray, ← hl]; exact h1) (by simpa using ew) ⟨rfl, fin⟩) hs
/-! ### xs[i] = v, any sign -/
theorem Inv.lst {pins : List (Addr × Obj)} {σ : St} {H : Hp} {s : Shared} {p : Addr} {xs : List V} (I : Inv X pins σ H s) (h : H p = some (.lst xs)) :
    ∃ (its : List Value) (n : Nat), Vals xs its ∧ s.heap.get? p = some { cls := .type "list", data := .seq its.toArray n } ∧ xs.length ≤ sizeLine := by
  obtain ⟨z, its, n, r, e⟩ := I.hok p _ h
  exact ⟨its, n, r, e, z⟩
/-! ### slices -/
theorem slice_bounds (lo hi : Option Int) (n : Nat) : (sliceBounds lo hi none n).1 = ((HT.sIx n 0 lo : Nat) : Int) ∧ (sliceBounds lo hi none n).2.1 = ((HT.sIx n n hi : Nat) : Int) ∧ (sliceBounds lo hi none n).2.2 = 1 := by
  refine ⟨?_, ?_, rfl⟩
  · cases lo with
    | none => simp [sliceBounds, HT.sIx]
    | some i =>
      simp only [sliceBounds, HT.sIx, Option.getD_none, show (1 : Int) > 0 by decide, if_true]
      by_cases h : i < 0
      · simp only [h, if_true] <;> omega
      · simp only [h, if_false] <;> omega
  · cases hi with
    | none => simp [sliceBounds, HT.sIx]
    | some i =>
      simp only [sliceBounds, HT.sIx, Option.getD_none, show (1 : Int) > 0 by decide, if_true]
      by_cases h : i < 0
      · simp only [h, if_true] <;> omega
      · simp only [h, if_false] <;> omega
theorem slicePick_cut (its : List Value) (lo hi : Option Int) : slicePick its.toArray lo hi none = ((its.drop (HT.sIx its.length 0 lo)).take (HT.sIx its.length its.length hi - HT.sIx its.length 0 lo)).toArray := by
  obtain ⟨h1, h2, h3⟩ := slice_bounds lo hi its.toArray.size
  unfold slicePick
  rw [h1, h2, h3]
  simp only [sliceRange_one, pick_run, List.size_toArray] <;> rfl
def rSlL (K : PySem.W.Frag) : V → Option Int → Option Int → Hp → VK → Prop := fun x lo hi H Q => ∃ a xs, x = .ref a ∧ SqL K H a xs ∧ ∀ p, H p = none → Q (.ref p) (upd H p (.lst (cutV xs lo hi)))
theorem sl_list : SlR X (rSlL X.K) := by
  intro pins s σ H x v vl vu lo hi sl Q I rx hs pl pu h
  obtain ⟨a, xs, rfl, hx, q⟩ := h
  cases rx
  obtain ⟨its, r, ht, hz⟩ := I.list hx
  have hlen := r.length
  refine ⟨"list", _, slot_list_getitem.lookup, ht.isList.typeIs, ?_⟩
  refine wpAny_getItem_list_slice ht.isList hs pl pu .none (by simp) ?_ (by rw [List.size_toArray] <;> omega)
  rw [slicePick_cut, ← hlen]
  refine ⟨.ref s.heap.objs.size, _, I.laid (t' := s.toks) (o := .lst (cutV xs lo hi)) (fun b ob q => Heap.get?_push_of_some _ q) (Nat.le_refl _) ?_, rfl, q _ (I.hok.fresh (Nat.le_refl _))⟩
  exact ⟨Nat.le_trans (cutV_length xs lo hi) hz, _, 0, (r.drop (HT.sIx xs.length 0 lo)).take (HT.sIx xs.length xs.length hi - HT.sIx xs.length 0 lo), Heap.get?_push_size _ rfl⟩

/-! ### in, not in: flat items -/
def flatV : V → Bool
  | .non => true
  | .bl _ => true
  | .int _ => true
  | .str _ => true
  | _ => false
def eqV : V → V → Bool
  | .non, .non => true
  | .bl a, .bl b => a == b
  | .bl a, .int b => (if a then 1 else 0) == b
  | .int a, .bl b => a == (if b then 1 else 0)
  | .int a, .int b => a == b
  | .str a, .str b => a == b
  | _, _ => false
theorem eqAt_V {A : Around} {s : Shared} {y x : V} {u v : Value} (ry : RelV y u) (rx : RelV x v) (fy : flatV y = true) (fx : flatV x = true) : SeqAt.EqAt A s u v (eqV y x) := by
  cases y with
  | non =>
    cases ry
    cases x with
    | non => cases rx; exact SeqAt.EqAt.same _
    | bl b => cases rx; exact SeqAt.EqAt.none_bool b
    | int b => obtain ⟨t, rfl⟩ := rx; exact SeqAt.EqAt.none_int b t
    | str b => obtain ⟨t, rfl⟩ := rx; exact SeqAt.EqAt.none_str b t
    | _ => exact absurd (show false = true from fx) Bool.false_ne_true
  | bl a =>
    cases ry
    cases x with
    | non => cases rx; exact SeqAt.EqAt.bool_none a
    | bl b => cases rx; exact SeqAt.EqAt.bool_bool a b
    | int b => obtain ⟨t, rfl⟩ := rx; exact SeqAt.EqAt.bool_int a b t
    | str b => obtain ⟨t, rfl⟩ := rx; exact SeqAt.EqAt.bool_str a b t
    | _ => exact absurd (show false = true from fx) Bool.false_ne_true
  | int a =>
    obtain ⟨t', rfl⟩ := ry
    cases x with
    | non => cases rx; exact SeqAt.EqAt.int_none a t'
    | bl b => cases rx; exact SeqAt.EqAt.int_bool a t' b
    | int b => obtain ⟨t, rfl⟩ := rx; exact SeqAt.EqAt.int_int a t' b t
    | str b => obtain ⟨t, rfl⟩ := rx; exact SeqAt.EqAt.int_str a t' b t
    | _ => exact absurd (show false = true from fx) Bool.false_ne_true
  | str a =>
    obtain ⟨t', rfl⟩ := ry
    cases x with
    | non => cases rx; exact SeqAt.EqAt.str_none a t'
    | bl b => cases rx; exact SeqAt.EqAt.str_bool a t' b
    | int b => obtain ⟨t, rfl⟩ := rx; exact SeqAt.EqAt.str_int a t' b t
    | str b => obtain ⟨t, rfl⟩ := rx; exact SeqAt.EqAt.str_str a t' b t
    | _ => exact absurd (show false = true from fx) Bool.false_ne_true
  | _ => exact absurd (show false = true from fy) Bool.false_ne_true
def eqU (x : V) (u : Value) : Bool := match u with
  | .none => eqV .non x
  | .bool b => eqV (.bl b) x
  | .int i _ => eqV (.int i) x
  | .str z _ => eqV (.str z) x
  | _ => false
theorem eqU_of {x y : V} {u : Value} (r : RelV y u) (f : flatV y = true) : eqU x u = eqV y x := by
  cases y with
  | non => cases r; rfl
  | bl b => cases r; rfl
  | int i => obtain ⟨t, rfl⟩ := r; rfl
  | str z => obtain ⟨t, rfl⟩ := r; rfl
  | _ => exact absurd (show false = true from f) Bool.false_ne_true
theorem any_eqU {x : V} : ∀ {xs : List V} {us : List Value}, Vals xs us → xs.all flatV = true → us.any (eqU x) = xs.any fun y => eqV y x
  | _, _, .nil, _ => rfl
  | y :: xs, u :: us, .cons r t, f => by
    rw [List.all_cons, Bool.and_eq_true] at f
    rw [List.any_cons, List.any_cons, eqU_of r f.1, any_eqU t f.2]
theorem mem_eqAt {A : Around} {s : Shared} {x : V} {v : Value} (rx : RelV x v) (fx : flatV x = true) : ∀ {xs : List V} {us : List Value}, Vals xs us → xs.all flatV = true → ∀ u ∈ us, SeqAt.EqAt A s u v (eqU x u)
  | _, _, .nil, _ => fun u hu => by cases hu
  | y :: xs, u :: us, .cons r t, f => fun u' hu => by
    rw [List.all_cons, Bool.and_eq_true] at f
    rcases List.mem_cons.mp hu with rfl | hu
    · rw [eqU_of r f.1]; exact eqAt_V r rx f.1 fx
    · exact mem_eqAt rx fx t f.2 u' hu
def inV (x : V) (xs : List V) : Bool := xs.any fun y => eqV y x
def rIn (K : PySem.W.Frag) (neg : Bool) : R2 := fun x y H Q => ∃ p xs, y = .ref p ∧ (SqL K H p xs ∨ SqT K H p xs) ∧ flatV x = true ∧ xs.all flatV = true ∧ Q (.bl (if neg then !inV x xs else inV x xs)) H
theorem op_in_seq : OpR X (compareOp .In) (rIn X.K false) := by
  intro pins s σ H x y v u Q I rx ry h
  obtain ⟨p, xs, rfl, hq, fx, fs, q⟩ := h
  cases ry
  rcases hq with hq | hq
  · obtain ⟨its, r, pl, hz⟩ := I.list hq
    refine SeqAt.in_listAt (eqU x) pl.isList (fun w hw => mem_eqAt rx fx r fs w (by simpa using hw)) ⟨.bl _, H, I, rfl, ?_⟩
    rw [show its.toArray.any (eqU x) = its.any (eqU x) by simp, any_eqU r fs]
    exact q
  · obtain ⟨its, r, pl, hz⟩ := I.tuple hq
    refine SeqAt.in_tupleAt (eqU x) pl (fun w hw => mem_eqAt rx fx r fs w (by simpa using hw)) ⟨.bl _, H, I, rfl, ?_⟩
    rw [show its.toArray.any (eqU x) = its.any (eqU x) by simp, any_eqU r fs]
    exact q
theorem op_notIn_seq : OpR X (compareOp .NotIn) (rIn X.K true) := by
  intro pins s σ H x y v u Q I rx ry h
  obtain ⟨p, xs, rfl, hq, fx, fs, q⟩ := h
  cases ry
  rcases hq with hq | hq
  · obtain ⟨its, r, pl, hz⟩ := I.list hq
    refine SeqAt.notIn_listAt (eqU x) pl.isList (fun w hw => mem_eqAt rx fx r fs w (by simpa using hw)) ⟨.bl _, H, I, rfl, ?_⟩
    rw [show its.toArray.any (eqU x) = its.any (eqU x) by simp, any_eqU r fs]
    exact q
  · obtain ⟨its, r, pl, hz⟩ := I.tuple hq
    refine SeqAt.notIn_tupleAt (eqU x) pl (fun w hw => mem_eqAt rx fx r fs w (by simpa using hw)) ⟨.bl _, H, I, rfl, ?_⟩
    rw [show its.toArray.any (eqU x) = its.any (eqU x) by simp, any_eqU r fs]
    exact q
/-! ### len, list(x), tuple(x) of any list or tuple that is read -/
theorem call_len_seq : CallR X (.builtin "len") (fun xs H Q => ∃ p ys, xs = [.ref p] ∧ (SqL X.K H p ys ∨ SqT X.K H p ys) ∧ Q (.int ys.length) H) := by
  intro pins s σ H xs us Q I r h
  obtain ⟨p, ys, rfl, hq, q⟩ := h
  obtain ⟨u, rfl, rx⟩ := vals1 r
  cases rx
  have hn := line63
  rcases hq with hq | hq
  · obtain ⟨its, r', pl, hz⟩ := I.list hq
    have hlen := r'.length
    exact Calls.call_len_list pl.isList (by simp only [List.size_toArray] <;> omega) ⟨.int ys.length, H, I.tok _, ⟨s.toks + 1, by rw [List.size_toArray, hlen]⟩, q⟩
  · obtain ⟨its, r', pl, hz⟩ := I.tuple hq
    have hlen := r'.length
    exact len_tuple pl (by simp only [List.size_toArray] <;> omega) ⟨.int ys.length, H, I.tok _, ⟨s.toks + 1, by rw [List.size_toArray, hlen]⟩, q⟩
theorem call_list_of : CallR X (.type "list") (fun xs H Q => ∃ p ys, xs = [.ref p] ∧ (SqL X.K H p ys ∨ SqT X.K H p ys) ∧ ∀ l, H l = none → Q (.ref l) (upd H l (.lst ys))) := by
  intro pins s σ H xs us Q I r h
  obtain ⟨p, ys, rfl, hq, q⟩ := h
  obtain ⟨u, rfl, rx⟩ := vals1 r
  cases rx
  have fin : ∀ (its : List Value), Vals ys its → ys.length ≤ sizeLine → ∀ (h' : Heap) (c' : Nat), (∀ b o', s.heap.get? b = some o' → h'.get? b = some o') →
      h'.get? s.heap.objs.size = some { cls := .type "list", dict := none, data := .seq its.toArray c', slots := #[] } → EP X pins σ Q (.ref s.heap.objs.size) { s with heap := h' } := fun its r' hz h' c' kp e =>
    ⟨.ref s.heap.objs.size, _, I.laid (t' := s.toks) kp (Nat.le_refl _) (show ObjOk X.prog X.w _ h' _ (.lst ys) from ⟨hz, its, c', r', e⟩), rfl, q _ (I.hok.fresh (Nat.le_refl _))⟩
  rcases hq with hq | hq
  · obtain ⟨its, r', pl, hz⟩ := I.list hq
    have hlen := r'.length
    obtain ⟨o, ho, hc, n, hd⟩ := pl.isList
    exact call_list_seq p (.inl rfl) ho hc hd (fun h' c' kp e => fin its r' hz h' c' kp e) (by simp only [List.size_toArray] <;> omega)
  · obtain ⟨its, r', pl, hz⟩ := I.tuple hq
    have hlen := r'.length
    obtain ⟨o, ho, hc, n, hd⟩ := pl
    exact call_list_seq p (.inr rfl) ho hc hd (fun h' c' kp e => fin its r' hz h' c' kp e) (by simp only [List.size_toArray] <;> omega)
/-! ### the call of a builtin's method: o.m(..) -/
def tyV (K : PySem.W.Frag) (T : String) (x : V) (H : Hp) : Prop := match x with
  | .str _ => T = "str"
  | .int _ => T = "int"
  | .ref p => (T = "list" ∧ ∃ xs, SqL K H p xs) ∨ (T = "tuple" ∧ ∃ o, K.lookup p = some o ∧ o.cls = .type "tuple" ∧ o.dict = none) ∨
      (T = "dict" ∧ ((∃ kvs, H p = some (.dK kvs)) ∨ ∃ kvs, H p = some (.dT kvs))) ∨ (T = "set" ∧ ∃ S n, H p = some (.set S n))
  | _ => False
theorem tyV_is {pins : List (Addr × Obj)} {σ : St} {H : Hp} {s : Shared} {T : String} {x : V} {v : Value} (I : Inv X pins σ H s) (r : RelV x v) (ty : tyV X.K T x H) :
    s.TypeIs v T ∧ ∀ a, v = .ref a → ∃ ob, s.heap.get? a = some ob ∧ ob.dict = none := by
  cases x with
  | str z =>
    obtain ⟨t, rfl⟩ := r
    cases (show T = "str" from ty)
    exact ⟨typeIs_str s z t, fun _ e => nomatch e⟩
  | int i =>
    obtain ⟨t, rfl⟩ := r
    cases (show T = "int" from ty)
    exact ⟨typeIs_int s i t, fun _ e => nomatch e⟩
  | ref p =>
    cases r
    rcases ty with ⟨rfl, xs, hq⟩ | ⟨rfl, o, hk, hc, hd⟩ | ⟨rfl, hk⟩ | ⟨rfl, S, n, hk⟩
    · obtain ⟨its, _, pl, _⟩ := I.list hq
      refine ⟨pl.isList.typeIs, fun a e => ?_⟩
      cases e
      obtain ⟨o, n, e, c, hd, _⟩ := pl
      exact ⟨o, e, hd⟩
    · refine ⟨⟨o, I.kIn p o hk, hc⟩, fun a e => ?_⟩
      cases e
      exact ⟨o, I.kIn _ o hk, hd⟩
    · have z : ∃ o, s.heap.get? p = some o ∧ o.ExactDict := by
        rcases hk with ⟨kvs, hk⟩ | ⟨kvs, hk⟩
        · obtain ⟨_, _, _, _, o, _, _, e, ex, _⟩ := I.hok p _ hk
          exact ⟨o, e, ex⟩
        · obtain ⟨_, _, _, _, o, _, _, e, ex, _⟩ := I.hok p _ hk
          exact ⟨o, e, ex⟩
      obtain ⟨o, e, ex⟩ := z
      refine ⟨⟨o, e, ex.1⟩, fun a e2 => ?_⟩
      cases e2
      exact ⟨o, e, ex.2.1⟩
    · obtain ⟨o, _, _, _, e, ex, _⟩ := I.hok p _ hk
      refine ⟨⟨o, e, ex.1⟩, fun a e2 => ?_⟩
      cases e2
      exact ⟨o, e, ex.2.1⟩
  | _ => exact False.elim ty
def tBM0 (K : PySem.W.Frag) (T : String) (r : V → List V → Hp → VK → Prop) (to : TE) : TE := fun σ H Q => to σ H fun x H1 => tyV K T x H1 ∧ r x [] H1 Q
def tBM (K : PySem.W.Frag) (T : String) (r : V → List V → Hp → VK → Prop) (to : TE) (t : TA) : TE := fun σ H Q => to σ H fun x H1 => tyV K T x H1 ∧ t σ H1 fun xs H2 => r x xs H2 Q
variable {o e : Expr} {es : List Expr} {to : TE} {t : TA} {name : Str} {apos cpos : Pos} {T id : String} {r : V → List V → Hp → VK → Prop}
theorem pe_bm0 (pa : PlainAttrs T) (slot : Slot T name id) (hty : typeOf (.builtin id) = pure (.type "method_descriptor")) (hm : MtR X id r) (ho : PE X o to)
    (hbase : attributeBase o name X.env (eval o X.env) = eval o X.env := by rfl) (hline : (apos.endLine == cpos.line) = true := by rfl) : PE X (.Call (.Attribute o name apos) [] [] cpos) (tBM0 X.K T r to) := by
  intro pins s σ H Q I h
  refine wpAny_Call_method0_late hbase hline (thn (ho pins s σ H _ I h) fun v s1 ⟨x, H1, I1, r1, ty, q1⟩ => ?_)
  obtain ⟨h1, h2⟩ := tyV_is I1 r1 ty
  exact ⟨T, id, pa, slot, hty, h1, h2, Calls.callWith_builtin rfl (PySem.evalArgs_none (hm pins s1 σ H1 x [] v [] Q I1 r1 .nil q1))⟩
theorem pe_bm (pa : PlainAttrs T) (slot : Slot T name id) (hty : typeOf (.builtin id) = pure (.type "method_descriptor")) (hm : MtR X id r) (ho : PE X o to) (ha : PA X (e :: es) t)
    (hbase : attributeBase o name X.env (eval o X.env) = eval o X.env := by rfl)
    (hfew : ((backTo cpos (starEach (e :: es) X.env)).all (fun x => !x.1) && (backToKw cpos (keywordEach [] X.env)).all (fun x => x.1.isSome)
      && decide ((e :: es).length + ([] : List Keyword).length + (if ([] : List Keyword).isEmpty then 0 else 1) < 30)) = true := by rfl)
    (hline : (apos.endLine == cpos.line) = true := by rfl) (hs : starEach (e :: es) X.env = (false, eval e X.env) :: starEach es X.env := by rfl) (hplain : (backTo cpos (starEach es X.env)).any (·.1) = false := by rfl) :
    PE X (.Call (.Attribute o name apos) (e :: es) [] cpos) (tBM X.K T r to t) := by
  intro pins s σ H Q I h
  refine wpAny_Call_method_late hbase hfew hline rfl (thn (ho pins s σ H _ I h) fun v s1 ⟨x, H1, I1, r1, ty, q1⟩ => ?_)
  obtain ⟨h1, h2⟩ := tyV_is I1 r1 ty
  refine ⟨T, id, pa, slot, hty, h1, h2, ?_⟩
  have hA := ha cpos pins s1 σ H1 _ I1 q1
  rw [hs] at hA ⊢
  refine Calls.callWith_builtin (by show (false || (backTo cpos (starEach es X.env)).any (·.1)) = false; rw [hplain] <;> rfl) (Calls.evalArgs_plain ?_)
  exact thn hA fun us s2 ⟨vs, H2, I2, r2, q2⟩ => hm pins s2 σ H2 x vs v us Q I2 r1 r2 q2
/- xs.append(e), list.index on a module's tuple .. are MtR facts of 06m -/
end
end L2

namespace L2
open PySem PySem.Spec PyProof.Rows

def MtM (X : Cx) (id : String) (r : V → List V → Hp → VK → Prop) : Prop :=
  ∀ (pins : List (Addr × Obj)) (s : Shared) (σ : St) (H : Hp) (x : V) (xs : List V) (v : Value) (us : List Value) (Q : VK), Inv X pins σ H s → RelV x v → Vals xs us → r x xs H Q →
    wpAny (model X.prog X.w) X.A (call (.builtin id) (v :: us)) (EP X pins σ Q) X.xe s

/-! ### lists of values -/
theorem Vals.one : ∀ {x : V} {us : List Value}, Vals [x] us → ∃ u, us = [u] ∧ RelV x u
  | _, _, .cons r .nil => ⟨_, rfl, r⟩
theorem Vals.two : ∀ {x y : V} {us : List Value}, Vals [x, y] us → ∃ u v, us = [u, v] ∧ RelV x u ∧ RelV y v
  | _, _, _, .cons r (.cons q .nil) => ⟨_, _, rfl, r, q⟩
theorem Vals.zero : ∀ {us : List Value}, Vals [] us → us = []
  | _, .nil => rfl
theorem Vals.dropLast {xs : List V} {us : List Value} (h : Vals xs us) : Vals xs.dropLast us.dropLast := by
  induction h with
  | nil => exact .nil
  | cons r t ih =>
    cases t with
    | nil => exact .nil
    | cons q t' => exact .cons r ih
theorem Vals.eraseIdx : ∀ {xs : List V} {us : List Value} (i : Nat), Vals xs us → Vals (xs.eraseIdx i) (us.eraseIdx i)
  | _, _, _, .nil => .nil
  | _, _, 0, .cons _ t => t
  | _, _, i + 1, .cons r t => .cons r (Vals.eraseIdx i t)
theorem Vals.reverse {xs : List V} {us : List Value} (h : Vals xs us) : Vals xs.reverse us.reverse := by
  induction h with
  | nil => exact .nil
  | cons r t ih => rw [List.reverse_cons, List.reverse_cons]; exact Vals.append ih (.cons r .nil)
theorem erase_last {α : Type} (l : List α) : l.eraseIdx (l.length - 1) = l.dropLast := by
  induction l with
  | nil => rfl
  | cons a r ih =>
    cases r with
    | nil => rfl
    | cons b r =>
      have e : (a :: b :: r).length - 1 = ((b :: r).length - 1) + 1 := by
        have h1 : (a :: b :: r).length = r.length + 2 := rfl
        have h2 : (b :: r).length = r.length + 1 := rfl
        omega
      rw [e, List.eraseIdx_cons_succ, ih]
      all_goals rfl
theorem len_erase {α : Type} : ∀ (l : List α) (i : Nat), (l.eraseIdx i).length ≤ l.length
  | [], _ => Nat.le_refl _
  | _ :: _, 0 => Nat.le_succ _
  | _ :: r, i + 1 => Nat.succ_le_succ (len_erase r i)
section
variable {X : Cx} {pins : List (Addr × Obj)} {σ : St} {H : Hp} {s : Shared} {l b : Addr} {xs ys zs : List V}

/-! ### the two steps: a tracked list is rewritten, a new list is laid -/
theorem Inv.lset {its its' : List Value} {n : Nat} {f : Array Value → Array Value} {t' : Nat} (I : Inv X pins σ H s) (hH : H l = some (.lst xs))
    (e : s.heap.get? l = some { cls := .type "list", data := .seq its.toArray n }) (hf : f its.toArray = its'.toArray) (hv : Vals ys its') (hz : ys.length ≤ sizeLine) :
    Inv X pins σ (upd H l (.lst ys)) { s with heap := s.heap.update l (Obj.mapSeq f), toks := t' } := by
  have q := PySem.IsL.update e f
  rw [hf] at q
  refine I.write (x := l) (e := l) (by rw [hH]; exact trivial) (.inl rfl) (fun b' u hb hu => (Heap.get?_update_other s.heap (Obj.mapSeq f) (Ne.symm hb)).trans hu) ⟨_, q⟩ ?_
  exact ⟨hz, its', _, hv, q⟩
theorem Inv.lnew {its : List Value} {t' : Nat} (I : Inv X pins σ H s) (hv : Vals ys its) (hz : ys.length ≤ sizeLine) :
    Inv X pins σ (upd H s.heap.objs.size (.lst ys)) { s with heap := s.heap.push { cls := .type "list", data := .seq its.toArray }, toks := t' } :=
  I.laid (fun _ _ q => Heap.get?_push_of_some _ q) (Nat.le_refl _) ⟨hz, its, 0, hv, Heap.get?_push_size _ rfl⟩
theorem Inv.fresh (I : Inv X pins σ H s) : H s.heap.objs.size = none := I.hok.fresh (Nat.le_refl _)
theorem Inv.lstM (I : Inv X pins σ H s) (hH : H l = some (.lst xs)) : xs.length ≤ sizeLine ∧ ∃ (its : List Value) (n : Nat), Vals xs its ∧ xs.length = its.length ∧ s.heap.get? l = some { cls := .type "list", data := .seq its.toArray n } := by
  obtain ⟨z, its, n, r, e⟩ := I.hok l _ hH
  exact ⟨z, its, n, r, r.length, e⟩

end

section
variable {X : Cx}

/-! ### methods -/
def rAppend : V → List V → Hp → VK → Prop := fun x vs H Q => ∃ l xs y, x = .ref l ∧ vs = [y] ∧ H l = some (.lst xs) ∧ xs.length < sizeLine ∧ Q .non (upd H l (.lst (xs ++ [y])))
theorem mt_append : MtM X "list.append" rAppend := by
  intro pins s σ H x vs v us Q I rx rv h
  obtain ⟨l, xs, y, rfl, rfl, hH, hz, q⟩ := h
  cases rx
  obtain ⟨u, rfl, ru⟩ := rv.one
  obtain ⟨z, its, n, r, hl, e⟩ := I.lstM hH
  refine call_meets F.slot_list_append ⟨_, e, rfl⟩ F.entry_list_append (F.args_list_append_2 _ _) (PySem.list_append l its.toArray n u (by rw [List.size_toArray]; omega)) ⟨e, ?_⟩
  refine ⟨.non, _, I.lset (its' := its ++ [u]) hH e (by simp) (r.append (.cons ru .nil)) ?_, rfl, q⟩
  rw [List.length_append, List.length_singleton]
  omega

def rPop : V → List V → Hp → VK → Prop := fun x vs H Q => ∃ l xs y, x = .ref l ∧ vs = [] ∧ H l = some (.lst xs) ∧ xs[xs.length - 1]? = some y ∧ Q y (upd H l (.lst xs.dropLast))
theorem mt_pop : MtM X "list.pop" rPop := by
  intro pins s σ H x vs v us Q I rx rv h
  obtain ⟨l, xs, y, rfl, rfl, hH, hy, q⟩ := h
  cases rx
  have hus := rv.zero
  subst hus
  obtain ⟨z, its, n, r, hl, e⟩ := I.lstM hH
  obtain ⟨u, hu, ru⟩ := r.get hy
  have hy' : its.toArray[its.toArray.size - 1]? = some u := by
    show its.toArray[its.length - 1]? = some u
    rw [← Array.getElem?_toList, ← hl]
    exact hu
  refine call_meets F.slot_list_pop ⟨_, e, rfl⟩ F.entry_list_pop (F.args_list_pop_1 _) (MeetsSeq.list_pop_last l its.toArray n u hy' (by rw [List.size_toArray]; omega)) ⟨e, ?_⟩
  refine ⟨y, _, I.lset (its' := its.dropLast) hH e ?_ r.dropLast ?_, ru, q⟩
  · show its.toArray.eraseIdxIfInBounds (its.toArray.size - 1) = its.dropLast.toArray
    rw [List.size_toArray, List.eraseIdxIfInBounds_toArray, erase_last]
  · rw [List.length_dropLast]
    omega

def rPopAt : V → List V → Hp → VK → Prop := fun x vs H Q => ∃ l xs i k y, x = .ref l ∧ vs = [.int i] ∧ H l = some (.lst xs) ∧ -(2 ^ 63) ≤ i ∧ i < 2 ^ 63 ∧ seqIndex? i xs.length = some k ∧ xs[k]? = some y ∧ Q y (upd H l (.lst (xs.eraseIdx k)))
theorem mt_popAt : MtM X "list.pop" rPopAt := by
  intro pins s σ H x vs v us Q I rx rv h
  obtain ⟨l, xs, i, k, y, rfl, rfl, hH, h1, h2, hk, hy, q⟩ := h
  cases rx
  obtain ⟨u, rfl, ru⟩ := rv.one
  obtain ⟨t, rfl⟩ := ru
  obtain ⟨z, its, n, r, hl, e⟩ := I.lstM hH
  obtain ⟨w, hw, rw'⟩ := r.get hy
  refine call_meets F.slot_list_pop ⟨_, e, rfl⟩ F.entry_list_pop (F.args_list_pop_2 _ _)
    (MeetsSeq.list_pop_at l its.toArray n i t k w (fitsIndex_both h1 h2) (by rw [List.size_toArray, ← hl]; exact hk) (by rw [← Array.getElem?_toList]; exact hw) (by rw [List.size_toArray]; omega)) ⟨e, ?_⟩
  refine ⟨y, _, I.lset (its' := its.eraseIdx k) hH e ?_ (r.eraseIdx k) ?_, rw', q⟩
  · show its.toArray.eraseIdxIfInBounds k = (its.eraseIdx k).toArray
    rw [List.eraseIdxIfInBounds_toArray]
  · have := len_erase xs k
    omega

/-! ### list + list, list += list, list * int -/
def rCat : R2 := fun x y H Q => ∃ l b xs zs, x = .ref l ∧ y = .ref b ∧ H l = some (.lst xs) ∧ H b = some (.lst zs) ∧ xs.length + zs.length ≤ sizeLine ∧ ∀ p, H p = none → Q (.ref p) (upd H p (.lst (xs ++ zs)))
theorem op_cat : OpR X (binaryOp .Add) rCat := by
  intro pins s σ H x y v u Q I rx ry h
  obtain ⟨l, b, xs, zs, rfl, rfl, hH, hB, hz, q⟩ := h
  cases rx
  cases ry
  obtain ⟨z, its, n, r, hl, e⟩ := I.lstM hH
  obtain ⟨z2, its2, n2, r2, hl2, e2⟩ := I.lstM hB
  refine PySem.P.add_list e e2 ?_ (by rw [List.size_toArray, List.size_toArray]; omega)
  have ea : its.toArray ++ its2.toArray = (its ++ its2).toArray := by simp
  rw [ea]
  exact ⟨.ref _, _, I.lnew (t' := s.toks) (r.append r2) (by rw [List.length_append]; omega), rfl, q _ I.fresh⟩
/-! ### del xs[i] -/
end

/-! ### xs[a:b] = ys -/
section
variable {prog : Program} {w : World} {A : Around} {E : Value → Shared → Prop} {s : Shared}
end

section
variable {X : Cx}
end
end L2

namespace L2
open PySem PySem.Spec PyProof.Rows

/-! ### lists of pairs as tables -/
section
variable {κ : Type} [DecidableEq κ]
def valV (kvs : List (κ × V)) (k : κ) : Option V := (kvs.find? fun kv => decide (kv.1 = k)).map (·.2)
def putK (kvs : List (κ × V)) (k : κ) (v : V) : List (κ × V) :=
  if (kvs.any fun kv => decide (kv.1 = k)) = true then kvs.map (fun kv => if kv.1 = k then (kv.1, v) else kv) else kvs ++ [(k, v)]
def dropK (kvs : List (κ × V)) (k : κ) : List (κ × V) := kvs.filter fun kv => decide (kv.1 ≠ k)

theorem valV_pos {p : κ × V} {r : List (κ × V)} {k : κ} (e : p.1 = k) : valV (p :: r) k = some p.2 := by simp [valV, List.find?_cons, e]
theorem valV_neg {p : κ × V} {r : List (κ × V)} {k : κ} (e : ¬ p.1 = k) : valV (p :: r) k = valV r k := by simp [valV, List.find?_cons, e]
theorem valV_any (k : κ) : ∀ kvs : List (κ × V), (kvs.any fun kv => decide (kv.1 = k)) = (valV kvs k).isSome
  | [] => rfl
  | p :: r => by
    rw [List.any_cons]
    by_cases e : p.1 = k
    · simp only [valV_pos e, decide_eq_true e, Bool.true_or, Option.isSome_some]
    · rw [valV_neg e, decide_eq_false e, Bool.false_or]; exact valV_any k r
theorem length_putK (kvs : List (κ × V)) (k : κ) (v : V) : (putK kvs k v).length ≤ kvs.length + 1 := by
  unfold putK
  split
  · rw [List.length_map]; omega
  · rw [List.length_append, List.length_cons, List.length_nil]; omega
theorem RelO.isSome_eq {o : Option V} {u : Option Value} (r : RelO o u) : o.isSome = u.isSome := by
  cases o with
  | none => cases u with
    | none => rfl
    | some _ => exact (show False from r).elim
  | some _ => cases u with
    | none => exact (show False from r).elim
    | some _ => rfl
theorem RelO.getD {o : Option V} {u : Option Value} {d : V} {d' : Value} (r : RelO o u) (rd : RelV d d') : RelV (o.getD d) (u.getD d') := by
  cases o with
  | none => cases u with
    | none => exact rd
    | some _ => exact (show False from r).elim
  | some _ => cases u with
    | none => exact (show False from r).elim
    | some _ => exact r

theorem KV.val {kvs : List (κ × V)} {vs : List (κ × Value)} (r : KV kvs vs) (k : κ) : RelO (valV kvs k) (valueAt vs k) := by
  unfold KV at r
  induction r with
  | nil => exact True.intro
  | @cons p q ps qs h t ih =>
    obtain ⟨h1, h2⟩ := h
    by_cases e : p.1 = k
    · have e' : q.1 = k := h1.symm.trans e
      have b : valueAt (q :: qs) k = some q.2 := by simp [valueAt, List.find?_cons, e']
      rw [valV_pos e, b]; exact h2
    · have e' : ¬ q.1 = k := fun z => e (h1.trans z)
      have b : valueAt (q :: qs) k = valueAt qs k := by simp [valueAt, List.find?_cons, e']
      rw [valV_neg e, b]; exact ih
theorem KV.any {kvs : List (κ × V)} {vs : List (κ × Value)} (r : KV kvs vs) (k : κ) : (kvs.any fun kv => decide (kv.1 = k)) = vs.any fun kv => decide (kv.1 = k) := by
  unfold KV at r
  induction r with
  | nil => rfl
  | cons h t ih => rw [List.any_cons, List.any_cons, ih, h.1]
theorem KV.repl {kvs : List (κ × V)} {vs : List (κ × Value)} (r : KV kvs vs) (k : κ) {y : V} {u : Value} (ry : RelV y u) :
    KV (kvs.map fun kv => if kv.1 = k then (kv.1, y) else kv) (vs.map fun kv => if kv.1 = k then (kv.1, u) else kv) := by
  unfold KV at r ⊢
  induction r with
  | nil => exact .nil
  | @cons p q ps qs h t ih =>
    rw [List.map_cons, List.map_cons]
    refine .cons ?_ ih
    obtain ⟨h1, h2⟩ := h
    by_cases e : p.1 = k
    · rw [if_pos e, if_pos (h1.symm.trans e)]; exact ⟨h1, ry⟩
    · rw [if_neg e, if_neg (fun z => e (h1.trans z))]; exact ⟨h1, h2⟩
theorem KV.put {kvs : List (κ × V)} {vs : List (κ × Value)} (r : KV kvs vs) (k : κ) {y : V} {u : Value} (ry : RelV y u) : KV (putK kvs k y) (stored vs k u) := by
  unfold putK stored
  rw [r.any k]
  by_cases e : (vs.any fun kv => decide (kv.1 = k)) = true
  · rw [if_pos e, if_pos e]; exact r.repl k ry
  · rw [if_neg e, if_neg e]; exact Paired.snoc r ⟨rfl, ry⟩
theorem KV.drop {kvs : List (κ × V)} {vs : List (κ × Value)} (r : KV kvs vs) (k : κ) : KV (dropK kvs k) (without vs k) := by
  unfold KV at r ⊢
  unfold dropK without
  induction r with
  | nil => exact .nil
  | @cons p q ps qs h t ih =>
    obtain ⟨h1, h2⟩ := h
    rw [List.filter_cons, List.filter_cons]
    by_cases e : p.1 = k
    · have a : ¬ decide (p.1 ≠ k) = true := by simp [e]
      have b : ¬ decide (q.1 ≠ k) = true := by simp [h1.symm.trans e]
      rw [if_neg a, if_neg b]; exact ih
    · have e' : ¬ q.1 = k := fun z => e (h1.trans z)
      have a : decide (p.1 ≠ k) = true := by simp [e]
      have b : decide (q.1 ≠ k) = true := by simp [e']
      rw [if_pos a, if_pos b]; exact .cons ⟨h1, h2⟩ ih
theorem KV.keys {kvs : List (κ × V)} {vs : List (κ × Value)} (r : KV kvs vs) : kvs.map (·.1) = vs.map (·.1) := by
  unfold KV at r
  induction r with
  | nil => rfl
  | cons h t ih => rw [List.map_cons, List.map_cons, ih, h.1]
theorem KV.length {kvs : List (κ × V)} {vs : List (κ × Value)} (r : KV kvs vs) : kvs.length = vs.length := Paired.length r
theorem dropK_le (kvs : List (κ × V)) (k : κ) : (dropK kvs k).length ≤ kvs.length := List.length_filter_le _ _
end

/-! ### a tracked dict, its keys ints and texts or tuples of these -/
theorem kV_is {P : Program} {w : World} {k : Key} {u : Value} (r : RelV (kV k) u) : (mixKind P w).is k u = true := by
  cases k with
  | inl i => obtain ⟨t, e⟩ := (show ∃ t, u = Value.int i t from r); subst e; exact mixKind_int P w i t
  | inr x => obtain ⟨t, e⟩ := (show ∃ t, u = Value.str x t from r); subst e; exact mixKind_str P w x t
theorem items_are {P : Program} {w : World} : ∀ {ks : List Key} {us : List Value}, Vals (ks.map kV) us → ItemsAre (mixKind P w) ks us
  | [], _, r => by rw [List.map_nil] at r; cases r; exact .nil
  | k :: ks, _, r => by
    rw [List.map_cons] at r
    cases r with
    | cons h t => exact .cons (kV_is h) (items_are t)

abbrev KT (H : Hp) : List (List Key × V) → List (List Key × Addr × Value) → Prop := Paired fun p q => p.1 = q.1 ∧ H q.2.1 = some (.tup (p.1.map kV)) ∧ RelV p.2 q.2.2
theorem KT.val {H : Hp} {kvs : List (List Key × V)} {xs : List (List Key × Addr × Value)} (r : KT H kvs xs) (k : List Key) : RelO (valV kvs k) ((atKey xs k).map (·.2)) := by
  induction r with
  | nil => exact True.intro
  | @cons p q ps qs h t ih =>
    obtain ⟨h1, _, h2⟩ := h
    by_cases e : p.1 = k
    · have e' : q.1 = k := h1.symm.trans e
      have b : atKey (q :: qs) k = some q.2 := by simp [atKey, List.find?_cons, e']
      rw [valV_pos e, b]; exact h2
    · have e' : ¬ q.1 = k := fun z => e (h1.trans z)
      have b : atKey (q :: qs) k = atKey qs k := by simp [atKey, List.find?_cons, e']
      rw [valV_neg e, b]; exact ih
theorem KT.repl {H : Hp} {kvs : List (List Key × V)} {xs : List (List Key × Addr × Value)} (r : KT H kvs xs) (k : List Key) {y : V} {u : Value} (ry : RelV y u) :
    KT H (kvs.map fun kv => if kv.1 = k then (kv.1, y) else kv) (xs.map (putAt k u)) := by
  induction r with
  | nil => exact .nil
  | @cons p q ps qs h t ih =>
    rw [List.map_cons, List.map_cons]
    refine .cons ?_ ih
    obtain ⟨h1, h2, h3⟩ := h
    unfold putAt
    by_cases e : p.1 = k
    · rw [if_pos e, if_pos (h1.symm.trans e)]; exact ⟨h1, h2, ry⟩
    · rw [if_neg e, if_neg (fun z => e (h1.trans z))]; exact ⟨h1, h2, h3⟩
theorem KT.put {H : Hp} {kvs : List (List Key × V)} {xs : List (List Key × Addr × Value)} (r : KT H kvs xs) (k : List Key) {b : Addr} {y : V} {u : Value} (hb : H b = some (.tup (k.map kV))) (ry : RelV y u) :
    KT H (putK kvs k y) (storedH xs k b u) := by
  have e : (kvs.any fun kv => decide (kv.1 = k)) = (atKey xs k).isSome := by
    rw [valV_any, (r.val k).isSome_eq, Option.isSome_map]
  unfold putK storedH
  rw [e]
  by_cases q : (atKey xs k).isSome = true
  · rw [if_pos q, if_pos q]; exact r.repl k ry
  · rw [if_neg q, if_neg q]; exact Paired.snoc r ⟨rfl, hb, ry⟩
theorem KT.keeps {H H' : Hp} {kvs : List (List Key × V)} {xs : List (List Key × Addr × Value)} (r : KT H kvs xs) (ht : ∀ b ys, H b = some (.tup ys) → H' b = some (.tup ys)) : KT H' kvs xs :=
  Paired.mapP r fun _ _ z => ⟨z.1, ht _ _ z.2.1, z.2.2⟩

section
variable {P : Program} {w : World} {H : Hp} {h : Heap} {a : Addr}
theorem rd_of {u : HO} (ok : HOk P w H h) (e : Rd H a u) : ObjOk P w H h a u := e.ok ok
theorem dk_rd {kvs : List (Key × V)} (ok : HOk P w H h) (e : Rd H a (.dK kvs)) : kvs.length ≤ sizeLine ∧ (a == sysModules) = false ∧ ∃ vs, KV kvs vs ∧ h.DictOf (mixKind P w) a vs :=
  show ObjOk P w H h a (.dK kvs) from rd_of ok e
theorem dk_of {kvs : List (Key × V)} (ok : HOk P w H h) (e : H a = some (.dK kvs)) : kvs.length ≤ sizeLine ∧ (a == sysModules) = false ∧ ∃ vs, KV kvs vs ∧ h.DictOf (mixKind P w) a vs := dk_rd ok (.inl e)
theorem key_of {ks : List Key} (ok : HOk P w H h) (e : H a = some (.tup (ks.map kV))) : (tupleKind (mixKind P w)).is h ks a := by
  obtain ⟨_, its, r, o, h1, h2, n, h3⟩ := (show ObjOk P w H h a (.tup (ks.map kV)) from ok a _ e)
  exact ⟨o, its.toArray, n, h1, h2, h3, by simpa using items_are r⟩
theorem dt_rd {kvs : List (List Key × V)} (ok : HOk P w H h) (e : Rd H a (.dT kvs)) : kvs.length ≤ sizeLine ∧ (a == sysModules) = false ∧
    ∃ xs, KT H kvs xs ∧ h.DictOfH (tupleKind (mixKind P w)) a xs := by
  obtain ⟨z, y, xs, r, o, es, ep, h1, h2, h3, h4, h5⟩ := (show ObjOk P w H h a (.dT kvs) from rd_of ok e)
  refine ⟨z, y, xs, r, o, es, ep, h1, h2, h3, h4, fun x hx => ?_, h5⟩
  have all : ∀ {l : List (List Key × V)} {m : List (List Key × Addr × Value)}, KT H l m → ∀ x ∈ m, (tupleKind (mixKind P w)).is h x.1 x.2.1 := by
    intro l m q
    induction q with
    | nil => intro x hx; exact nomatch hx
    | @cons p q ps qs hq t ih =>
      intro x hx
      rcases List.mem_cons.mp hx with e | hx
      · subst e
        exact key_of ok (by rw [← hq.1]; exact hq.2.1)
      · exact ih x hx
  exact all r x hx
theorem dt_of {kvs : List (List Key × V)} (ok : HOk P w H h) (e : H a = some (.dT kvs)) : kvs.length ≤ sizeLine ∧ (a == sysModules) = false ∧
    ∃ xs, KT H kvs xs ∧ h.DictOfH (tupleKind (mixKind P w)) a xs := dt_rd ok (.inl e)
end

def DGet (H : Hp) (a : Addr) (y : V) (r : Option V) : Prop :=
  (∃ kvs k, Rd H a (.dK kvs) ∧ y = kV k ∧ r = valV kvs k) ∨ ∃ kvs k b, Rd H a (.dT kvs) ∧ y = .ref b ∧ H b = some (.tup (k.map kV)) ∧ r = valV kvs k
def DPut (H : Hp) (a : Addr) (y v : V) (H' : Hp) : Prop :=
  (∃ kvs k, H a = some (.dK kvs) ∧ y = kV k ∧ kvs.length < sizeLine ∧ H' = upd H a (.dK (putK kvs k v))) ∨
  ∃ kvs k b, H a = some (.dT kvs) ∧ y = .ref b ∧ H b = some (.tup (k.map kV)) ∧ kvs.length < sizeLine ∧ H' = upd H a (.dT (putK kvs k v))
theorem DGet.k {H : Hp} {a : Addr} {kvs : List (Key × V)} {k : Key} (e : H a = some (.dK kvs)) : DGet H a (kV k) (valV kvs k) := .inl ⟨kvs, k, .inl e, rfl, rfl⟩
theorem DGet.t {H : Hp} {a b : Addr} {kvs : List (List Key × V)} {k : List Key} (e : H a = some (.dT kvs)) (eb : H b = some (.tup (k.map kV))) : DGet H a (.ref b) (valV kvs k) := .inr ⟨kvs, k, b, .inl e, rfl, eb, rfl⟩
theorem DPut.k {H : Hp} {a : Addr} {kvs : List (Key × V)} {k : Key} {v : V} (e : H a = some (.dK kvs)) (hl : kvs.length < sizeLine) : DPut H a (kV k) v (upd H a (.dK (putK kvs k v))) := .inl ⟨kvs, k, e, rfl, hl, rfl⟩
theorem DPut.t {H : Hp} {a b : Addr} {kvs : List (List Key × V)} {k : List Key} {v : V} (e : H a = some (.dT kvs)) (eb : H b = some (.tup (k.map kV))) (hl : kvs.length < sizeLine) :
    DPut H a (.ref b) v (upd H a (.dT (putK kvs k v))) := .inr ⟨kvs, k, b, e, rfl, eb, hl, rfl⟩

section
variable {X : Cx} {pins : List (Addr × Obj)} {σ : St} {H : Hp} {s : Shared} {a : Addr} {y v : V} {u r : Value} {o : Option V} {A : Around} {E : Value → Shared → Prop}

theorem Inv.big (I : Inv X pins σ H s) : sysModules < s.heap.objs.size := by
  have h : mainGlobals < s.heap.objs.size := (I.mod.glob.keeps I.bk).lt
  exact Nat.lt_trans (by decide) h

theorem d_getItem {Q : Value → Shared → Prop} (hu : A.units + 1 < cLine) (I : Inv X pins σ H s) (g : DGet H a y (some v)) (ry : RelV y u) (h : ∀ w' s', Inv X pins σ H s' → RelV v w' → Q w' s') :
    wpAny (model X.prog X.w) A (getItem (.ref a) u) Q E s := by
  rcases g with ⟨kvs, k, e, ey, l⟩ | ⟨kvs, k, b, e, ey, eb, l⟩
  · subst ey
    obtain ⟨z, hd, vs, rel, dd⟩ := dk_rd I.hok e
    obtain ⟨w', hw, rw'⟩ := RelO.some_of (v := v) (o := valueAt vs k) (by rw [l]; exact rel.val k)
    exact wpAny_getItem_of (kV_is ry) dd.mapOf hw (h w' _ (I.tok _) rw')
  · subst ey
    cases (show u = Value.ref b from ry)
    obtain ⟨z, hd, xs, rel, dd⟩ := dt_rd I.hok e
    obtain ⟨w', hw, rw'⟩ := RelO.some_of (v := v) (o := (atKey xs k).map (·.2)) (by rw [l]; exact rel.val k)
    obtain ⟨p, hp, hp2⟩ := Option.map_eq_some_iff.mp hw
    refine wpAny_getItem_heap (tupleKind_room_in1 hu) (key_of I.hok eb) dd hp ?_
    rw [hp2]
    exact h w' _ (I.tok _) rw'
theorem d_in {Q : Value → Shared → Prop} (hu : A.units + 1 < cLine) (I : Inv X pins σ H s) (g : DGet H a y o) (ry : RelV y u) (h : ∀ s', Inv X pins σ H s' → Q (.bool o.isSome) s') :
    wpAny (model X.prog X.w) A (compareOp .In u (.ref a)) Q E s := by
  rcases g with ⟨kvs, k, e, ey, l⟩ | ⟨kvs, k, b, e, ey, eb, l⟩
  · subst ey
    obtain ⟨z, hd, vs, rel, dd⟩ := dk_rd I.hok e
    refine wpAny_in_of (kV_is ry) hd dd.mapOf ?_
    rw [← (rel.val k).isSome_eq, ← l]
    exact h _ (I.tok _)
  · subst ey
    cases (show u = Value.ref b from ry)
    obtain ⟨z, hd, xs, rel, dd⟩ := dt_rd I.hok e
    refine wpAny_in_heap (tupleKind_room_in1 hu) (key_of I.hok eb) hd dd ?_
    have q := (rel.val k).isSome_eq
    rw [Option.isSome_map] at q
    rw [← q, ← l]
    exact h _ (I.tok _)
theorem d_write {h' : Heap} {t' : Nat} {ob : HO} (I : Inv X pins σ H s) (mu : Mut (H a)) (hs : Heap.SameBut a s.heap h') (he : ∃ q, h'.get? a = some q) (new : ObjOk X.prog X.w (upd H a ob) h' a ob) :
    Inv X pins σ (upd H a ob) { s with heap := h', toks := t' } :=
  I.write (x := a) (e := a) mu (.inl rfl) (fun b q hb z => (hs.2 b hb).trans z) he new
theorem dk_new {P : Program} {w : World} {H' : Hp} {h' : Heap} {kvs : List (Key × V)} {vs : List (Key × Value)} (z : kvs.length ≤ sizeLine) (hd : (a == sysModules) = false) (rel : KV kvs vs) (dd : h'.DictOf (mixKind P w) a vs) :
    ObjOk P w H' h' a (.dK kvs) := ⟨z, hd, vs, rel, dd⟩
theorem d_setItem {H' : Hp} {Q : Unit → Shared → Prop} (hu : A.units + 1 < cLine) (I : Inv X pins σ H s) (g : DPut H a y v H') (ry : RelV y u) (rv : RelV v r) (h : ∀ s', Inv X pins σ H' s' → Q () s') :
    wpAny (model X.prog X.w) A (setItem (.ref a) u r) Q E s := by
  rcases g with ⟨kvs, k, e, ey, l, eH⟩ | ⟨kvs, k, b, e, ey, eb, l, eH⟩
  · subst ey eH
    obtain ⟨z, hd, vs, rel, dd⟩ := dk_of I.hok e
    have hz : vs.length ≤ sizeLine := by rw [← rel.length]; exact z
    have hl : (putK kvs k v).length ≤ sizeLine := by have := length_putK kvs k v; omega
    refine wpAny_setItem_pairs (hsz := hz) (kV_is ry) dd fun h' dd' hs => h _ ?_
    have he : ∃ q, h'.get? a = some q := let ⟨q, _, _, hq, _⟩ := dd'; ⟨q, hq⟩
    exact d_write I (by rw [e]; exact True.intro) hs he (dk_new hl hd (rel.put k rv) dd')
  · subst ey eH
    cases (show u = Value.ref b from ry)
    obtain ⟨z, hd, xs, rel, dd⟩ := dt_of I.hok e
    have hz : xs.length ≤ sizeLine := by rw [← Paired.length rel]; exact z
    have hl : (putK kvs k v).length ≤ sizeLine := by have := length_putK kvs k v; omega
    refine wpAny_setItem_heap (hsz := hz) (tupleKind_room_in1 hu) (key_of I.hok eb) dd fun h' dd' hs => h _ ?_
    obtain ⟨q, es, ep, hq, h2, h3, h4, _, h5⟩ := dd'
    refine d_write I (by rw [e]; exact True.intro) hs ⟨q, hq⟩ ⟨hl, hd, _, (rel.put k eb rv).keeps fun c ys ec => ?_, q, es, ep, hq, h2, h3, h4, h5⟩
    rw [upd_ne (ne_of ec e (fun z => nomatch z))]
    exact ec
end

section
variable {X : Cx} {pins : List (Addr × Obj)} {σ : St} {H : Hp} {s : Shared} {a : Addr} {kvs : List (Key × V)} {k : Key} {u : Value} {A : Around} {E : Value → Shared → Prop}
theorem d_pop {v : V} {more : List Value} {Q : Value → Shared → Prop} (I : Inv X pins σ H s) (e : H a = some (.dK kvs)) (ry : RelV (kV k) u) (l : valV kvs k = some v) (hm : more = [] ∨ ∃ x, more = [x])
    (h : ∀ w' s', Inv X pins σ (upd H a (.dK (dropK kvs k))) s' → RelV v w' → Q w' s') : wpAny (model X.prog X.w) A (call (.builtin "dict.pop") (.ref a :: u :: more)) Q E s := by
  obtain ⟨z, hd, vs, rel, dd⟩ := dk_of I.hok e
  obtain ⟨w', hw, rw'⟩ := RelO.some_of (v := v) (o := valueAt vs k) (by rw [← l]; exact rel.val k)
  have hp : (keyPart u).isSome = true := by
    cases k with
    | inl i => obtain ⟨t, q⟩ := (show ∃ t, u = Value.int i t from ry); subst q; rfl
    | inr x => obtain ⟨t, q⟩ := (show ∃ t, u = Value.str x t from ry); subst q; rfl
  have ha : argsOk "dict.pop" ⟨.ref a :: u :: more, []⟩ := by
    rcases hm with q | ⟨x, q⟩
    · subst q; exact PySem.F.args_dict_pop_2 _ _
    · subst q; exact PySem.F.args_dict_pop_3 _ _ _
  refine call_meetsIn PySem.F.slot_dict_pop dd.typeIs PySem.F.entry_dict_pop ha (meets_dict_pop_there (mixKind X.prog X.w) a (kV_is ry) more hm hp)
    ⟨vs, w', dd, by rw [← rel.length]; exact z, hw, fun h' dd' hs => h w' _ ?_ rw'⟩
  have he : ∃ q, h'.get? a = some q := let ⟨q, _, _, hq, _⟩ := dd'; ⟨q, hq⟩
  exact d_write I (by rw [e]; exact True.intro) hs he (dk_new (Nat.le_trans (dropK_le kvs k) z) hd (rel.drop k) dd')
theorem d_len {Q : Value → Shared → Prop} (I : Inv X pins σ H s) (e : Rd H a (.dK kvs)) (h : ∀ t s', Inv X pins σ H s' → Q (.int kvs.length t) s') : wpAny (model X.prog X.w) A (call (.builtin "len") [.ref a]) Q E s := by
  obtain ⟨z, hd, vs, rel, dd⟩ := dk_rd I.hok e
  refine call_len_dict hd dd (by rw [← rel.length]; rw [sizeLine_eq] at z; omega) ?_
  rw [← rel.length]
  exact h _ _ (I.tok _)
end

/-! ### readings and rules -/
def NoSl (i : Expr) : Prop := ∀ ov iv, subscripted i false ov iv = operate [ov, iv] (getItem ov iv)
theorem subD_of {prog : Program} {w : World} {A : Around} {E : Value → Shared → Prop} {s : Shared} {env : Env} {value slice : Expr} {pos : Pos} {T id : String} {Q : Value → Shared → Prop}
    (hl : typeLookup (.type T) "__getitem__" = pure (some (.builtin id))) (hs : NoSl slice)
    (h : wpAny (model prog w) A (eval value env) (fun o s₁ => wpAny (model prog w) A (eval slice env) (fun i s₂ => s₂.TypeIs o T ∧ wpAny (model prog w) A (getItem o i) Q E s₂) E s₁) E s) :
    wpAny (model prog w) A (eval (.Subscript value slice pos) env) Q E s := by
  refine Subscript_ (wpAny_mono h (fun o s₁ h₁ => wpAny_mono h₁ (fun i s₂ h₂ => ?_) fun _ _ x => x) fun _ _ x => x)
  obtain ⟨hT, h₂⟩ := h₂
  unfold subscriptTail
  refine wpAny_bind ?_
  rw [getitemInPython_of_ne hT.not_modules]
  refine wpAny_bind (wpAny_specialOf hT hl ?_)
  have fin : wpAny (model prog w) A (subscripted slice false o i) (fun r s₃ => wpAny (model prog w) A (letTemporaryGo value o r >>= fun _ => pure r) Q E s₃) E s₂ := by
    rw [hs o i]
    exact wpAny_operating (wpAny_mono h₂ (fun r s₃ h₃ => wpAny_bind (wpAny_letTemporaryGo (wpAny_pure h₃))) fun _ _ x => x)
  first
    | exact wpAny_pure (wpAny_bind fin)
    | exact wpAny_bind (wpAny_pure (wpAny_bind fin))
    | exact wpAny_bind fin

theorem dict_typeIs {X : Cx} {pins : List (Addr × Obj)} {σ : St} {H : Hp} {s : Shared} {a : Addr} {y : V} {o : Option V} (I : Inv X pins σ H s) (g : DGet H a y o) : s.TypeIs (.ref a) "dict" := by
  rcases g with ⟨kvs, k, e, _, _⟩ | ⟨kvs, k, b, e, _, _, _⟩
  · obtain ⟨_, _, vs, _, dd⟩ := dk_rd I.hok e
    exact dd.typeIs
  · obtain ⟨_, _, xs, _, dd⟩ := dt_rd I.hok e
    exact dd.typeIs
section
variable {X : Cx} {o i e value : Expr} {pos pos' tpos : Pos} {td ty tv : TE}
end

/-! ### displays -/
theorem dk_empty {P : Program} {w : World} {H : Hp} (h : Heap) (hb : sysModules < h.objs.size) : ObjOk P w H (h.push { cls := .type "dict", data := .dict #[] }) h.objs.size (.dK []) :=
  ⟨Nat.zero_le _, beq_eq_false_iff_ne.mpr (Ne.symm (Nat.ne_of_lt hb)), [], .nil, Heap.DictOf.new h⟩
def tDNewK : TE := fun _ H Q => ∀ p, H p = none → Q (.ref p) (upd H p (.dK []))
section
variable {X : Cx} {pos : Pos}
theorem pe_dnewK : PE X (.Dict [] [] pos) tDNewK := fun pins s σ H Q I h =>
  wpAny_Dict_empty ⟨.ref s.heap.objs.size, _, I.laid (a := s.heap.objs.size) (o := .dK []) (t' := s.toks) (fun _ _ q => Heap.get?_push_of_some _ q) (Nat.le_refl _) (dk_empty s.heap I.big), rfl, h _ (I.hok.fresh (Nat.le_refl _))⟩
end

def tPairs : List (TE × TE) → St → Hp → (List (V × V) → Hp → Prop) → Prop
  | [], _, H, Q => Q [] H
  | (tk, tv) :: r, σ, H, Q => tk σ H fun x H1 => tv σ H1 fun y H2 => tPairs r σ H2 fun ps H3 => Q ((x, y) :: ps) H3
abbrev VV : List (V × V) → List (Value × Value) → Prop := Paired fun p q => RelV p.1 q.1 ∧ RelV p.2 q.2
def PPs (X : Cx) (pos : Pos) (keys : List (Option Expr)) (values : List Expr) (trs : List (TE × TE)) : Prop :=
  ∀ (pins : List (Addr × Obj)) (s : Shared) (σ : St) (H : Hp) (Q : List (V × V) → Hp → Prop), Inv X pins σ H s → tPairs trs σ H Q →
    wpAny (model X.prog X.w) X.A (evalPairs (pairTrees keys values X.env pos)) (fun vs s' => ∃ ps H', Inv X pins σ H' s' ∧ VV ps vs ∧ Q ps H') X.xe s
def mergeK (kvs more : List (Key × V)) : List (Key × V) := more.foldl (fun acc kv => putK acc kv.1 kv.2) kvs
/-! ### methods -/
structure M1 (X : Cx) (o : Expr) (m : Str) (apos : Pos) (e : Expr) (cpos : Pos) : Prop where
  base : attributeBase o m X.env (eval o X.env) = eval o X.env
  few : ((backTo cpos (starEach [e] X.env)).all (fun x => !x.1) && (backToKw cpos (keywordEach [] X.env)).all (fun x => x.1.isSome)
    && decide (([e] : List Expr).length + ([] : List Keyword).length + (if ([] : List Keyword).isEmpty then 0 else 1) < 30)) = true
  line : (apos.endLine == cpos.line) = true
  trees : backTo cpos (starEach [e] X.env) = [(false, eval e X.env)]
structure M2 (X : Cx) (o : Expr) (m : Str) (apos : Pos) (e f : Expr) (cpos : Pos) : Prop where
  base : attributeBase o m X.env (eval o X.env) = eval o X.env
  few : ((backTo cpos (starEach [e, f] X.env)).all (fun x => !x.1) && (backToKw cpos (keywordEach [] X.env)).all (fun x => x.1.isSome)
    && decide (([e, f] : List Expr).length + ([] : List Keyword).length + (if ([] : List Keyword).isEmpty then 0 else 1) < 30)) = true
  line : (apos.endLine == cpos.line) = true
  trees : backTo cpos (starEach [e, f] X.env) = [(false, eval e X.env), (false, eval f X.env)]

def IsD (H : Hp) (a : Addr) : Prop := (∃ kvs, Rd H a (.dK kvs)) ∨ ∃ kvs, Rd H a (.dT kvs)
theorem isD_at {X : Cx} {pins : List (Addr × Obj)} {σ : St} {H : Hp} {s : Shared} {a : Addr} (I : Inv X pins σ H s) (d : IsD H a) :
    s.TypeIs (.ref a) "dict" ∧ (∀ b, Value.ref a = .ref b → ∃ ob, s.heap.get? b = some ob ∧ ob.dict = none) ∧ (a == sysModules) = false := by
  rcases d with ⟨kvs, e⟩ | ⟨kvs, e⟩
  · obtain ⟨_, hd, vs, _, dd⟩ := dk_rd I.hok e
    refine ⟨dd.typeIs, fun b q => ?_, hd⟩
    cases q
    obtain ⟨ob, _, _, h1, h2, _⟩ := dd
    exact ⟨ob, h1, h2.2.1⟩
  · obtain ⟨_, hd, xs, _, dd⟩ := dt_rd I.hok e
    refine ⟨dd.typeIs, fun b q => ?_, hd⟩
    cases q
    obtain ⟨ob, _, _, h1, h2, _⟩ := dd
    exact ⟨ob, h1, h2.2.1⟩

section
variable {X : Cx} {pins : List (Addr × Obj)} {σ : St} {H : Hp} {s : Shared} {a : Addr} {y d : V} {u r : Value} {o : Option V} {A : Around} {E : Value → Shared → Prop}
theorem d_get2 {Q : Value → Shared → Prop} (hu : A.units + 1 < cLine) (I : Inv X pins σ H s) (g : DGet H a y o) (ry : RelV y u) (rd : RelV d r) (h : ∀ w' s', Inv X pins σ H s' → RelV (o.getD d) w' → Q w' s') :
    wpAny (model X.prog X.w) A (call (.builtin "dict.get") [.ref a, u, r]) Q E s := by
  rcases g with ⟨kvs, k, e, ey, l⟩ | ⟨kvs, k, b, e, ey, eb, l⟩
  · subst ey
    obtain ⟨z, hd, vs, rel, dd⟩ := dk_rd I.hok e
    refine call_meetsIn PySem.F.slot_dict_get dd.typeIs PySem.F.entry_dict_get (PySem.F.args_dict_get_3 _ _ _) (meets_dict_get_default (mixKind X.prog X.w) a (kV_is ry) hd r) ⟨_, dd.mapOf, h _ _ (I.tok _) ?_⟩
    rw [l]
    exact (rel.val k).getD rd
  · subst ey
    cases (show u = Value.ref b from ry)
    obtain ⟨z, hd, xs, rel, dd⟩ := dt_rd I.hok e
    refine call_meetsIn PySem.F.slot_dict_get dd.typeIs PySem.F.entry_dict_get (PySem.F.args_dict_get_3 _ _ _) (meetsH_dict_get_default (tupleKind (mixKind X.prog X.w)) a b hd r) ⟨tupleKind_room_in1 hu, k, xs, key_of I.hok eb, dd, h _ _ (I.tok _) ?_⟩
    rw [l]
    exact (rel.val k).getD rd
end

def tDGet2 (td ty tx : TE) : TE := fun σ H Q => td σ H fun x H1 => ∃ a, x = .ref a ∧ IsD H1 a ∧ ty σ H1 fun y H2 => tx σ H2 fun z H3 => ∃ o, DGet H3 a y o ∧ Q (o.getD z) H3
def tDPop1 (td ty : TE) : TE := fun σ H Q => td σ H fun x H1 => ∃ a, x = .ref a ∧ IsD H1 a ∧ ty σ H1 fun y H2 => ∃ kvs k v, H2 a = some (.dK kvs) ∧ y = kV k ∧ valV kvs k = some v ∧ Q v (upd H2 a (.dK (dropK kvs k)))
section
variable {X : Cx} {o e f : Expr} {apos cpos : Pos} {td ty tx : TE}
theorem pe_dget2 (hu : X.A.units + 1 < cLine) (ho : PE X o td) (he : PE X e ty) (hf : PE X f tx) (m : M2 X o "get" apos e f cpos) : PE X (.Call (.Attribute o "get" apos) [e, f] [] cpos) (tDGet2 td ty tx) := by
  intro pins s σ H Q I h
  refine wpAny_Call_method m.base m.few m.line PySem.F.plainAttrs_dict PySem.F.slot_dict_get PySem.F.type_dict_get (thn (ho pins s σ H _ I h) fun u s1 ⟨x, H1, I1, rx, a, ex, d, q1⟩ => ?_)
  subst ex
  obtain rfl : u = Value.ref a := rx
  obtain ⟨t1, t2, _⟩ := isD_at I1 d
  refine ⟨t1, t2, ?_⟩
  rw [m.trees]
  refine Calls.callWith_builtin rfl (Calls.evalArgs_plain (Calls.spliced_cons (thn (he pins s1 σ H1 _ I1 q1) fun iv s2 ⟨y, H2, I2, ry, q2⟩ =>
    Calls.spliced_cons (thn (hf pins s2 σ H2 _ I2 q2) fun fv s3 ⟨z, H3, I3, rz, ov, g, q3⟩ => Calls.spliced_nil ?_))))
  exact d_get2 hu I3 g ry rz fun w' s4 I4 rw' => ⟨_, H3, I4, rw', q3⟩
theorem pe_dpop1 (ho : PE X o td) (he : PE X e ty) (m : M1 X o "pop" apos e cpos) : PE X (.Call (.Attribute o "pop" apos) [e] [] cpos) (tDPop1 td ty) := by
  intro pins s σ H Q I h
  refine wpAny_Call_method m.base m.few m.line PySem.F.plainAttrs_dict PySem.F.slot_dict_pop PySem.F.type_dict_pop (thn (ho pins s σ H _ I h) fun u s1 ⟨x, H1, I1, rx, a, ex, d, q1⟩ => ?_)
  subst ex
  obtain rfl : u = Value.ref a := rx
  obtain ⟨t1, t2, _⟩ := isD_at I1 d
  refine ⟨t1, t2, ?_⟩
  rw [m.trees]
  refine Calls.callWith_builtin rfl (Calls.evalArgs_plain (Calls.spliced_cons (thn (he pins s1 σ H1 _ I1 q1) fun iv s2 ⟨y, H2, I2, ry, kvs, k, v, ea, ey, l, q2⟩ => Calls.spliced_nil ?_)))
  subst ey
  exact d_pop I2 ea ry l (.inl rfl) fun w' s3 I3 rw' => ⟨v, _, I3, rw', q2⟩
end

/-! ### dict(d): a copy -/
section
variable {X : Cx} {pins : List (Addr × Obj)} {σ : St} {H : Hp} {s : Shared} {a : Addr} {kvs : List (Key × V)} {A : Around} {E : Value → Shared → Prop}
end

section
variable {X : Cx} {pins : List (Addr × Obj)} {σ : St} {H : Hp} {s : Shared} {a : Addr} {y : V} {u : Value} {A : Around} {E : Value → Shared → Prop}
end
end L2

namespace Att
open PySem PySem.W PySem.Calls PyProof.Rows

/-! ### the script -/
theorem ints_of_wellAll {P : Params} {h : Heap} : ∀ (ns : List Int) (vs : List Value), WellAll P h vs (ns.map WData.int) → IntsAre vs ns := by
  intro ns
  induction ns with
  | nil =>
    intro vs w
    rw [List.map_nil] at w
    cases w
    exact .nil
  | cons n ns ih =>
    intro vs w
    rw [List.map_cons] at w
    cases w with
    | cons a b =>
      cases a
      exact .cons _ _ (ih _ b)

theorem script_of {l : OpenLaw} {n : Nat} (hn : l.most = some n) {P : Params} {h : Heap} {args : List WData} {vals : List Value}
    (hpre : l.row.toRowW.claim.pre args = true) (hwl : WellAll P h vals args) :
    ∃ a vs ns, vals = [Value.ref a] ∧ args = [WData.list (ns.map WData.int)] ∧ h.get? a = some { cls := .type "list", data := .seq vs.toArray } ∧ IntsAre vs ns ∧ ns.length ≤ n := by
  have hsh : WShape.hasAll [] args [.list .int] = true := (pre_splitW hpre).1
  have hc : l.pre.holds [] { args := args } = true := (pre_splitW hpre).2
  obtain ⟨d, r, rfl, h1, h2⟩ := hasAllW_cons hsh
  obtain rfl := hasAllW_nil h2
  obtain ⟨xs, rfl, h3⟩ := hasW_list h1
  obtain ⟨ns, rfl⟩ := items_int h3
  have hlen : ns.length ≤ n := by
    unfold OpenLaw.pre at hc
    have h4 : (WTm.not (.lt (.lit (.int (n : Int))) (.len (.arg 0)))).holds [] { args := [.list (ns.map .int)] } = true := by
      have h4 := (holds_andW hc).1
      rw [hn] at h4
      exact h4
    have h5 := condW_of h4 (w_not (w_lt w_lit (w_len_list (w_arg rfl))))
    rw [List.length_map] at h5
    refine Nat.le_of_not_lt fun q => ?_
    have q' : (n : Int) < ((ns.length : Nat) : Int) := by omega
    first
      | (rw [decide_eq_true q'] at h5; exact absurd h5 (by decide))
      | (simp at h5; omega)
  cases hwl with
  | cons w1 w2 =>
    cases w2
    cases w1 with
    | list ho hall => exact ⟨_, _, ns, rfl, rfl, ho, ints_of_wellAll ns _ hall, hlen⟩

theorem post_true (l : OpenLaw) (args : List WData) : l.row.toRowW.claim.post args (.bool true) args = true :=
  postW_of (r := l.row.toRowW) (X := (true == true))
    (show WShape.has [] (.bool true) .bool = true by first | rfl | decide | simp [WShape.has, WShape.arms, WShape.armsAll])
    (show (WTm.eq .res (.lit (.bool true))).value [] { args := args, res := some (.bool true), after := args } = some (.bool (true == true)) from w_eq_bool (w_res rfl) w_lit) rfl

/-! ### the attachment: holds_open's last premise (the goal 'hc' behind k_head) from a wpAny of the law's body -/
theorem attach_call {l : OpenLaw} {n : Nat} {q : Program} {loose : List Str} {XP : (Str → Option Value) → Heap → Prop} {YP : World → Heap → Prop} {d : DefRec}
    (hn : l.most = some n) (hdf : d.params.defaults = [])
    (call : ∀ (w : World) (s₀ s₁ : Shared) (mg mb : Str → Option Value) (fa : Addr) (o : Obj) (pm cd doc : Value) (a : Addr) (vs : List Value) (ns : List Int),
      Ground q loose [] XP w s₀ mg mb s₁.heap → YP w s₁.heap →
      s₁.heap.get? fa = some o → o.data = .func (docDef d.name d.params d.body d.scope pm cd doc) → s₁.heap.CodeRec cd d.name → mg d.name = some (.ref fa) →
      s₁.heap.get? a = some { cls := .type "list", data := .seq vs.toArray } → IntsAre vs ns → ns.length ≤ n → s₁.gens = #[] →
      codeAny (model l.prog w) callerA (.call (.ref fa) ⟨[.ref a], []⟩) (fun r s' => r = .ok (.ret (.bool true)) ∧ OldK s₁.heap s'.heap ∧ s'.os = s₁.os ∧ AllBare s'.gens) s₁) :
    WalkO q loose XP YP l.row.toRowW d [] (fun f vs => PySem.call f vs) := by
  intro w s₀ s₁ mg mb G Y fa o pm cd doc dV kV ho hd hcd hD hmg hg args vals as hpre hlay hrd hwl hlo
  obtain rfl : dV = .none := Dflts.none hD hdf
  obtain rfl : kV = .none := Dflts.noKw hD
  obtain ⟨a, vs, ns, rfl, rfl, hobj, hints, hlen⟩ := script_of hn hpre hwl
  refine enter_call (codeAny_mono (call w s₀ s₁ mg mb fa o pm cd doc a vs ns G Y ho (fd_plain hd) hcd hmg hobj hints hlen hg) fun r s' hq => ?_)
  obtain ⟨rfl, h2, h3, h4⟩ := hq
  exact ⟨.inl ⟨.bool true, .bool true, [], rfl, fun _ => rfl, .bool true, post_true l _, fun _ => ⟨List.Pairwise.nil, fun _ hm => (nomatch hm)⟩⟩, h2, h3, h4⟩

/-! ### rules over ANY heap (no ledger) from facts about the written part K: the library's own take a ledger (News) for what they write -/
section
variable {prog : Program} {w : World} {A : Around} {E : Value → Shared → Prop} {s : Shared} {K : Frag}

/-! the whole heap as the ledger: makes every rule that writes through a ledger a rule over any heap -/
end
end Att

namespace L2
open PySem PySem.Spec PyProof.Rows

theorem vals_ints : ∀ {vs : List Value} {ns : List Int}, IntsAre vs ns → Vals (ns.map V.int) vs
  | _, _, .nil => .nil
  | _, _, .cons n t h => .cons ⟨t, rfl⟩ (vals_ints h)

def Only (H : Hp) : Prop := ∀ b, H b = none ∨ ∃ o xs, H b = some (.frz o (.lst xs))

theorem law_call {P : Program} {w : World} {K : PySem.W.Frag} {mg mb : Str → Option Value} {CX : CXT} {k : Nat} {fa a : Addr} {fd : FuncData} {x : Str} {sp : Sp} {s₁ : Shared} {vs : List Value} {ns : List Int}
    (KX : K.In s₁.heap) (hns : s₁.heap.Ns mainGlobals mg) (hb : s₁.heap.Ns builtinsNs mb) (hbb : ∀ x : Str, x ≠ "__name__" → mb x = bootBuiltins x) (hlim : s₁.heap.NoLimit) (hg : s₁.gens = #[])
    (ha : s₁.heap.get? a = some { cls := .type "list", data := .seq vs.toArray }) (hi : IntsAre vs ns) (hl : ns.length ≤ sizeLine) (hr : Room k callerA)
    (F : ∀ base : Heap, K.In base → base.Ns mainGlobals mg → FnOk P w K mg base CX k fa fd [x] sp) (hbind : ∀ (s : Shared) (u : Value), BindsTo s fd ⟨[u], []⟩ [(x, u)])
    (hsp : ∀ H : Hp, Only H → SqL K H a (ns.map V.int) → sp [.ref a] H (fun v _ => v = .bl true) fun _ _ _ => False)
    (hCX : ∀ H e s', CX [] H s₁ (fun _ _ _ => False) e s' → False) :
    codeAny (model P w) callerA (.call (.ref fa) ⟨[.ref a], []⟩) (fun r s' => r = .ok (.ret (.bool true)) ∧ OldK s₁.heap s'.heap ∧ s'.os = s₁.os ∧ AllBare s'.gens) s₁ := by
  have rv := vals_ints hi
  have lenV := hi.length
  -- from an abstract heap in which nothing but the script may be tracked
  have core : ∀ H : Hp, Only H → SqL K H a (ns.map V.int) → HOk P w H s₁.heap → (∀ b, H b ≠ none → b = a) → (H a ≠ none → K.lookup a = none) →
      codeAny (model P w) callerA (.call (.ref fa) ⟨[.ref a], []⟩) (fun r s' => r = .ok (.ret (.bool true)) ∧ OldK s₁.heap s'.heap ∧ s'.os = s₁.os ∧ AllBare s'.gens) s₁ := by
    intro H hO hS hok hA hK
    have base_of : ∀ {b : Addr} {o : Obj}, s₁.heap.get? b = some o → H b = none → (hidT s₁.heap H).get? b = some o := fun e n => hidT_get e n
    have noA : ∀ {b : Addr} {o : Obj} {es : Array DictEntry} {ep : Nat}, s₁.heap.get? b = some o → o.data = .dict es ep → H b = none := fun {b o es ep} e d => by
      cases q : H b with
      | none => rfl
      | some u =>
        have e' : b = a := hA b (by rw [q]; simp)
        subst e'
        rw [ha] at e; cases e
        have d' : Data.seq vs.toArray _ = Data.dict es ep := d
        cases d'
    have nsK : ∀ {b : Addr} {m : Str → Option Value}, s₁.heap.Ns b m → (hidT s₁.heap H).Ns b m := fun {b m} ⟨o, es, ep, e, d, r⟩ => ⟨o, es, ep, base_of e (noA e d), d, r⟩
    have hKb : K.In (hidT s₁.heap H) := fun b o e => base_of (KX b o e) (by
      cases q : H b with
      | none => rfl
      | some u =>
        have e' : b = a := hA b (by rw [q]; simp)
        subst e'
        rw [hK (by rw [q]; simp)] at e; cases e)
    have hM : Mod K mg (hidT s₁.heap H) := ⟨hKb, nsK hns, ⟨mb, nsK hb, hbb⟩, let ⟨mc, h1, h2⟩ := hlim; ⟨mc, nsK h1, h2⟩⟩
    have e0 : Env0 P w K mg (hidT s₁.heap H) callerA [] s₁ H := ⟨rfl, hM, fun b o e => of_hidT e, Nat.le_of_eq (hidT_size _ _), trivial, fun b hb => absurd (show b ∈ ([] : List Addr) from hb) (by simp), hok, .of_eq hg⟩
    refine codeAny_mono ((F _ hKb (nsK hns)).run callerA [] s₁ H ⟨[.ref a], []⟩ [.ref a] [.ref a] _ _ hr e0 (hbind s₁ (.ref a)) (.cons rfl .nil) (hsp H hO hS)) fun r s' h => ?_
    cases r with
    | error e => exact (hCX H e s' h).elim
    | ok fl =>
      cases fl with
      | next => exact False.elim h
      | brk => exact False.elim h
      | cont => exact False.elim h
      | ret u =>
        obtain ⟨v, H', os, bare, un, hok', r', q⟩ := h
        have q' : v = .bl true := q
        subst q'
        obtain rfl : u = Value.bool true := r'
        refine ⟨rfl, OldK.of_keep fun b o e => ?_, os, bare⟩
        cases q : H b with
        | none => exact un.keep b o e q (by intro z; exact absurd (show b ∈ ([] : List Addr) from z) (by simp)) (by simp)
        | some u =>
          rcases hO b with z | ⟨ob, xs, z⟩
          · rw [q] at z; cases z
          · have z2 := un.frzs b ob _ z
            obtain ⟨e1, _⟩ := hok b _ z
            obtain ⟨e2, _⟩ := hok' b _ z2
            rw [e] at e1; cases e1
            exact e2
  cases hk : K.lookup a with
  | some o =>
    -- the script is one of the module's own objects
    have e := KX a o hk
    rw [ha] at e
    cases e
    refine core (fun _ => none) (fun _ => .inl rfl) (.inr ⟨_, vs.toArray, _, hk, rfl, rfl, rfl, by rw [List.size_toArray, lenV]; exact hl, by simpa using rv⟩) (fun b u z => by have z' : (none : Option HO) = some u := z; cases z') (fun b z => absurd rfl z) fun z => absurd rfl z
  | none =>
    refine core (fun b => if b = a then some (.frz { cls := .type "list", data := .seq vs.toArray } (.lst (ns.map V.int))) else none) (fun b => ?_) (.inl (.inr ⟨{ cls := .type "list", data := .seq vs.toArray }, if_pos rfl⟩)) (fun b u z => ?_) (fun b z => ?_) fun _ => hk
    · by_cases hb : b = a
      · exact .inr ⟨_, _, if_pos hb⟩
      · exact .inl (if_neg hb)
    · by_cases hb : b = a
      · have z' := (if_pos hb).symm.trans z
        cases z'
        subst hb
        exact ⟨ha, by rw [List.length_map]; exact hl, vs, _, rv, ha⟩
      · have z' := (if_neg hb).symm.trans z
        cases z'
    · by_cases hb : b = a
      · exact hb
      · exact absurd (if_neg hb) z
end L2

namespace L2
open PySem PySem.Spec PyProof.Rows

theorem walk_of {l : PySem.W.OpenLaw} {n k : Nat} {q : Program} {loose : List Str} {XP : (Str → Option Value) → Heap → Prop} {YP : World → Heap → Prop} {d : DefRec} {K : Params → PySem.W.Frag} {CX : World → CXT} {sp : World → Sp} {x : Str}
    (hn : l.most = some n) (hn2 : n ≤ sizeLine) (hdf : d.params.defaults = []) (hr : Room k callerA)
    (hY : ∀ (w : World) (h : Heap), YP w h → (K w.params).In h)
    (F : ∀ (w : World) (mg : Str → Option Value) (fa : Addr) (h : Heap), (K w.params).In h → h.Ns mainGlobals mg → mg d.name = some (.ref fa) →
      ∃ fd : FuncData, (∀ (s : Shared) (u : Value), BindsTo s fd ⟨[u], []⟩ [(x, u)]) ∧
        ∀ base : Heap, (K w.params).In base → base.Ns mainGlobals mg → FnOk l.prog w (K w.params) mg base (CX w) k fa fd [x] (sp w))
    (hsp : ∀ (w : World) (H : Hp) (a : Addr) (ns : List Int), ns.length ≤ n → Only H → SqL (K w.params) H a (ns.map V.int) → sp w [.ref a] H (fun v _ => v = .bl true) fun _ _ _ => False)
    (hCX : ∀ (w : World) (H : Hp) (s : Shared) (e : Value) (s' : Shared), CX w [] H s (fun _ _ _ => False) e s' → False) :
    PySem.W.WalkO q loose XP YP l.row.toRowW d [] (fun f vs => PySem.call f vs) := by
  refine Att.attach_call hn hdf fun w s₀ s₁ mg mb fa o pm cd doc a vs ns G Y ho hd hcd hmg hobj hints hlen hg => ?_
  have KX := hY w _ Y
  obtain ⟨fd, hb, hF⟩ := F w mg fa _ KX G.T.g hmg
  exact law_call KX G.T.g G.T.b G.T.builtins G.T.nolimit hg hobj hints (Nat.le_trans hlen hn2) hr hF hb (fun H hO hS => hsp w H a ns hlen hO hS) fun H e s' => hCX w H s₁ e s'
end L2

/- THE LAST THEOREM (shape; LID, My.* are yours):
   My.Adr: a structure of the addresses that your layer names (classes, functions); My.Txt K t: a structure (Prop) of the equations over K;
   My.txt_mk : {K} {implicit addresses ..} (e1 : nsIn K mainGlobals "law" = some (some (.ref f))) (e2 : K.lookup f = some ⟨oc, od, .func (fnOf "law" "law" params body scope dV kV doc pm an cdv ct), sl⟩) (e3 : codeIn K cdv "law" = true) .. : ∃ t, My.Txt K t

set_option maxRecDepth 100000 in
set_option maxHeartbeats 0 in
theorem PySem.Challenge.cw_LID_holds : PySem.Challenge.rw_LID.Holds := by
  w_on; o_law; k_head; (case hw => w_witness2)
  k_fill
  refine L2.walk_of (l := PySem.Challenge.rw_LID) (n := 63) (k := 40) (x := "script") (CX := fun w => ..) (sp := fun _ => My.sp_law) rfl (by decide) rfl ⟨rfl, by decide, by decide⟩ (fun w h Y => PySem.W.kIn_of Y) ?F ?S ?C
  case F =>
    intro w mg fa h KX G hmg
    have T : ∃ t, My.Txt (L2.KOf KX) t := by
      dsimp only [L2.KOf]                          -- K must stand as «<heap const> w.params» for k_is
      refine' My.txt_mk ?e1 ?e2 ?e3 ..
      (case e1 => PySem.W.k_is)                    -- in the order: a name -> its address -> its object -> its parts
      (case e2 => PySem.W.k_is)
      ..
    obtain ⟨t, T⟩ := T
    have e0 := hmg.symm.trans (PySem.W.mg_of KX G T.law)
    cases e0                                       -- fa is the law's own address
    exact ⟨_, fun s u => .of_eq rfl, fun base kb nb => My.law_fn T kb nb⟩     -- if «.of_eq rfl» comes too early: refine' ⟨_, ?b, fun base kb nb => My.law_fn T kb nb⟩; exact fun s u => .of_eq rfl
  case S => exact fun w H a ns hl hO hS => ..
  case C => exact ..
(the tactic k_is has no namespace: write k_is) -/

/-! SHORT WORDS over the layer: a def of the text, its body, what a loop and a test want. -/
namespace L2
open PySem PySem.Spec PyProof.Rows

/-! ### the text by places -/
def inClass (s : Stmt) (j : Nat) : Stmt := match s with
  | .ClassDef _ _ _ body _ _ _ _ _ _ _ => body.getD j (.Pass ⟨0, 0, 0, 0⟩)
  | _ => .Pass ⟨0, 0, 0, 0⟩
def defArgs (s : Stmt) : Arguments := match s with
  | .FunctionDef _ a _ _ _ _ _ _ _ _ => a
  | _ => { posonlyargs := [], args := [], vararg := none, kwonlyargs := [], kw_defaults := [], kwarg := none, defaults := [] }
def defBody (s : Stmt) : List Stmt := match s with
  | .FunctionDef _ _ b _ _ _ _ _ _ _ => b
  | _ => []
def defScope (s : Stmt) : Scope := match s with
  | .FunctionDef _ _ _ _ _ _ sc _ _ _ => sc
  | _ => { kind := .function, names := [], isGenerator := false, isCoroutine := false }

/-! ### no exception leaves a def -/
abbrev CX0 : CXT := fun _ _ _ _ _ _ => False
abbrev E0 : XK := fun _ _ _ => False
theorem pass0 {X : Cx} : Passes CX0 X E0 := fun _ _ _ _ _ _ _ h => h.elim

/-! ### a def (or method) of the text as it stands behind the top -/
structure Fun (K : PySem.W.Frag) (x qual : Str) (st : Stmt) (f : Addr) (fd : FuncData) : Prop where
  ex : ∃ (oc : Value) (od : Option Addr) (kV doc pm : Value) (an : Option Addr) (cdv ct : Value) (osl : Array (Option Value)),
    fd = PySem.W.fnOf x qual (defArgs st) (defBody st) (defScope st) .none kV doc pm an cdv ct ∧ K.lookup f = some ⟨oc, od, .func fd, osl⟩ ∧ PySem.W.codeIn K cdv qual = true
  kp : PySem.W.keepIn K (.ref f) = true
section
variable {P : Program} {w : World} {K : PySem.W.Frag} {mg : Str → Option Value} {base : Heap}
theorem Fun.ok {x qual : Str} {st : Stmt} {f : Addr} {fd : FuncData} {N ps : List Str} {k : Nat} {sp : Sp} (F : Fun K x qual st f fd) (S : FnScope N ps (defScope st)) (len : ∀ vs H Q E, sp vs H Q E → vs.length = ps.length)
    (hbody : ∀ (cdv : Value) (A : Around) (outer : List Env) (s : Shared) (H : Hp) (vs : List V) (Q : VK) (E : XK), Room k (A.deeper (envOfC qual (defScope st) s.heap.objs.size f cdv)) → sp vs H Q E →
      ∃ t, PSs (cxOf CX0 P w K mg base N qual (defScope st) f cdv A outer s H E).nox (defBody st) t ∧ t { nx := fun _ H' => Q .non H', rt := Q } (start N vs) H) : FnOk P w K mg base CX0 (k + 1) f fd ps sp := by
  obtain ⟨oc, od, kV, doc, pm, an, cdv, ct, osl, rfl, lk, hcd⟩ := F.ex
  refine fn_of lk hcd S len fun A outer s H vs Q E hr hsp => ?_
  obtain ⟨t, h, q⟩ := hbody cdv A outer s H vs Q E hr hsp
  exact ⟨t, h.nox, q⟩
theorem Fun.binds {x qual : Str} {st : Stmt} {f : Addr} {fd : FuncData} {ps : List Str} (F : Fun K x qual st f fd)
    (h : ∀ (kV doc pm : Value) (an : Option Addr) (cdv ct : Value) (us : List Value), us.length = ps.length → bindArgs (PySem.W.fnOf x qual (defArgs st) (defBody st) (defScope st) .none kV doc pm an cdv ct) ⟨us, []⟩ = pure (ps.zip us)) : Binds K fd ps [] := by
  obtain ⟨oc, od, kV, doc, pm, an, cdv, ct, osl, rfl, lk, hcd⟩ := F.ex
  exact .all (h kV doc pm an cdv ct)
theorem fun_mk {x qual : Str} {st : Stmt} {f : Addr} {oc : Value} {od an : Option Addr} {osl : Array (Option Value)} {kV doc pm cdv ct : Value} (l : K.lookup f = some ⟨oc, od, .func (PySem.W.fnOf x qual (defArgs st) (defBody st) (defScope st) .none kV doc pm an cdv ct), osl⟩)
    (c : PySem.W.codeIn K cdv qual = true) (k : PySem.W.keepIn K (.ref f) = true) : Fun K x qual st f (PySem.W.fnOf x qual (defArgs st) (defBody st) (defScope st) .none kV doc pm an cdv ct) := ⟨⟨oc, od, kV, doc, pm, an, cdv, ct, osl, rfl, l, c⟩, k⟩
end
theorem hu_of {A : Around} {k : Nat} (hr : Room k A) : A.units + 1 < cLine := Nat.lt_of_le_of_lt (Nat.add_le_add_left (by decide : 1 ≤ 64) _) hr.units
theorem small1000 {n : Nat} (h : n ≤ 1000) : n < sizeLine := Nat.lt_of_le_of_lt h (by decide)

/-! ### expressions in short: the name that stands in the i-th slot -/
section
variable {X : Cx}
theorem pv (i : Nat) {x : Str} {pos : Pos} (hN : X.N[i]? = some x := by rfl) (hv : Vis X.env.scope x := by first | exact Or.inl rfl | exact Or.inr (Or.inl rfl) | exact Or.inr (Or.inr rfl)) (hd : (x == ("__debug__" : Str)) = false := by decide)
    (hcd : (x == ("__classdict__" : Str)) = false := by decide) : PE X (.Name x pos) (tVar i) := pe_var hN hv hd hcd
end

/-! ### tests -/
theorem iteF {A B : Prop} (h : B) : if false = true then A else B := by
  rw [if_neg Bool.false_ne_true]
  exact h
theorem iteT {A B : Prop} (h : A) : if true = true then A else B := by
  rw [if_pos rfl]
  exact h
theorem ite2 {c A B : Prop} [Decidable c] (h1 : c → A) (h2 : ¬ c → B) : if c then A else B := by
  by_cases h : c
  · rw [if_pos h]
    exact h1 h
  · rw [if_neg h]
    exact h2 h
/-! ### heaps -/
def Same (H H' : Hp) : Prop := ∀ b o, H b = some o → H' b = some o
theorem Same.refl (H : Hp) : Same H H := fun _ _ h => h
theorem Same.trans {H H1 H2 : Hp} (a : Same H H1) (b : Same H1 H2) : Same H H2 := fun c o h => b c o (a c o h)
theorem Same.free {H H' : Hp} (e : Same H H') {l : Addr} (h : H' l = Option.none) : H l = Option.none := by
  cases q : H l with
  | none => rfl
  | some o =>
    rw [e l o q] at h
    cases h
theorem Same.seq {K : PySem.W.Frag} {H H' : Hp} {a : Addr} {xs : List V} (e : Same H H') (h : SqL K H a xs) : SqL K H' a xs := by
  rcases h with (h | ⟨o, h⟩) | h
  · exact .inl (.inl (e _ _ h))
  · exact .inl (.inr ⟨o, e _ _ h⟩)
  · exact .inr h

section
variable {X : Cx}
theorem call_lenD : CallR X (.builtin "len") (fun xs H Q => ∃ a kvs, xs = [V.ref a] ∧ H a = some (.dK kvs) ∧ Q (.int kvs.length) H) := by
  intro pins s σ H xs us Q I r h
  obtain ⟨a, kvs, rfl, ha, q⟩ := h
  obtain ⟨u, rfl, ru⟩ := vals1 r
  cases ru
  exact d_len I (.inl ha) fun t s' I' => ⟨.int kvs.length, H, I', ⟨t, rfl⟩, q⟩
end
/-! ### a dict's pairs: keys that differ -/
section
variable {κ : Type} [DecidableEq κ]
end
end L2

set_option Elab.async false
set_option linter.all false
set_option maxRecDepth 100000
set_option maxHeartbeats 4000000
/-! our own rules over the hand layer -/
namespace L2
open PySem PySem.Spec PyProof.Rows

/-! ### values as data, over the abstract heap -/
mutual
inductive Rp (K : PySem.W.Frag) (H : Hp) : V → PyData → Prop
  | non : Rp K H .non .none
  | bl (b : Bool) : Rp K H (.bl b) (.bool b)
  | int (i : Int) : Rp K H (.int i) (.int i)
  | str (x : Str) : Rp K H (.str x) (.str x)
  | lst {a : Addr} {xs : List V} {ds : List PyData} : H a = some (.lst xs) → RpL K H xs ds → Rp K H (.ref a) (.list ds)
  | tup {a : Addr} {xs : List V} {ds : List PyData} : H a = some (.tup xs) → RpL K H xs ds → Rp K H (.ref a) (.tuple ds)
inductive RpL (K : PySem.W.Frag) (H : Hp) : List V → List PyData → Prop
  | nil : RpL K H [] []
  | cons {x : V} {d : PyData} {xs : List V} {ds : List PyData} : Rp K H x d → RpL K H xs ds → RpL K H (x :: xs) (d :: ds)
end
mutual
theorem Rp.mono {K : PySem.W.Frag} {H H' : Hp} (g : Same H H') : ∀ {v : V} {d : PyData}, Rp K H v d → Rp K H' v d
  | _, _, .non => .non
  | _, _, .bl b => .bl b
  | _, _, .int i => .int i
  | _, _, .str x => .str x
  | _, _, .lst h r => .lst (g _ _ h) (RpL.mono g r)
  | _, _, .tup h r => .tup (g _ _ h) (RpL.mono g r)
theorem RpL.mono {K : PySem.W.Frag} {H H' : Hp} (g : Same H H') : ∀ {vs : List V} {ds : List PyData}, RpL K H vs ds → RpL K H' vs ds
  | _, _, .nil => .nil
  | _, _, .cons h r => .cons (Rp.mono g h) (RpL.mono g r)
end
mutual
theorem Rp.reads {X : Cx} {pins : List (Addr × Obj)} {σ : St} {H : Hp} {s : Shared} (I : Inv X pins σ H s) : ∀ {v : V} {d : PyData} {u : Value}, Rp X.K H v d → RelV v u → ∃ as, Reads s.heap u d as
  | _, _, _, .non, r => by cases r; exact ⟨_, .none⟩
  | _, _, _, .bl b, r => by cases r; exact ⟨_, .bool b⟩
  | _, _, _, .int i, r => by obtain ⟨t, rfl⟩ := r; exact ⟨_, .int i t⟩
  | _, _, _, .str x, r => by obtain ⟨t, rfl⟩ := r; exact ⟨_, .str x t⟩
  | _, _, _, .lst h q, r => by
    cases r
    obtain ⟨its, rv, ⟨o, n, e, hc, hd, hs⟩, _⟩ := I.list (SqL.of h)
    obtain ⟨as, ra⟩ := RpL.reads I q rv
    exact ⟨_, .list e hc hs (by simpa using ra)⟩
  | _, _, _, .tup h q, r => by
    cases r
    obtain ⟨its, rv, ⟨o, e, hc, n, hs⟩, _⟩ := I.tuple (SqT.of h)
    obtain ⟨as, ra⟩ := RpL.reads I q rv
    exact ⟨_, .tuple e hc hs (by simpa using ra)⟩
theorem RpL.reads {X : Cx} {pins : List (Addr × Obj)} {σ : St} {H : Hp} {s : Shared} (I : Inv X pins σ H s) : ∀ {vs : List V} {ds : List PyData} {us : List Value}, RpL X.K H vs ds → Vals vs us → ∃ as, ReadsAll s.heap us ds as
  | _, _, _, .nil, .nil => ⟨_, .nil⟩
  | _, _, _, .cons h q, .cons r t => by
    obtain ⟨as, ra⟩ := Rp.reads I h r
    obtain ⟨bs, rb⟩ := RpL.reads I q t
    exact ⟨_, .cons ra rb⟩
end
theorem same_new {H : Hp} {p : Addr} (h : H p = none) (o : HO) : Same H (upd H p o) := fun b u q => by rw [upd_ne (ne_of_none q h)]; exact q

section
variable {X : Cx}
/-! ### == and != of data (lists, tuples, flat values, at any depth) -/
def rEqD (K : PySem.W.Frag) : R2 := fun x y H Q => ∃ d e, Rp K H x d ∧ Rp K H y e ∧ SeqAt.shaped d = true ∧ SeqAt.shaped e = true ∧ Q (.bl (PyData.eqv d e)) H
def rNeD (K : PySem.W.Frag) : R2 := fun x y H Q => ∃ d e, Rp K H x d ∧ Rp K H y e ∧ SeqAt.shaped d = true ∧ SeqAt.shaped e = true ∧ Q (.bl (!PyData.eqv d e)) H
theorem op_eqD (hu : X.A.units + 64 < cLine) : OpR X (compareOp .Eq) (rEqD X.K) := by
  intro pins s σ H x y v u Q I rx ry h
  obtain ⟨d, e, hx, hy, sd, se, q⟩ := h
  obtain ⟨as, ra⟩ := hx.reads I rx
  obtain ⟨bs, rb⟩ := hy.reads I ry
  exact eq_dataH ra rb sd se hu ⟨.bl _, H, I, rfl, q⟩
theorem op_neD (hu : X.A.units + 64 < cLine) : OpR X (compareOp .NotEq) (rNeD X.K) := by
  intro pins s σ H x y v u Q I rx ry h
  obtain ⟨d, e, hx, hy, sd, se, q⟩ := h
  obtain ⟨as, ra⟩ := hx.reads I rx
  obtain ⟨bs, rb⟩ := hy.reads I ry
  exact ne_dataH ra rb sd se hu ⟨.bl _, H, I, rfl, q⟩
/-! ### != of two dicts that hold the same flat pairs -/
/-! ### dict(d) -/
/-! ### isinstance(x, T), T a built-in type -/
end

/-! ### items of tracked lists and tuples -/
def rIxG : R2 := fun x y H Q => ∃ p i xs v, x = .ref p ∧ y = .int i ∧ (H p = some (.tup xs) ∨ H p = some (.lst xs)) ∧ atI xs i = some v ∧ Q v H
theorem ix_g {X : Cx} : IxR X rIxG := by
  intro value slice pins s σ H x y v u Q I rx ry h hs
  obtain ⟨p, i, xs, z, rfl, rfl, hq, he, q⟩ := h
  rcases hq with hq | hq
  · exact ix_tup value slice pins s σ H _ _ v u Q I rx ry ⟨p, xs, i, z, rfl, rfl, SqT.of hq, he, q⟩ hs
  · exact ix_list value slice pins s σ H _ _ v u Q I rx ry ⟨p, xs, i, z, rfl, rfl, SqL.of hq, he, q⟩ hs
theorem atI_0 {α : Type} {a : α} {l : List α} : atI (a :: l) 0 = some a := atI_nat (j := 0) rfl
theorem atI_1 {α : Type} {a b : α} {l : List α} : atI (a :: b :: l) 1 = some b := atI_nat (j := 1) rfl
theorem atI_2 {α : Type} {a b c : α} {l : List α} : atI (a :: b :: c :: l) 2 = some c := atI_nat (j := 2) rfl
theorem atI_3 {α : Type} {a b c d : α} {l : List α} : atI (a :: b :: c :: d :: l) 3 = some d := atI_nat (j := 3) rfl
theorem atI_4 {α : Type} {a b c d e : α} {l : List α} : atI (a :: b :: c :: d :: e :: l) 4 = some e := atI_nat (j := 4) rfl
theorem atI_in {α : Type} {xs : List α} {i : Int} (h0 : 0 ≤ i) (h1 : i < xs.length) : ∃ v, atI xs i = some v ∧ v ∈ xs ∧ xs[i.toNat]? = some v := by
  have hk : i.toNat < xs.length := by omega
  have e : ((i.toNat : Nat) : Int) = i := by omega
  refine ⟨xs[i.toNat], ?_, List.getElem_mem hk, List.getElem?_eq_getElem hk⟩
  have := atI_nat (xs := xs) (j := i.toNat) (v := xs[i.toNat]) (List.getElem?_eq_getElem hk)
  rwa [e] at this
theorem fresh_any {H : Hp} {o : HO} {R : Addr → Hp → Prop} (h : ∀ p H', H p = none → Same H H' → H' p = some o → R p H') : ∀ p, H p = none → R p (upd H p o) := fun p hp => h p _ hp (same_new hp o) upd_same
theorem sz {n : Nat} (h : n ≤ 1000) : (n ≤ sizeLine) = True := eq_true (Nat.le_of_lt (small1000 h))
theorem mn1 {n : Nat} : min 1 (n + 1) = 1 := by omega
theorem mn2 {n : Nat} : min 2 (n + 2) = 2 := by omega
theorem na2 : Int.natAbs 2 = 2 := rfl
theorem na10 : Int.natAbs 10 = 10 := rfl
theorem sz0 : (0 ≤ sizeLine) = True := sz (by decide)
theorem sz1 : (1 ≤ sizeLine) = True := sz (by decide)
theorem sz2 : (2 ≤ sizeLine) = True := sz (by decide)
theorem sz3 : (3 ≤ sizeLine) = True := sz (by decide)
theorem sz4 : (4 ≤ sizeLine) = True := sz (by decide)
theorem sz5 : (5 ≤ sizeLine) = True := sz (by decide)
theorem sz6 : (6 ≤ sizeLine) = True := sz (by decide)
theorem ofString_inj {a b : String} : (Str.ofString a = Str.ofString b) = (a = b) := by
  apply propext
  constructor
  · intro h
    rw [Str.ofString_eq_toList, Str.ofString_eq_toList] at h
    injection h with h
    have h2 : a.toList.map Char.toNat = b.toList.map Char.toNat := by simpa using congrArg Array.toList h
    have inj : ∀ c d : Char, c.toNat = d.toNat → c = d := fun c d e => Char.ext (UInt32.toNat_inj.mp e)
    exact String.toList_inj.mp (List.map_inj_right (fun c d e => inj c d e) |>.mp h2)
  · rintro rfl; rfl
theorem RpL.cons_inv {K : PySem.W.Frag} {H : Hp} {vs : List V} {d : PyData} {ds : List PyData} (h : RpL K H vs (d :: ds)) : ∃ x xs, vs = x :: xs ∧ Rp K H x d ∧ RpL K H xs ds := by cases h with | cons a b => exact ⟨_, _, rfl, a, b⟩
/-! ### dicts, by what the key is -/
def keyOf : V → Option Key
  | .int i => some (.inl i)
  | .str x => some (.inr x)
  | _ => none
theorem kV_of {y : V} {k : Key} (h : keyOf y = some k) : y = kV k := by
  cases y <;> simp only [keyOf, Option.some.injEq, reduceCtorEq] at h <;> subst h <;> rfl
section
variable {X : Cx} {i o e value : Expr} {ty td te tv : TE} {pos pos' apos cpos : Pos}
def tDInG (ty td : TE) : TE := fun σ H Q => ty σ H fun y H1 => td σ H1 fun x H2 => ∃ a kvs k, x = .ref a ∧ H2 a = some (.dK kvs) ∧ keyOf y = some k ∧ Q (.bl (valV kvs k).isSome) H2
def tDNotInG (ty td : TE) : TE := fun σ H Q => ty σ H fun y H1 => td σ H1 fun x H2 => ∃ a kvs k, x = .ref a ∧ H2 a = some (.dK kvs) ∧ keyOf y = some k ∧ Q (.bl (!(valV kvs k).isSome)) H2
def tDGetG (td ty : TE) : TE := fun σ H Q => td σ H fun x H1 => ty σ H1 fun y H2 => ∃ a kvs k v, x = .ref a ∧ H2 a = some (.dK kvs) ∧ keyOf y = some k ∧ valV kvs k = some v ∧ Q v H2
def sDPutG (td ty tv : TE) : TS := fun D σ H => tv σ H fun v H1 => td σ H1 fun x H2 => ty σ H2 fun y H3 => ∃ a kvs k, x = .ref a ∧ H3 a = some (.dK kvs) ∧ keyOf y = some k ∧ kvs.length < sizeLine ∧ D.nx σ (upd H3 a (.dK (putK kvs k v)))
theorem pe_dgetG (hu : X.A.units + 1 < cLine) (ho : PE X o td) (hi : PE X i ty) (hs : NoSl i) : PE X (.Subscript o i pos) (tDGetG td ty) := by
  intro pins s σ H Q I h
  refine subD_of PySem.F.slot_dict_getitem.lookup hs (thn (ho pins s σ H _ I h) fun u s1 ⟨x, H1, I1, rx, q1⟩ => thn (hi pins s1 σ H1 _ I1 q1) fun iv s2 ⟨y, H2, I2, ry, a, kvs, k, v, ex, ha, ek, ev, q2⟩ => ?_)
  subst ex
  obtain rfl : u = Value.ref a := rx
  have g : DGet H2 a y (some v) := by rw [kV_of ek, ← ev]; exact DGet.k ha
  exact ⟨dict_typeIs I2 g, d_getItem hu I2 g ry fun w' s3 I3 rw' => ⟨v, H2, I3, rw', q2⟩⟩
theorem pc_dinG (hu : X.A.units + 1 < cLine) (hi : PE X i ty) (ho : PE X o td) : PC X .In i o (tDInG ty td) := by
  intro pins s σ H Q I h
  refine thn (hi pins s σ H _ I h) fun iv s1 ⟨y, H1, I1, ry, q1⟩ => thn (ho pins s1 σ H1 _ I1 q1) fun u s2 ⟨x, H2, I2, rx, a, kvs, k, ex, ha, ek, q2⟩ => ?_
  subst ex
  obtain rfl : u = Value.ref a := rx
  have g : DGet H2 a y (valV kvs k) := by rw [kV_of ek]; exact DGet.k ha
  exact d_in hu I2 g ry fun s3 I3 => ⟨.bl _, H2, I3, rfl, q2⟩
theorem ps_dputG (hu : X.A.units + 1 < cLine) (ho : PE X o td) (hi : PE X i ty) (hv : PE X value tv) (hs : swapsWith value (some (.Subscript o i pos')) pos.line X.env = pure false := by rfl) :
    PS X (.Assign [.Subscript o i pos'] value pos) (sDPutG td ty tv) := by
  intro pins s σ H D I h
  refine wpAny_Assign_Subscript (thn (hv pins s σ H _ I h) fun r s1 ⟨v, H1, I1, rv, q1⟩ => thn (ho pins s1 σ H1 _ I1 q1) fun u s2 ⟨x, H2, I2, rx, q2⟩ => thn (hi pins s2 σ H2 _ I2 q2) fun iv s3 ⟨y, H3, I3, ry, a, kvs, k, ex, ha, ek, hz, q3⟩ => ?_) hs
  subst ex
  obtain rfl : u = Value.ref a := rx
  have g : DPut H3 a y v (upd H3 a (.dK (putK kvs k v))) := by rw [kV_of ek]; exact DPut.k ha hz
  exact d_setItem hu I3 g ry rv fun s4 I4 => ⟨σ, _, I4, q3⟩
def tApp (to te : TE) : TE := fun σ H Q => to σ H fun x H1 => ∃ l xs, x = .ref l ∧ H1 l = some (.lst xs) ∧ te σ H1 fun y H2 => rAppend (.ref l) [y] H2 Q
theorem pe_app (ho : PE X o td) (he : PE X e te)
    (hbase : attributeBase o "append" X.env (eval o X.env) = eval o X.env := by rfl)
    (hfew : ((backTo cpos (starEach [e] X.env)).all (fun x => !x.1) && (backToKw cpos (keywordEach [] X.env)).all (fun x => x.1.isSome)
      && decide ([e].length + ([] : List Keyword).length + (if ([] : List Keyword).isEmpty then 0 else 1) < 30)) = true := by rfl)
    (hline : (apos.endLine == cpos.line) = true := by rfl) (hs : starEach [e] X.env = [(false, eval e X.env)] := by rfl) :
    PE X (.Call (.Attribute o "append" apos) [e] [] cpos) (tApp td te) := by
  intro pins s σ H Q I h
  refine wpAny_Call_method_late hbase hfew hline rfl (thn (ho pins s σ H _ I h) fun v s1 ⟨x, H1, I1, r1, l, xs, ex, hl, q1⟩ => ?_)
  subst ex
  obtain ⟨h1, h2⟩ := tyV_is (T := "list") I1 r1 (Or.inl ⟨rfl, xs, SqL.of hl⟩)
  refine ⟨"list", _, PySem.F.plainAttrs_list, PySem.F.slot_list_append, PySem.F.type_list_append, h1, h2, ?_⟩
  have hA := (pa_cons he pa_nil (hs := by rw [hs]; rfl)) cpos pins s1 σ H1 (fun vs H2 => rAppend (.ref l) vs H2 Q) I1 q1
  rw [hs] at hA ⊢
  refine Calls.callWith_builtin (by rfl) (Calls.evalArgs_plain ?_)
  exact thn hA fun us s2 ⟨vs, H2, I2, r2, q2⟩ => mt_append pins s2 σ H2 _ vs v us Q I2 r1 r2 q2
end

/-! ### facts that simp uses -/
theorem scal_ss {a b : Str} : scal (.str a) (.str b) = true := rfl
theorem scal_ii {a b : Int} : scal (.int a) (.int b) = true := rfl
theorem scal_bb {a b : Bool} : scal (.bl a) (.bl b) = true := rfl
theorem scal_nn : scal .non .non = true := rfl
theorem scal_ns {b : Str} : scal .non (.str b) = true := rfl
theorem scal_sn {b : Str} : scal (.str b) .non = true := rfl
theorem scal_ni {b : Int} : scal .non (.int b) = true := rfl
theorem scal_in {b : Int} : scal (.int b) .non = true := rfl
theorem keyOf_s {a : Str} : keyOf (.str a) = some (.inr a) := rfl
theorem keyOf_i {a : Int} : keyOf (.int a) = some (.inl a) := rfl
theorem flat_s {a : Str} : flatV (.str a) = true := rfl
theorem flat_i {a : Int} : flatV (.int a) = true := rfl
theorem flat_n : flatV .non = true := rfl
theorem flat_b {a : Bool} : flatV (.bl a) = true := rfl
theorem inV_nil {x : V} : inV x [] = false := rfl
theorem inV_cons {x y : V} {l : List V} : inV x (y :: l) = (eqV y x || inV x l) := rfl
theorem eqV_ss {a b : Str} : eqV (.str a) (.str b) = decide (a = b) := by
  show (a == b) = _
  rw [Bool.eq_iff_iff]; simp
theorem eqV_ii {a b : Int} : eqV (.int a) (.int b) = decide (a = b) := by
  show (a == b) = _
  rw [Bool.eq_iff_iff]; simp
theorem cx_K {CX : CXT} {P : Program} {w : World} {K : PySem.W.Frag} {mg : Str → Option Value} {base : Heap} {N : List Str} {qual : Str} {scope : Scope} {f : Addr} {cd : Value} {A : Around} {outer : List Env} {s : Shared} {H : Hp} {E : XK} : (cxOf CX P w K mg base N qual scope f cd A outer s H E).K = K := rfl
section
variable {X : Cx}
def rInG (neg : Bool) : R2 := fun x y H Q => ∃ p xs, y = .ref p ∧ (H p = some (.tup xs) ∨ H p = some (.lst xs)) ∧ flatV x = true ∧ xs.all flatV = true ∧ Q (.bl (if neg then !inV x xs else inV x xs)) H
theorem op_inG : OpR X (compareOp .In) (rInG false) := by
  intro pins s σ H x y v u Q I rx ry h
  obtain ⟨p, xs, rfl, hq, fx, fs, q⟩ := h
  exact op_in_seq pins s σ H x _ v u Q I rx ry ⟨p, xs, rfl, hq.symm.imp SqL.of SqT.of, fx, fs, q⟩
theorem op_notInG : OpR X (compareOp .NotIn) (rInG true) := by
  intro pins s σ H x y v u Q I rx ry h
  obtain ⟨p, xs, rfl, hq, fx, fs, q⟩ := h
  exact op_notIn_seq pins s σ H x _ v u Q I rx ry ⟨p, xs, rfl, hq.symm.imp SqL.of SqT.of, fx, fs, q⟩
def gTupG (n : Nat) (t : TGs) : TG := fun v σ H Q => ∃ a xs, v = .ref a ∧ H a = some (.tup xs) ∧ xs.length = n ∧ t xs σ H Q
theorem pg_tupG {es : List Expr} {k : Nat} {t : TGs} {pos : Pos} (n : Nat) (hc : X.calm = true) (h : PGs X es t)
    (hn : (assignEach es X.env).length = n := by rfl) (hst : (assignEach es X.env).findIdx? (·.1) = none := by rfl) : PG X (.Tuple es k pos) (gTupG n t) := by
  intro pins s σ H v u Q I r hw
  obtain ⟨a, xs, e1, hq, hl, hw⟩ := hw
  exact pg_tup hc h hn hst pins s σ H v u Q I r ⟨a, xs, e1, SqT.of hq, hl, hw⟩
def tM (t : TE) : TE := fun σ H Q => ∃ Q1 : VK, t σ H Q1 ∧ ∀ v H', Q1 v H' → Q v H'
theorem PE.up {e : Expr} {t : TE} (h : PE X e t) : PE X e (tM t) := by
  intro pins s σ H Q I hq
  obtain ⟨Q1, h1, h2⟩ := hq
  exact thn (h pins s σ H Q1 I h1) fun u s' ⟨v, H', I', r, q⟩ => ⟨v, H', I', r, h2 v H' q⟩
def rSlG : V → Option Int → Option Int → Hp → VK → Prop := fun x lo hi H Q => ∃ a xs, x = .ref a ∧
  ((H a = some (.tup xs) ∧ ¬ (HT.sIx xs.length 0 lo = 0 ∧ HT.sIx xs.length xs.length hi = xs.length) ∧ ∀ p H', H p = none → Same H H' → H' p = some (.tup (cutV xs lo hi)) → Q (.ref p) H') ∨
   (H a = some (.lst xs) ∧ ∀ p H', H p = none → Same H H' → H' p = some (.lst (cutV xs lo hi)) → Q (.ref p) H'))
theorem sl_g : SlR X rSlG := by
  intro pins s σ H x v vl vu lo hi sl Q I rx hs pl pu h
  obtain ⟨a, xs, rfl, ⟨ha, hn, q⟩ | ⟨ha, q⟩⟩ := h
  · exact sl_tup pins s σ H _ v vl vu lo hi sl Q I rx hs pl pu ⟨a, xs, rfl, SqT.of ha, hn, fresh_any q⟩
  · exact sl_list pins s σ H _ v vl vu lo hi sl Q I rx hs pl pu ⟨a, xs, rfl, SqL.of ha, fresh_any q⟩
def rSlK (K : PySem.W.Frag) : V → Option Int → Option Int → Hp → VK → Prop := fun x lo hi H Q => ∃ a xs, x = .ref a ∧ SqL K H a xs ∧ ∀ p H', H p = none → Same H H' → H' p = some (.lst (cutV xs lo hi)) → Q (.ref p) H'
theorem sl_k : SlR X (rSlK X.K) := by
  intro pins s σ H x v vl vu lo hi sl Q I rx hs pl pu h
  obtain ⟨a, xs, rfl, ha, q⟩ := h
  exact sl_list pins s σ H _ v vl vu lo hi sl Q I rx hs pl pu ⟨a, xs, rfl, ha, fresh_any q⟩
/-! ### what is made lies in some heap that has all that was there -/
def tMA (t : TA) : TA := fun σ H Q => ∃ Q1 : List V → Hp → Prop, t σ H Q1 ∧ ∀ vs H', Q1 vs H' → Q vs H'
theorem PA.up {es : List Expr} {t : TA} (h : PA X es t) : PA X es (tMA t) := by
  intro pos pins s σ H Q I hq
  obtain ⟨Q1, h1, h2⟩ := hq
  exact thn (h pos pins s σ H Q1 I h1) fun us s' ⟨vs, H', I', r, q⟩ => ⟨vs, H', I', r, h2 vs H' q⟩
def tTupG (t : TA) : TE := fun σ H Q => t σ H fun xs H1 => xs.length ≤ sizeLine ∧ ∀ p H', H1 p = none → Same H1 H' → H' p = some (.tup xs) → Q (.ref p) H'
def tLstG (t : TA) : TE := fun σ H Q => t σ H fun xs H1 => xs.length ≤ sizeLine ∧ ∀ p H', H1 p = none → Same H1 H' → H' p = some (.lst xs) → Q (.ref p) H'
theorem pe_tupG {es : List Expr} {t : TA} {pos : Pos} {x1} (h : PA X es t) : PE X (.Tuple es x1 pos) (tTupG t) := fun pins s σ H Q I hq =>
  pe_tup h.up pins s σ H Q I ⟨_, hq, fun _ _ q => ⟨q.1, fresh_any q.2⟩⟩
theorem pe_lstG {es : List Expr} {t : TA} {pos : Pos} (h : PA X es t) : PE X (.List es pos) (tLstG t) := fun pins s σ H Q I hq =>
  pe_lst h.up pins s σ H Q I ⟨_, hq, fun _ _ q => ⟨q.1, fresh_any q.2⟩⟩
def tDNewG : TE := fun _ H Q => ∀ p H', H p = none → Same H H' → H' p = some (.dK []) → Q (.ref p) H'
theorem pe_dnewG {pos : Pos} : PE X (.Dict [] [] pos) tDNewG := fun pins s σ H Q I h => pe_dnewK pins s σ H Q I (fresh_any h)
def rDictG : List V → Hp → VK → Prop := fun xs H Q => ∃ a kvs, xs = [.ref a] ∧ H a = some (.dK kvs) ∧ ∀ p H', H p = none → Same H H' → H' p = some (.dK kvs) → Q (.ref p) H'
structure Mu (H : Hp) (l : Addr) (o : HO) (H' : Hp) : Prop where
  at_ : H' l = some o
  else_ : ∀ a, a ≠ l → H' a = H a
theorem Mu.mk' {H : Hp} {l : Addr} {o : HO} : Mu H l o (upd H l o) := ⟨upd_same, fun _ h => upd_ne h⟩
theorem Mu.old {H H' : Hp} {l a : Addr} {o u : HO} (m : Mu H l o H') (h : H a = some u) (n : a ≠ l) : H' a = some u := by rw [m.else_ a n]; exact h
theorem Mu.same {H0 H H' : Hp} {l : Addr} {o : HO} (m : Mu H l o H') (g : Same H0 H) (n : H0 l = none) : Same H0 H' := fun a u h => m.old (g a u h) (ne_of_none h n)
def tAppG (to te : TE) : TE := fun σ H Q => to σ H fun x H1 => ∃ l xs, x = .ref l ∧ H1 l = some (.lst xs) ∧ te σ H1 fun y H2 => ∃ ys, H2 l = some (.lst ys) ∧ ys.length < sizeLine ∧ ∀ H3, Mu H2 l (.lst (ys ++ [y])) H3 → Q .non H3
theorem pe_appG {o e : Expr} {td te : TE} {apos cpos : Pos} (ho : PE X o td) (he : PE X e te)
    (hbase : attributeBase o "append" X.env (eval o X.env) = eval o X.env := by rfl)
    (hfew : ((backTo cpos (starEach [e] X.env)).all (fun x => !x.1) && (backToKw cpos (keywordEach [] X.env)).all (fun x => x.1.isSome)
      && decide ([e].length + ([] : List Keyword).length + (if ([] : List Keyword).isEmpty then 0 else 1) < 30)) = true := by rfl)
    (hline : (apos.endLine == cpos.line) = true := by rfl) (hs : starEach [e] X.env = [(false, eval e X.env)] := by rfl) :
    PE X (.Call (.Attribute o "append" apos) [e] [] cpos) (tAppG td te) := fun pins s σ H Q I h =>
  pe_app ho.up he.up hbase hfew hline hs pins s σ H Q I ⟨_, h, fun _ _ ⟨l, xs, e1, h1, q⟩ => ⟨l, xs, e1, h1, _, q, fun y _ ⟨ys, h2, hz, q⟩ => ⟨l, ys, y, rfl, rfl, h2, hz, q _ .mk'⟩⟩⟩
def sDPutG2 (td ty tv : TE) : TS := fun D σ H => tv σ H fun v H1 => td σ H1 fun x H2 => ty σ H2 fun y H3 => ∃ a kvs k, x = .ref a ∧ H3 a = some (.dK kvs) ∧ keyOf y = some k ∧ kvs.length < sizeLine ∧ ∀ H4, Mu H3 a (.dK (putK kvs k v)) H4 → D.nx σ H4
theorem ps_dputG2 {i o value : Expr} {ty td tv : TE} {pos pos' : Pos} (hu : X.A.units + 1 < cLine) (ho : PE X o td) (hi : PE X i ty) (hv : PE X value tv) (hs : swapsWith value (some (.Subscript o i pos')) pos.line X.env = pure false := by rfl) :
    PS X (.Assign [.Subscript o i pos'] value pos) (sDPutG2 td ty tv) := fun pins s σ H D I h =>
  ps_dputG hu ho.up hi.up hv.up hs pins s σ H D I ⟨_, h, fun _ _ q => ⟨_, q, fun _ _ q => ⟨_, q, fun _ _ ⟨a, kvs, k, e1, e2, e3, e4, q⟩ => ⟨a, kvs, k, e1, e2, e3, e4, q _ .mk'⟩⟩⟩⟩
def pairsOf : List (V × V) → Option (List (Key × V))
  | [] => some []
  | (x, y) :: r => (keyOf x).bind fun k => (pairsOf r).bind fun l => some ((k, y) :: l)
theorem PPs.up {pos : Pos} {keys : List (Option Expr)} {values : List Expr} {trs : List (TE × TE)} (h : PPs X pos keys values trs) {pins : List (Addr × Obj)} {s : Shared} {σ : St} {H : Hp} {Q Q1 : List (V × V) → Hp → Prop} (I : Inv X pins σ H s) (h1 : tPairs trs σ H Q1) (h2 : ∀ ps H', Q1 ps H' → Q ps H') :
    wpAny (model X.prog X.w) X.A (evalPairs (pairTrees keys values X.env pos)) (fun vs s' => ∃ ps H', Inv X pins σ H' s' ∧ VV ps vs ∧ Q ps H') X.xe s :=
  thn (h pins s σ H Q1 I h1) fun vs s' ⟨ps, H', I', r, q⟩ => ⟨ps, H', I', r, h2 ps H' q⟩
def tDispG (trs : List (TE × TE)) : TE := fun σ H Q => ∀ p H', H p = none → Same H H' → H' p = some (.dK []) → tPairs trs σ H' fun ps H2 => H2 p = some (.dK []) ∧ ∃ kvs, pairsOf ps = some kvs ∧ kvs.length ≤ 15 ∧ ∀ H3, Mu H2 p (.dK (mergeK [] kvs)) H3 → Q (.ref p) H3
/-! ### a loop over a tracked list or tuple, turn by turn -/
def turns (a : Addr) (o : HO) (g : TG) (tb : TS) (D : Ends) : List V → St → Hp → Prop
  | [], σ, H => H a = some o ∧ D.nx σ H
  | x :: r, σ, H => H a = some o ∧ g x σ H fun σ2 H2 => tb { D with nx := turns a o g tb D r, ct := turns a o g tb D r, bk := D.nx } σ2 H2
def tForT (tl : TE) (g : TG) (tb : TS) : TS := fun D σ H => tl σ H fun x H1 => ∃ a xs, x = .ref a ∧ H1 a = some (.tup xs) ∧ turns a (.tup xs) g tb D xs σ H1
def tForL (tl : TE) (g : TG) (tb : TS) : TS := fun D σ H => tl σ H fun x H1 => ∃ a xs, x = .ref a ∧ H1 a = some (.lst xs) ∧ turns a (.lst xs) g tb D xs σ H1
end

/-! ### isinstance, by what stands in the heap -/
def hoT : HO → Option String
  | .lst _ => some "list"
  | .tup _ => some "tuple"
  | .dK _ => some "dict"
  | _ => none
def tyG (H : Hp) : V → Option String
  | .non => some "NoneType"
  | .bl _ => some "bool"
  | .int _ => some "int"
  | .str _ => some "str"
  | .ref a => (H a).bind hoT
  | _ => none
theorem tyG_n {H : Hp} : tyG H .non = some "NoneType" := rfl
theorem tyG_b {H : Hp} {x : Bool} : tyG H (.bl x) = some "bool" := rfl
theorem tyG_i {H : Hp} {x : Int} : tyG H (.int x) = some "int" := rfl
theorem tyG_s {H : Hp} {x : Str} : tyG H (.str x) = some "str" := rfl
theorem tyG_r {H : Hp} {a : Addr} : tyG H (.ref a) = (H a).bind hoT := rfl
theorem hoT_l {xs : List V} : hoT (.lst xs) = some "list" := rfl
theorem hoT_t {xs : List V} : hoT (.tup xs) = some "tuple" := rfl
theorem hoT_d {xs : List (Key × V)} : hoT (.dK xs) = some "dict" := rfl
def rIsiG (K : PySem.W.Frag) : List V → Hp → VK → Prop := fun xs H Q => ∃ x T t b, xs = [x, .ty T] ∧ tyG H x = some t ∧ PySem.W.kitOne K (.type t) (.type T) = some b ∧ Q (.bl b) H
theorem kit_ii {K : PySem.W.Frag} : PySem.W.kitOne K (.type "int") (.type "int") = some true := rfl
theorem kit_it {K : PySem.W.Frag} : PySem.W.kitOne K (.type "int") (.type "tuple") = some false := rfl
theorem kit_il {K : PySem.W.Frag} : PySem.W.kitOne K (.type "int") (.type "list") = some false := rfl
theorem kit_is {K : PySem.W.Frag} : PySem.W.kitOne K (.type "int") (.type "str") = some false := rfl
theorem kit_ib {K : PySem.W.Frag} : PySem.W.kitOne K (.type "int") (.type "bool") = some false := rfl
theorem kit_id {K : PySem.W.Frag} : PySem.W.kitOne K (.type "int") (.type "dict") = some false := rfl
theorem kit_ni {K : PySem.W.Frag} : PySem.W.kitOne K (.type "NoneType") (.type "int") = some false := rfl
theorem kit_nt {K : PySem.W.Frag} : PySem.W.kitOne K (.type "NoneType") (.type "tuple") = some false := rfl
theorem kit_nl {K : PySem.W.Frag} : PySem.W.kitOne K (.type "NoneType") (.type "list") = some false := rfl
theorem kit_ns {K : PySem.W.Frag} : PySem.W.kitOne K (.type "NoneType") (.type "str") = some false := rfl
theorem kit_nb {K : PySem.W.Frag} : PySem.W.kitOne K (.type "NoneType") (.type "bool") = some false := rfl
theorem kit_nd {K : PySem.W.Frag} : PySem.W.kitOne K (.type "NoneType") (.type "dict") = some false := rfl
theorem kit_ti {K : PySem.W.Frag} : PySem.W.kitOne K (.type "tuple") (.type "int") = some false := rfl
theorem kit_tt {K : PySem.W.Frag} : PySem.W.kitOne K (.type "tuple") (.type "tuple") = some true := rfl
theorem kit_tl {K : PySem.W.Frag} : PySem.W.kitOne K (.type "tuple") (.type "list") = some false := rfl
theorem kit_ts {K : PySem.W.Frag} : PySem.W.kitOne K (.type "tuple") (.type "str") = some false := rfl
theorem kit_tb {K : PySem.W.Frag} : PySem.W.kitOne K (.type "tuple") (.type "bool") = some false := rfl
theorem kit_td {K : PySem.W.Frag} : PySem.W.kitOne K (.type "tuple") (.type "dict") = some false := rfl
theorem kit_li {K : PySem.W.Frag} : PySem.W.kitOne K (.type "list") (.type "int") = some false := rfl
theorem kit_lt {K : PySem.W.Frag} : PySem.W.kitOne K (.type "list") (.type "tuple") = some false := rfl
theorem kit_ll {K : PySem.W.Frag} : PySem.W.kitOne K (.type "list") (.type "list") = some true := rfl
theorem kit_ls {K : PySem.W.Frag} : PySem.W.kitOne K (.type "list") (.type "str") = some false := rfl
theorem kit_lb {K : PySem.W.Frag} : PySem.W.kitOne K (.type "list") (.type "bool") = some false := rfl
theorem kit_ld {K : PySem.W.Frag} : PySem.W.kitOne K (.type "list") (.type "dict") = some false := rfl
theorem kit_si {K : PySem.W.Frag} : PySem.W.kitOne K (.type "str") (.type "int") = some false := rfl
theorem kit_st {K : PySem.W.Frag} : PySem.W.kitOne K (.type "str") (.type "tuple") = some false := rfl
theorem kit_sl {K : PySem.W.Frag} : PySem.W.kitOne K (.type "str") (.type "list") = some false := rfl
theorem kit_ss {K : PySem.W.Frag} : PySem.W.kitOne K (.type "str") (.type "str") = some true := rfl
theorem kit_sb {K : PySem.W.Frag} : PySem.W.kitOne K (.type "str") (.type "bool") = some false := rfl
theorem kit_sd {K : PySem.W.Frag} : PySem.W.kitOne K (.type "str") (.type "dict") = some false := rfl
theorem kit_bi {K : PySem.W.Frag} : PySem.W.kitOne K (.type "bool") (.type "int") = some true := rfl
theorem kit_bt {K : PySem.W.Frag} : PySem.W.kitOne K (.type "bool") (.type "tuple") = some false := rfl
theorem kit_bl {K : PySem.W.Frag} : PySem.W.kitOne K (.type "bool") (.type "list") = some false := rfl
theorem kit_bs {K : PySem.W.Frag} : PySem.W.kitOne K (.type "bool") (.type "str") = some false := rfl
theorem kit_bb {K : PySem.W.Frag} : PySem.W.kitOne K (.type "bool") (.type "bool") = some true := rfl
theorem kit_bd {K : PySem.W.Frag} : PySem.W.kitOne K (.type "bool") (.type "dict") = some false := rfl
theorem kit_di {K : PySem.W.Frag} : PySem.W.kitOne K (.type "dict") (.type "int") = some false := rfl
theorem kit_dt {K : PySem.W.Frag} : PySem.W.kitOne K (.type "dict") (.type "tuple") = some false := rfl
theorem kit_dl {K : PySem.W.Frag} : PySem.W.kitOne K (.type "dict") (.type "list") = some false := rfl
theorem kit_ds {K : PySem.W.Frag} : PySem.W.kitOne K (.type "dict") (.type "str") = some false := rfl
theorem kit_db {K : PySem.W.Frag} : PySem.W.kitOne K (.type "dict") (.type "bool") = some false := rfl
theorem kit_dd {K : PySem.W.Frag} : PySem.W.kitOne K (.type "dict") (.type "dict") = some true := rfl
/-! ### arguments without a star, for any frame -/
def notStar : Expr → Bool
  | .Starred _ _ => false
  | _ => true
theorem star_of {e : Expr} {es : List Expr} {env : Env} (h : notStar e = true) : starEach (e :: es) env = (false, eval e env) :: starEach es env := by
  cases e with
  | Starred v q => exact absurd (show false = true from h) Bool.false_ne_true
  | _ => rfl
theorem star_all {pos : Pos} {env : Env} : ∀ {es : List Expr}, es.all notStar = true → (backTo pos (starEach es env)).any (·.1) = false
  | [], _ => rfl
  | e :: es, h => by
    rw [List.all_cons, Bool.and_eq_true] at h
    rw [star_of h.1]
    show (false || (backTo pos (starEach es env)).any (·.1)) = false
    rw [star_all h.2]
    rfl
section
variable {X : Cx} {e : Expr} {es : List Expr} {te : TE} {t : TA} {x : Str} {p pos : Pos} {id T : String} {r : List V → Hp → VK → Prop}
theorem pa_c (ha : PE X e te) (hr : PA X es t) (hn : notStar e = true := by rfl) : PA X (e :: es) (tCons te t) := pa_cons ha hr (star_of hn)
theorem pe_cB (hc : CallR X (.builtin id) r) (hg : Gl X x) (hm : X.mg x = none) (hv : bootBuiltins x = some (.builtin id)) (ha : PA X (e :: es) t) (hn : x ≠ "__name__" := by decide) (hdb : (x == ("__debug__" : Str)) = false := by decide)
    (hs : (e :: es).all notStar = true := by rfl) : PE X (.Call (.Name x p) (e :: es) [] pos) (tCB r t) :=
  pe_callB hc hg hm hv ha hn hdb (star_of (Bool.and_eq_true_iff.mp hs).1) (star_all (Bool.and_eq_true_iff.mp hs).2)
theorem pe_cTy (hc : CallR X (.type T) r) (hg : Gl X x) (hm : X.mg x = none) (hv : bootBuiltins x = some (.type T)) (ha : PA X (e :: es) t) (hn : x ≠ "__name__" := by decide) (hdb : (x == ("__debug__" : Str)) = false := by decide)
    (hs : (e :: es).all notStar = true := by rfl) : PE X (.Call (.Name x p) (e :: es) [] pos) (tCB r t) :=
  pe_callTy hc hg hm hv ha hn hdb (star_of (Bool.and_eq_true_iff.mp hs).1) (star_all (Bool.and_eq_true_iff.mp hs).2)
end

/-! ### a def by its name -/
structure DefAt (K : PySem.W.Frag) (mg : Str → Option Value) (x : Str) (st : Stmt) (ps : List Str) : Prop where
  ex : ∃ f fd, mg x = some (.ref f) ∧ Fun K x x st f fd ∧ Binds K fd ps []
structure OkD (P : Program) (w : World) (K : PySem.W.Frag) (mg : Str → Option Value) (base : Heap) (n : Nat) (x : Str) (ps : List Str) (sp : Sp) : Prop where
  ex : ∃ f fd, mg x = some (.ref f) ∧ PySem.W.keepIn K (.ref f) = true ∧ Binds K fd ps [] ∧ FnOk P w K mg base CX0 n f fd ps sp
def tDef (sp : Sp) (t : TA) : TE := fun σ H Q => t σ H fun vs H1 => sp vs H1 Q E0
section
variable {P : Program} {w : World} {K : PySem.W.Frag} {mg : Str → Option Value} {base : Heap} {x : Str} {st : Stmt} {N ps : List Str} {k : Nat} {sp : Sp}
theorem DefAt.ok (D : DefAt K mg x st ps) (S : FnScope N ps (defScope st)) (len : ∀ vs H Q E, sp vs H Q E → vs.length = ps.length)
    (hbody : ∀ (f : Addr) (cdv : Value) (A : Around) (outer : List Env) (s : Shared) (H : Hp) (vs : List V) (Q : VK) (E : XK), Room k (A.deeper (envOfC x (defScope st) s.heap.objs.size f cdv)) → sp vs H Q E →
      ∃ t, PSs (cxOf CX0 P w K mg base N x (defScope st) f cdv A outer s H E).nox (defBody st) t ∧ t { nx := fun _ H' => Q .non H', rt := Q } (start N vs) H) : OkD P w K mg base (k + 1) x ps sp := by
  obtain ⟨f, fd, hm, F, hb⟩ := D.ex
  exact ⟨f, fd, hm, F.kp, hb, F.ok S len (hbody f)⟩
theorem OkD.mono {n m : Nat} (G : OkD P w K mg base n x ps sp) (h : n ≤ m) : OkD P w K mg base m x ps sp := by
  obtain ⟨f, fd, a, b, c, d⟩ := G.ex
  exact ⟨f, fd, a, b, c, d.mono h⟩
theorem DefAt.never (D : DefAt K mg x st ps) (n : Nat) (h : ∀ vs H Q E, ¬ sp vs H Q E) : OkD P w K mg base n x ps sp := by
  obtain ⟨f, fd, hm, F, hb⟩ := D.ex
  exact ⟨f, fd, hm, F.kp, hb, ⟨fun vs H Q E q => absurd q (h vs H Q E), fun A outer s H args us vs Q E _ _ _ _ q => absurd q (h vs H Q E)⟩⟩
theorem DefAt.mk' {h : Heap} {f : Addr} {oc : Value} {od an : Option Addr} {osl : Array (Option Value)} {kV doc pm cdv ct : Value} (X : K.In h) (G : h.Ns mainGlobals mg) (a : PySem.W.nsIn K mainGlobals x = some (some (.ref f)))
    (l : K.lookup f = some ⟨oc, od, .func (PySem.W.fnOf x x (defArgs st) (defBody st) (defScope st) .none kV doc pm an cdv ct), osl⟩) (c : PySem.W.codeIn K cdv x = true) (k : PySem.W.keepIn K (.ref f) = true)
    (b : ∀ (kV doc pm : Value) (an : Option Addr) (cdv ct : Value) (us : List Value), us.length = ps.length → bindArgs (PySem.W.fnOf x x (defArgs st) (defBody st) (defScope st) .none kV doc pm an cdv ct) ⟨us, []⟩ = pure (ps.zip us)) : DefAt K mg x st ps :=
  have F := fun_mk (st := st) l c k
  ⟨f, _, PySem.W.mg_of X G a, F, F.binds b⟩
end
section
variable {X : Cx} {k n : Nat} {ps : List Str} {sp : Sp} {x : Str} {p pos : Pos} {e : Expr} {es : List Expr} {t : TA}
theorem pe_def (G : OkD X.prog X.w X.K X.mg X.base k x ps sp) (hr : Room n X.A) (hg : Gl X x) (ha : PA X (e :: es) t) (hk : k ≤ n := by omega) (hdb : (x == ("__debug__" : Str)) = false := by decide)
    (hs : (e :: es).all notStar = true := by rfl) : PE X (.Call (.Name x p) (e :: es) [] pos) (tDef sp t) := by
  obtain ⟨f, fd, hm, kp, hb, F⟩ := G.ex
  intro pins s σ H Q I h
  refine pe_call F (hr.mono hk) hg hm kp hb .nil pass0 ha hdb (star_of (Bool.and_eq_true_iff.mp hs).1) (star_all (Bool.and_eq_true_iff.mp hs).2) pins s σ H Q I ?_
  have e : (fun vs H1 => sp (vs ++ []) H1 Q E0) = fun vs H1 => sp vs H1 Q E0 := by funext vs H1; rw [List.append_nil]
  show t σ H fun vs H1 => sp (vs ++ []) H1 Q E0
  rw [e]
  exact h
end
def spLaw (K : PySem.W.Frag) : Sp := fun vs H Q _ => ∃ (a : Addr) (ns : List Int), vs = [.ref a] ∧ SqL K H a (ns.map V.int) ∧ ns.length ≤ 63 ∧ ∀ H', Q (.bl true) H'
end L2

set_option Elab.async false
set_option linter.all false
set_option maxRecDepth 100000
set_option maxHeartbeats 4000000
/-! our own rules: exceptions of own classes, raised, passed on, caught -/
namespace L2
open PySem PySem.Spec PyProof.Rows

structure Fly (h : Heap) (x T : Addr) (cls fl : Value) : Prop where
  ex : ∃ oe vs oT ts, h.get? x = some oe ∧ oe.cls = cls ∧ oe.dict = none ∧ oe.data = .fields vs ∧ vs[1]? = some (.ref T) ∧ T ≠ x ∧ h.get? T = some oT ∧ oT.data = .fields ts ∧ ts[3]? = some fl
def CXr (P : Program) (w : World) : CXT := fun outer H s E e s' => ∃ (x T : Addr) (cls : Value) (H' : Hp), e = .ref x ∧ s'.os = s.os ∧ AllBare s'.gens ∧ Un (frs outer) [] H H' s.heap s'.heap ∧ HOk P w H' s'.heap ∧
  Fly s'.heap x T cls .none ∧ s.heap.get? x = none ∧ s.heap.get? T = none ∧ H' x = none ∧ H' T = none ∧ E cls none H'

structure Kept (x : Addr) (ts fr : List Addr) (h h' : Heap) : Prop where
  keep : ∀ b o, h.get? b = some o → b ≠ x → b ∉ ts → b ∉ fr → h'.get? b = some o
  slot : ∀ b o, h.get? b = some o → b ≠ x → b ∉ ts → ∃ sl, h'.get? b = some { o with slots := sl }
section
variable {M : Model} {A : Around} {E : Value → Shared → Prop} {s : Shared} {base : Heap} {env : Env} {outer : List Env} {L x : Addr} {oe : Obj} {vs : Array Value} {Q : Unit → Shared → Prop}
end

section
variable {X : Cx} {pins : List (Addr × Obj)} {σ : St} {H1 : Hp} {s1 : Shared}
theorem Inv.tracked (I : Inv X pins σ H1 s1) {b : Addr} {u : HO} (h : H1 b = some u) : ∃ o, s1.heap.get? b = some o := by
  have hb := I.hok.lt h
  have := I.hok b u h
  cases u with
  | lst xs => obtain ⟨_, _, _, _, e⟩ := this; exact ⟨_, e⟩
  | tup xs => obtain ⟨_, _, _, o, e, _⟩ := this; exact ⟨_, e⟩
  | dK kvs => obtain ⟨_, _, _, _, o, _, _, e, _⟩ := this; exact ⟨_, e⟩
  | dT kvs => obtain ⟨_, _, _, _, o, _, _, e, _⟩ := this; exact ⟨_, e⟩
  | set S n => obtain ⟨o, _, _, _, e, _⟩ := this; exact ⟨_, e⟩
  | ins C dx fs => obtain ⟨_, _, _, e, _⟩ := this; exact ⟨_, e⟩
  | own y => exact this
  | xd fs => obtain ⟨_, ⟨_, _, _, e, _⟩, _⟩ := this; exact ⟨_, e⟩
  | rng lo hi => obtain ⟨_, _, _, e⟩ := this; exact ⟨_, e⟩
  | frz ob u => obtain ⟨e, _⟩ := this; exact ⟨_, e⟩
  | tbl ps => exact ⟨_, this⟩
  | met f y => exact ⟨_, this⟩
  | ext φ => obtain ⟨_, e, _⟩ := this; exact e
end

section
variable {P : Program} {w : World} {K : PySem.W.Frag} {mg : Str → Option Value} {base : Heap} {N : List Str} {qual : Str} {scope : Scope} {f : Addr} {cd : Value} {A : Around} {outer : List Env} {s : Shared} {H : Hp} {E : XK}
end
/-! ### own classes of ValueError's line -/
def veM : List Value := [.type "ValueError", .type "Exception", .type "BaseException", .type "object"]
structure ExcAt (K : PySem.W.Frag) (mg : Str → Option Value) (x : Str) (C : Addr) : Prop where
  gl : mg x = some (.ref C)
  ok : PySem.W.excIn K C veM "ValueError.__new__" = true
def tRaise (C : Addr) (t : TA) (E : XK) : TS := fun _ σ H => t σ H fun vs H1 => vs.length ≤ sizeLine ∧ E (.ref C) none H1
section
variable {X : Cx} {E : XK} {x : Str} {C : Addr} {np cpos pos : Pos} {e : Expr} {es : List Expr} {t : TA}
end
section
variable {P : Program} {w : World} {K : PySem.W.Frag} {mg : Str → Option Value} {base : Heap} {N : List Str} {qual : Str} {scope : Scope} {f : Addr} {cd : Value} {A : Around} {outer : List Env} {s : Shared} {H : Hp} {E : XK}
end

/-! ### a def that may raise, by its name -/
structure OkR (P : Program) (w : World) (K : PySem.W.Frag) (mg : Str → Option Value) (base : Heap) (n : Nat) (x : Str) (ps : List Str) (sp : Sp) : Prop where
  ex : ∃ f fd, mg x = some (.ref f) ∧ PySem.W.keepIn K (.ref f) = true ∧ Binds K fd ps [] ∧ FnOk P w K mg base (CXr P w) n f fd ps sp
def tDefR (sp : Sp) (E : XK) (t : TA) : TE := fun σ H Q => t σ H fun vs H1 => sp vs H1 Q E
section
variable {P : Program} {w : World} {K : PySem.W.Frag} {mg : Str → Option Value} {base : Heap} {x : Str} {st : Stmt} {N ps : List Str} {k : Nat} {sp : Sp}
theorem OkR.mono {n m : Nat} (G : OkR P w K mg base n x ps sp) (h : n ≤ m) : OkR P w K mg base m x ps sp := by
  obtain ⟨f, fd, a, b, c, d⟩ := G.ex
  exact ⟨f, fd, a, b, c, d.mono h⟩
end
section
variable {X : Cx} {E : XK} {k n : Nat} {ps : List Str} {sp : Sp} {x : Str} {p pos : Pos} {e : Expr} {es : List Expr} {t : TA}
end

/-! ### caught -/
section
variable {X : Cx} {pins : List (Addr × Obj)} {σ : St} {H : Hp} {s : Shared}
structure Far (X : Cx) (pins : List (Addr × Obj)) (b : Addr) : Prop where
  old : X.s₀.heap.get? b = none
  loc : b ≠ X.env.locals
  cel : ∀ y c, X.env.cells.lookup y = some c → c ≠ b
  pin : ∀ p ∈ X.pn ++ pins, p.1 ≠ b
theorem Inv.far (I : Inv X pins σ H s) {b : Addr} (h : s.heap.get? b = none) (hex : X.ex = []) : Far X pins b where
  old := by
    cases q : X.s₀.heap.get? b with
    | none => rfl
    | some o =>
      obtain ⟨o1, r⟩ := I.base.there b o q (by rw [hex]; simp)
      rw [h] at r; cases r
  loc := fun z => by
    obtain ⟨m, ⟨o, _, _, q, _⟩, _⟩ := I.loc
    rw [← z, h] at q; cases q
  cel := fun y c e z => by
    obtain ⟨v, o, q, _⟩ := I.cell y c e
    rw [z, h] at q; cases q
  pin := fun p hp z => by
    have q := (I.pin p hp).1
    rw [z, h] at q; cases q
theorem Inv.gone {i : Nat} {n : Str} {h' : Heap} {tk : Nat} {m : Str → Option Value} {v : Option Value} (I : Inv X pins σ H s) (nd : X.N.Nodup) (hi : X.N[i]? = some n)
    (hl : ∀ (j : Nat) (x : Str) (v : V), X.N[j]? = some x → σ[j]? = some (some v) → Vis X.env.scope x → ∃ u, RelV v u ∧ Look X.env s.heap m x u)
    (hn : h'.Ns X.env.locals fun y => if y = n then v else m y) (hs : Heap.SameBut X.env.locals s.heap h') : Inv X pins (σ.set i none) H { s with heap := h', toks := tk } := by
  have s0 : ∀ b o, X.s₀.heap.get? b = some o → b ≠ X.env.locals := fun b o e z => by
    have l1 : b < X.s₀.heap.objs.size := Heap.lt_size e
    rw [z] at l1
    exact absurd (Nat.lt_of_lt_of_le l1 I.ok.above) (Nat.lt_irrefl _)
  refine ⟨I.ok, I.os, I.bare, ⟨fun b o e n1 n2 n3 => (hs.2 b (s0 b o e)).trans (I.base.keep b o e n1 n2 n3), fun b o e n1 n2 n3 => ?_, I.base.free, fun b o e n3 => ?_, I.base.tups, I.base.frzs, I.base.tbls⟩, ⟨_, hn, fun j y w a b c => ?_⟩, fun y c e => ?_, I.free, I.freeC, fun p hp => ?_, fun a o q => ?_, by rw [List.length_set]; exact I.len⟩
  · obtain ⟨sl, q⟩ := I.base.slot b o e n1 n2 n3
    exact ⟨sl, (hs.2 b (s0 b o e)).trans q⟩
  · obtain ⟨o1, q⟩ := I.base.there b o e n3
    exact ⟨o1, (hs.2 b (s0 b o e)).trans q⟩
  · have ji : j ≠ i := fun z => by
      subst z
      rw [List.getElem?_set] at b
      split at b
      · split at b <;> cases b
      · rename_i q; exact q rfl
    rw [List.getElem?_set_ne (Ne.symm ji)] at b
    obtain ⟨u, ru, l⟩ := hl j y w a b c
    have yn : y ≠ n := fun z => by
      subst z
      exact ji ((List.getElem?_inj (List.getElem?_eq_some_iff.mp a).1 nd).mp (a.trans hi.symm))
    refine ⟨u, ru, ?_⟩
    rcases l with ⟨l1, l2⟩ | ⟨l, cc, e, o', q', hd'⟩
    · exact .inl ⟨l1, by show (if y = n then v else m y) = _; rw [if_neg yn]; exact l2⟩
    · exact .inr ⟨l, cc, e, o', (hs.2 cc (I.cne y cc e)).trans q', hd'⟩
  · obtain ⟨w, o, q, hd⟩ := I.cell y c e
    exact ⟨w, o, (hs.2 c (I.cne y c e)).trans q, hd⟩
  · obtain ⟨p1, p2, p3, p4, p5⟩ := I.pin p hp
    exact ⟨(hs.2 p.1 p3).trans p1, p2, p3, p4, p5⟩
  · refine (I.hok a o q).stay (fun b u hb r => (hs.2 b fun z => ?_).trans r) (fun _ z => z) fun _ _ z => z
    rcases hb with rfl | hb
    · rw [z, I.free] at q; cases q
    · rw [z, I.free] at hb; cases hb
end

/-! ### a caught exception as a value -/
def ExcIs (x C : Addr) (h : Heap) : Prop := ∃ ox, PySem.W.InstAt h x ox C none
def excO (x C : Addr) : HO := .ext (ExcIs x C)
section
open PySem.W
end
structure PlainX (K : PySem.W.Frag) (C : Addr) : Prop where
  ga : PySem.W.findIn K (.ref C) "__getattribute__" = some (some (.builtin "BaseException.__getattribute__"))
  gt : PySem.W.findIn K (.ref C) "__getattr__" = some none
  mroB : PySem.W.mroIn K C (.type "BaseException") = some true
  cls : (PySem.W.clsIn K C).isSome = true
  fnd : PySem.W.findIn K (.ref C) "__class__" = some (some (.builtin "object.__class__"))
  spc : PySem.W.specialIn K (.builtin "object.__class__") "__get__" = some (some (.builtin "getset_descriptor.__get__"))
  tak : PySem.W.takesIn K (.builtin "object.__class__") = some true
  mro : PySem.W.mroIn K C (.type "object") = some true
def rIsiX (K : PySem.W.Frag) : List V → Hp → VK → Prop := fun xs H Q => ∃ x C c cv b, xs = [.ref x, c] ∧ H x = some (excO x C) ∧ PlainX K C ∧ (c = .ref cv ∧ PySem.W.kitOne K (.ref C) (.ref cv) = some b ∧ Q (.bl b) H)
def rIsiXT (K : PySem.W.Frag) : List V → Hp → VK → Prop := fun xs H Q => ∃ x C T b, xs = [.ref x, .ty T] ∧ H x = some (excO x C) ∧ PlainX K C ∧ PySem.W.kitOne K (.ref C) (.type T) = some b ∧ Q (.bl b) H
/-! ### try: f(..) -/
abbrev TX := St → Hp → VK → XK → Prop
def tCallX (sp : Sp) (t : TA) : TX := fun σ H Q E => t σ H fun vs H1 => sp vs H1 Q E
section
variable {X : Cx} {k n : Nat} {ps : List Str} {sp : Sp} {x : Str} {p pos : Pos} {e : Expr} {es : List Expr} {t : TA}
end
def tTry1 (K : PySem.W.Frag) (B : Addr) (i : Nat) (t : TX) (th : TS) : TS := fun D σ H => t σ H (fun _ H1 => D.nx σ H1) fun cls _ H1 => ∃ C, cls = .ref C ∧ PySem.W.exmOne K (.ref C) (.ref B) = some true ∧
  ∀ x H2, H1 x = none → Same H1 H2 → H2 x = some (excO x C) → th { nx := fun σ' H' => D.nx (σ'.set i none) H', rt := D.rt, bk := fun σ' H' => D.bk (σ'.set i none) H', ct := fun σ' H' => D.ct (σ'.set i none) H' } (σ.set i (some (.ref x))) H2
section
variable {X : Cx} {B : Addr} {i : Nat} {n cx : Str} {e : Expr} {b0 : Stmt} {suite : List Stmt} {ep np hpos pos : Pos} {t : TX} {th : TS}
end
end L2

set_option Elab.async false
set_option linter.all false
set_option maxRecDepth 100000
set_option maxHeartbeats 4000000
/-! our own rules: [elt for x in iter if c], nothing raised inside -/
namespace L2
open PySem PySem.Spec PyProof.Rows
abbrev Cx.comp (X : Cx) (scope : Scope) (cl : List (Str × Addr)) (N : List Str) (C : Addr) (fp : List Addr) (s₀ : Shared) (H₀ : Hp) : Cx :=
  { X with N := N, s₀ := s₀, H₀ := H₀, env := compEnvC scope cl C X.env, outer := X.stack, ex := fp, fn := fun _ => false, pn := [], xe := fun _ _ => False }
structure CompScope (X : Cx) (scope : Scope) (cl : List (Str × Addr)) (N : List Str) (cap : List Nat) : Prop where
  kind : scope.kind = .function
  clos : X.Ok → closureFor scope X.env = pure cl
  ncell : ∀ y ∈ scope.names, y.2 ≠ .cell
  names : ∀ y ∈ scope.names, y.2 = .local → scope.names.lookup y.1 = some .local
  nd : N.Nodup
  has : ∀ y, ((relabel scope X.env).names.lookup y = some .cell ∨ (relabel scope X.env).names.lookup y = some .free) → ∃ c, cl.lookup y = some c
  sub : X.Ok → ∀ y c, cl.lookup y = some c → X.env.cells.lookup y = some c
  len : N.length = cap.length + 1
  cap : ∀ (j i : Nat) (y : Str), N[j + 1]? = some y → cap[j]? = some i → X.N[i]? = some y ∧ Vis X.env.scope y ∧ X.env.kindOf y ≠ some .local ∧ ((relabel scope X.env).names.lookup y = some .cell ∨ (relabel scope X.env).names.lookup y = some .free)
def capOf (σ : St) (cap : List Nat) : St := cap.map fun i => (σ[i]?).join
section
variable {X : Cx} {pins : List (Addr × Obj)} {σ : St} {H : Hp} {s : Shared} {scope : Scope} {cl : List (Str × Addr)} {N : List Str} {cap : List Nat}
end

def PTs (X : Cx) (ifs : List Expr) (t : TT) : Prop :=
  ∀ (pins : List (Addr × Obj)) (s : Shared) (σ : St) (H : Hp) (Q : Bool → Hp → Prop), Inv X pins σ H s → t σ H Q →
    wpAny (model X.prog X.w) X.A (forIn ifs true fun c r => if r = true then do let ok ← isTrue c X.env (eval c X.env); pure (ForInStep.yield ok) else pure (ForInStep.yield r)) (TP X pins σ Q) X.xe s
def tYes : TT := fun _ H Q => Q true H
theorem pts_nil {X : Cx} : PTs X [] tYes := fun _ _ _ H _ I h => wpAny_tests_nil ⟨H, I, h⟩
theorem pts_one {X : Cx} {c : Expr} {t : TT} (h : PT X c t) : PTs X [c] t := fun pins s σ H Q I q => wpAny_tests_one (h pins s σ H Q I q)
section
variable {X : Cx} {scope : Scope} {cl : List (Str × Addr)} {N : List Str} {cap : List Nat} {x : Str} {px pos : Pos} {iter elt : Expr} {ifs : List Expr} {wi : TI} {tc : TT} {te : TE}
end
end L2

set_option Elab.async false
set_option linter.all false
set_option maxRecDepth 100000
set_option maxHeartbeats 4000000
/-! our own rules: texts -/
namespace L2
open PySem PySem.Spec PyProof.Rows
/-! ### all([..]) of bools -/
def rAll : List V → Hp → VK → Prop := fun xs H Q => ∃ (p : Addr) (bs : List Bool), xs = [.ref p] ∧ H p = some (.lst (bs.map V.bl)) ∧ Q (.bl (bs.all id)) H
/-! ### int(text) -/
/-! ### a comprehension that only reads: what it gives -/
structure Over (J : It) (xs : List V) (ok : Hp → Prop) : Prop where
  go : ∀ i H, ok H → i < xs.length → J.go i H
  stop : ∀ i H, ok H → xs.length ≤ i → J.stop i H
  yld : ∀ i H x H', ok H → i < xs.length → J.yld i H x H' → H' = H ∧ xs[i]? = some x
theorem over_list {K : PySem.W.Frag} {a : Addr} {xs : List V} : Over (Itl K a) xs (fun H => H a = some (.lst xs)) where
  go := fun i H e h => ⟨xs, xs[i], SqL.of e, List.getElem?_eq_getElem h⟩
  stop := fun i H e h => ⟨xs, SqL.of e, h⟩
  yld := fun i H v H' e h y => ⟨y.1, y.2 xs (SqL.of e)⟩
theorem over_range (lo : Int) (n : Nat) : Over (Itr lo n) ((List.range n).map fun (k : Nat) => V.int (lo + k)) (fun _ => True) where
  go := fun i H _ h => (show i < n by simpa using h)
  stop := fun i H _ h => (show n ≤ i by simpa using h)
  yld := fun i H v H' _ h y => by
    obtain ⟨e, rfl⟩ := y
    refine ⟨e, ?_⟩
    have h' : i < n := by simpa using h
    rw [List.getElem?_map, List.getElem?_range h']; rfl
/-! ### a comprehension that captures nothing -/
theorem lookup_mem {names : List (Str × NameKind)} {y : Str} {k : NameKind} (h : names.lookup y = some k) : (y, k) ∈ names := PySem.mem_of_lookup h
/-! ### f-strings of texts and ints -/
def tFmt (te : TE) : TE := fun σ H Q => te σ H fun v H1 => (∃ x, v = .str x ∧ x.length ≤ sizeLine ∧ Q (.str x) H1) ∨ ∃ i : Int, v = .int i ∧ i.natAbs.log2 < 1920 ∧ Q (.str (toString i)) H1
abbrev TJ := Str → St → Hp → (Str → Hp → Prop) → Prop
def jNil : TJ := fun out _ H Q => out.length ≤ sizeLine ∧ Q out H
def jCons (te : TE) (t : TJ) : TJ := fun out σ H Q => te σ H fun v H1 => ∃ x, v = .str x ∧ (out ++ x).length ≤ sizeLine ∧ t (out ++ x) σ H1 Q
def tJoin (t : TJ) : TE := fun σ H Q => t Str.empty σ H fun x H1 => Q (.str x) H1
end L2

set_option Elab.async false
set_option linter.all false
set_option maxRecDepth 100000
set_option maxHeartbeats 4000000
/-! our own rules: methods and slices of texts, a module's tuple -/
namespace L2
open PySem PySem.Spec PyProof.Rows
section
variable {X : Cx}
def rStarts : V → List V → Hp → VK → Prop := fun x vs H Q => ∃ a b, x = .str a ∧ vs = [.str b] ∧ Q (.bl (PySem.Txt.startswith a b)) H
def rMulS : R2 := fun x y H Q => ∃ a n, x = .str a ∧ y = .int n ∧ MulOk a n ∧ Q (.str (PySem.Txt.mul a n)) H
def rSlS : V → Option Int → Option Int → Hp → VK → Prop := fun x lo hi H Q => ∃ a, x = .str a ∧ a.length ≤ sizeLine ∧ Q (.str (PySem.Txt.slice a lo hi)) H
def rJoinS : V → List V → Hp → VK → Prop := fun x vs H Q => ∃ a l ys, x = .str a ∧ vs = [.ref l] ∧ H l = some (.lst (ys.map V.str)) ∧ JoinOk a ys = true ∧ Q (.str (PySem.Txt.join a ys)) H
def rInK (K : PySem.W.Frag) (neg : Bool) : R2 := fun x y H Q => ∃ p xs, y = .ref p ∧ (∀ H, SqT K H p xs) ∧ flatV x = true ∧ xs.all flatV = true ∧ Q (.bl (if neg then !inV x xs else inV x xs)) H
end
/-! ### comprehensions that only read, whole -/
/-! ### heap-abstract: + of lists, xs[i] = v -/
def rCatG : R2 := fun x y H Q => ∃ l b xs zs, x = .ref l ∧ y = .ref b ∧ H l = some (.lst xs) ∧ H b = some (.lst zs) ∧ xs.length + zs.length ≤ sizeLine ∧ ∀ p H', H p = none → Same H H' → H' p = some (.lst (xs ++ zs)) → Q (.ref p) H'
theorem op_catG {X : Cx} : OpR X (binaryOp .Add) rCatG := by
  intro pins s σ H x y v u Q I rx ry h
  obtain ⟨l, b, xs, zs, e1, e2, h1, h2, hz, q⟩ := h
  exact op_cat pins s σ H x y v u Q I rx ry ⟨l, b, xs, zs, e1, e2, h1, h2, hz, fresh_any q⟩
def rSetG : V → V → V → Hp → (Hp → Prop) → Prop := fun o i v H Q => ∃ p xs k j, o = .ref p ∧ i = .int k ∧ H p = some (.lst xs) ∧ ixN xs.length k = some j ∧ ∀ H', Mu H p (.lst (xs.set j v)) H' → Q H'
/-! ### a loop over anything whose items are known -/
/-! ### the state behind a statement, named -/
def tMs (t : TS) : TS := fun D σ H => ∃ Z : St → Hp → Prop, t { D with nx := Z } σ H ∧ ∀ σ' H', Z σ' H' → D.nx σ' H'
theorem ps_up {X : Cx} {st : Stmt} {t : TS} (h : PS X st t) : PS X st (tMs t) := by
  intro pins s σ H D I hq
  obtain ⟨Z, h1, h2⟩ := hq
  refine thn (h pins s σ H _ I h1) fun fl s' hs => ?_
  cases fl with
  | next => obtain ⟨σ', H', I', q⟩ := hs; exact ⟨σ', H', I', h2 _ _ q⟩
  | _ => exact hs
end L2

set_option Elab.async false
set_option linter.all false
set_option maxRecDepth 100000
set_option maxHeartbeats 4000000
/-! our own rules: enumerate, comprehensions that capture names -/
namespace L2
open PySem PySem.Spec PyProof.Rows
section
variable {X : Cx} {pins : List (Addr × Obj)} {σ : St} {H : Hp} {s : Shared} {h' : Heap}
theorem Inv.turnedL {t' : Nat} {ch : List Addr} (I : Inv X pins σ H s) (k : ∀ b o, b ∉ ch → s.heap.get? b = some o → h'.get? b = some o) (hf : ∀ b ∈ ch, FpOk X pins H b) : Inv X pins σ H { s with heap := h', toks := t' } := by
  have nit : ∀ b u, H b = some u → b ∉ ch := fun b u e z => by rw [(hf b z).1] at e; cases e
  refine I.step (g' := s.gens) (d' := s.drawn) (ch := ch) (fun b hb => ?_) (fun b o _ _ hc e _ => k b o hc e) (fun b o _ _ hc e _ => ⟨o.slots, k b o hc e⟩) (fun _ _ _ _ n => n)
    (fun b o hc e => ⟨o, k b o hc e⟩) (fun _ _ e => e) (fun _ _ _ e => e) (fun b ps e => ⟨#[], by rw [e]; simp⟩) (fun m hm => ?_) (fun b u e => ?_) I.bare
  · obtain ⟨_, f1, _, f3, f4, f5⟩ := hf b hb
    exact ⟨f3, f1, f4, f5⟩
  · obtain ⟨o, es, ep, ho, r⟩ := hm
    exact ⟨o, es, ep, k _ o (fun z => (hf _ z).2.1 rfl) ho, r⟩
  · refine (I.hok b u e).stay (fun c v hc q => k c v ?_ q) (fun _ q => q) fun _ _ q => q
    rcases hc with z | z
    · rw [z]; exact nit b u e
    · exact nit c _ z
end
/-! ### enumerate of a list -/
/-! ### a comprehension's items, by a relation -/
inductive F2 (R : V → V → Prop) : List V → List V → Prop
  | nil : F2 R [] []
  | cons {x v : V} {xs vs : List V} : R x v → F2 R xs vs → F2 R (x :: xs) (v :: vs)
theorem F2.snoc {R : V → V → Prop} {x v : V} : ∀ {xs vs : List V}, F2 R xs vs → R x v → F2 R (xs ++ [x]) (vs ++ [v])
  | _, _, .nil, r => .cons r .nil
  | _, _, .cons a t, r => .cons a (t.snoc r)
theorem F2.length {R : V → V → Prop} : ∀ {xs vs : List V}, F2 R xs vs → vs.length = xs.length
  | _, _, .nil => rfl
  | _, _, .cons _ t => by rw [List.length_cons, List.length_cons, t.length]
theorem F2.all {R : V → V → Prop} {P : V → Prop} (h : ∀ x v, R x v → P v) : ∀ {xs vs : List V}, F2 R xs vs → ∀ v ∈ vs, P v
  | _, _, .nil => fun v hv => absurd hv List.not_mem_nil
  | _, _, .cons a t => fun v hv => (List.mem_cons.mp hv).elim (fun e => e ▸ h _ _ a) (t.all h v)
/-! ### the scope of a comprehension that captures names -/
theorem forIn_yield_fold {α β : Type} {f : α → β → Sem (ForInStep β)} (g : α → β → β) : ∀ (l : List α) (b : β), (∀ x ∈ l, ∀ b, f x b = pure (.yield (g x b))) → forIn l b f = pure (l.foldl (fun b x => g x b) b)
  | [], b, _ => by rw [List.forIn_nil]; rfl
  | x :: l, b, h => by
    rw [List.forIn_cons, h x List.mem_cons_self b, pure_bind]
    exact forIn_yield_fold g l (g x b) fun y hy => h y (List.mem_cons_of_mem _ hy)
def capG (env : Env) (x : Str × NameKind) (r : List (Str × Addr)) : List (Str × Addr) := if x.2 == .free then (x.1, (env.cells.lookup x.1).getD 0) :: r else r
def clOf (env : Env) (scope : Scope) : List (Str × Addr) := scope.names.foldl (fun r x => capG env x r) []
theorem closure_of {scope : Scope} {env : Env} (h : ∀ y ∈ scope.names, y.2 = .free → ∃ c, env.cells.lookup y.1 = some c) : closureFor scope env = pure (clOf env scope) := by
  simp only [closureFor]
  rw [forIn_yield_fold (capG env) scope.names [] (fun x hx b => by
    obtain ⟨n, k⟩ := x
    cases hk : (k == NameKind.free) with
    | false => simp [capG, hk]
    | true =>
      have e : k = .free := by simpa using hk
      obtain ⟨c, hc⟩ := h _ hx e
      have hc' : env.cells.lookup n = some c := hc
      simp [capG, hk, cellOf, hc'])]
  rfl
theorem cl_sub {env : Env} : ∀ (names : List (Str × NameKind)) (acc : List (Str × Addr)), (∀ y ∈ names, y.2 = .free → ∃ c, env.cells.lookup y.1 = some c) → (∀ y c, acc.lookup y = some c → env.cells.lookup y = some c) →
    ∀ y c, (names.foldl (fun r x => capG env x r) acc).lookup y = some c → env.cells.lookup y = some c
  | [], acc, _, ha, y, c, e => ha y c e
  | (n, k) :: names, acc, h, ha, y, c, e => by
    refine cl_sub names (capG env (n, k) acc) (fun z hz => h z (List.mem_cons_of_mem _ hz)) (fun z d ez => ?_) y c e
    unfold capG at ez
    split at ez
    · rename_i hk
      have hk' : k = .free := by simpa using hk
      obtain ⟨c', hc'⟩ := h _ List.mem_cons_self hk'
      have hc' : env.cells.lookup n = some c' := hc'
      rw [List.lookup_cons] at ez
      split at ez
      · rename_i hzn
        have : z = n := by simpa using hzn
        subst this
        rw [hc'] at ez ⊢
        exact ez
      · exact ha z d ez
    · exact ha z d ez
theorem cl_has {env : Env} : ∀ (names : List (Str × NameKind)) (acc : List (Str × Addr)) (y : Str), ((y, NameKind.free) ∈ names ∨ (acc.lookup y).isSome) → ((names.foldl (fun r x => capG env x r) acc).lookup y).isSome
  | [], acc, y, h => h.elim (fun z => absurd z List.not_mem_nil) id
  | (n, k) :: names, acc, y, h => by
    refine cl_has names (capG env (n, k) acc) y ?_
    rcases h with h | h
    · rcases List.mem_cons.mp h with h | h
      · obtain ⟨rfl, rfl⟩ := Prod.mk.inj h
        right
        simp [capG]
      · exact .inl h
    · right
      unfold capG
      split
      · rw [List.lookup_cons]
        split
        · rfl
        · exact h
      · exact h
theorem lookup_relabel_free {env : Env} : ∀ {names : List (Str × NameKind)} {x : Str}, names.lookup x = some .free →
    (names.map fun (n, k) => if (k == NameKind.free && env.scope.kind == .function && env.kindOf n == some .cell) then (n, NameKind.cell) else (n, k)).lookup x = some .cell ∨
    (names.map fun (n, k) => if (k == NameKind.free && env.scope.kind == .function && env.kindOf n == some .cell) then (n, NameKind.cell) else (n, k)).lookup x = some .free
  | [], _, h => by simp at h
  | (n, k) :: r, x, h => by
    have ih := @lookup_relabel_free env r x
    rw [List.lookup_cons] at h
    rw [List.map_cons]
    cases hx : x == n with
    | true =>
      rw [hx] at h
      have hk : k = .free := by simpa using h
      subst hk
      dsimp only
      split
      · left; rw [List.lookup_cons, hx]
      · right; rw [List.lookup_cons, hx]
    | false =>
      rw [hx] at h
      dsimp only
      split
      · rw [List.lookup_cons, hx]; exact ih h
      · rw [List.lookup_cons, hx]; exact ih h
/-! ### str(x) of a text or an int; try .. except C: -/
def tTry0 (K : PySem.W.Frag) (B : Addr) (t : TX) (th : TS) : TS := fun D σ H => t σ H (fun _ H1 => D.nx σ H1) fun cls _ H1 => ∃ C, cls = .ref C ∧ PySem.W.exmOne K (.ref C) (.ref B) = some true ∧ th D σ H1
section
variable {X : Cx} {B : Addr} {cx : Str} {e : Expr} {b0 : Stmt} {suite : List Stmt} {ep np hpos pos : Pos} {t : TX} {th : TS}
end
/-! ### a loop, its iterable read first -/
def ForJ (J : It) (g : TG) (tb : TS) (D : Ends) (σ : St) (H1 : Hp) : Prop := ∃ W : Nat → Nat → St → Hp → Prop, (∃ m, W 0 m σ H1) ∧ ∀ i m σ H, W i m σ H →
  (J.stop i H ∧ D.nx σ H) ∨ (J.go i H ∧ ∃ N : St → Hp → Prop, (∀ σ' H', N σ' H' → ∃ m', m' < m ∧ W (i + 1) m' σ' H') ∧ ∀ x H', J.yld i H x H' → g x σ H' fun σ2 H2 => tb { D with nx := N, ct := N, bk := D.nx } σ2 H2)
theorem tfor_in {wi : TI} {g : TG} {tb : TS} {D : Ends} {σ : St} {H : Hp} (h : wi σ H fun J H1 => ForJ J g tb D σ H1) : tFor wi g tb D σ H := h
end L2

set_option Elab.async false
set_option linter.all false
set_option maxRecDepth 100000
set_option maxHeartbeats 4000000
/-! our own rules: for k in d (d a tracked dict), list.pop, list * int, over the abstract heap -/
namespace L2
open PySem PySem.Spec PyProof.Rows
section
variable {X : Cx} {pins : List (Addr × Obj)} {σ : St} {H : Hp} {s : Shared}
def NoFz (X : Cx) (d : Addr) : Prop := ∀ o u, X.H₀ d ≠ some (.frz o u)
theorem Inv.retag {d : Addr} {u u' : HO} (I : Inv X pins σ H s) (hd : H d = some u) (n1 : ∀ xs, u ≠ .tup xs) (n2 : NoFz X d) (n3 : ∀ ps, u ≠ .tbl ps) (n4 : ∀ x, u ≠ .own x) (new : ObjOk X.prog X.w (upd H d u') s.heap d u') : Inv X pins σ (upd H d u') s := by
  have ne : ∀ {b : Addr}, H b = none → b ≠ d := fun h z => by rw [z, hd] at h; cases h
  have sub : ∀ {b : Addr}, H b = none → upd H d u' b = none := fun {b} h => by rw [upd_ne (ne h)]; exact h
  have bs := I.base
  refine ⟨I.ok, I.os, I.bare, ⟨bs.keep, bs.slot, fun b o e n hx => sub (bs.free b o e n hx), bs.there, fun b xs e => ?_, fun b o v e => ?_, fun b ps e => ?_⟩, I.loc, I.cell, sub I.free, fun x c e => sub (I.freeC x c e), fun p hp => ?_, fun a v e => ?_, I.len⟩
  · have := bs.tups b xs e
    have nb : b ≠ d := fun z => by rw [z, hd] at this; exact n1 xs (Option.some.inj this)
    rw [upd_ne nb]; exact this
  · have nb : b ≠ d := fun z => n2 o v (by rw [← z]; exact e)
    rw [upd_ne nb]; exact bs.frzs b o v e
  · obtain ⟨more, h1⟩ := bs.tbls b ps e
    have nb : b ≠ d := fun z => by rw [z, hd] at h1; exact n3 _ (Option.some.inj h1)
    exact ⟨more, by rw [upd_ne nb]; exact h1⟩
  · obtain ⟨p1, p2, p3, p4, p5⟩ := I.pin p hp
    exact ⟨p1, sub p2, p3, p4, p5⟩
  · by_cases ha : a = d
    · subst ha
      rw [upd_same] at e
      cases e
      exact new
    · rw [upd_ne ha] at e
      refine (I.hok a v e).stay (fun _ _ _ q => q) (fun b q => ?_) fun b xs q => ?_
      · have nb : b ≠ d := fun z => by rw [z, hd] at q; exact n4 _ (Option.some.inj q)
        rw [upd_ne nb]; exact q
      · have nb : b ≠ d := fun z => by rw [z, hd] at q; exact n1 _ (Option.some.inj q)
        rw [upd_ne nb]; exact q
theorem Inv.nofz {d : Addr} {kvs : List (Key × V)} (I : Inv X pins σ H s) (hd : H d = some (.dK kvs)) : NoFz X d := fun o u e => by
  have := I.base.frzs d o u e
  rw [hd] at this; cases this
end
/-! ### for k in d -/
theorem relV_key {k : Key} {v : Value} (h : keyIs k v = true) : RelV (kV k) v := by
  rcases keyIs_shape h with ⟨i, t, rfl, rfl⟩ | ⟨x, t, rfl, rfl⟩
  · exact ⟨t, rfl⟩
  · exact ⟨t, rfl⟩
def tDGetR (td ty : TE) : TE := fun σ H Q => td σ H fun x H1 => ty σ H1 fun y H2 => ∃ a kvs k v, x = .ref a ∧ Rd H2 a (.dK kvs) ∧ keyOf y = some k ∧ valV kvs k = some v ∧ Q v H2
/-! ### pop, and a list taken n times -/
section
variable {X : Cx}
def rPopG : V → List V → Hp → VK → Prop := fun x vs H Q => ∃ l xs y, x = .ref l ∧ vs = [] ∧ H l = some (.lst (xs ++ [y])) ∧ ∀ H', Mu H l (.lst xs) H' → Q y H'
theorem mt_popG : MtR X "list.pop" rPopG := by
  intro pins s σ H x vs v us Q I rx rv h
  obtain ⟨l, xs, y, e1, e2, hH, q⟩ := h
  refine mt_pop pins s σ H x vs v us Q I rx rv ⟨l, xs ++ [y], y, e1, e2, hH, ?_, ?_⟩
  · rw [List.length_append, List.length_singleton, Nat.add_sub_cancel]
    simp
  · rw [List.dropLast_concat]
    exact q _ .mk'
def rRepG : R2 := fun x y H Q => ∃ l k xs, x = .ref l ∧ y = .int k ∧ H l = some (.lst xs) ∧ -(2 ^ 63) ≤ k ∧ k < 2 ^ 63 ∧ xs.length * k.toNat ≤ sizeLine ∧ ∀ p H', H p = none → Same H H' → H' p = some (.lst (List.replicate k.toNat xs).flatten) → Q (.ref p) H'
end
/-! ### a list unpacked -/
section
variable {prog : Program} {w : World} {A : Around} {E : Value → Shared → Prop} {s : Shared}
end
def gLstG (n : Nat) (t : TGs) : TG := fun v σ H Q => ∃ a xs, v = .ref a ∧ H a = some (.lst xs) ∧ xs.length = n ∧ t xs σ H Q
end L2

set_option Elab.async false
set_option linter.all false
set_option maxRecDepth 100000
set_option maxHeartbeats 4000000
/-! our own rules: sum, sorted, list.insert, dict.pop, list(..), comprehensions with any target, over the abstract heap -/
namespace L2
open PySem PySem.Spec PyProof.Rows
theorem ints_are : ∀ {ns : List Int} {its : List Value}, Vals (ns.map V.int) its → IntsAre its ns
  | [], _, .nil => .nil
  | n :: ns, _, .cons h r => by
    obtain ⟨t, rfl⟩ := h
    exact .cons n t (ints_are r)
theorem are_ints : ∀ {ns : List Int} {its : List Value}, IntsAre its ns → Vals (ns.map V.int) its
  | _, _, .nil => .nil
  | _, _, .cons n t r => .cons ⟨t, rfl⟩ (are_ints r)
def rSum : List V → Hp → VK → Prop := fun xs H Q => ∃ (p : Addr) (ns : List Int), xs = [.ref p] ∧ H p = some (.lst (ns.map V.int)) ∧ Q (.int ns.sum) H
theorem call_sum {X : Cx} (hc : X.calm = true) : CallR X (.builtin "sum") rSum := by
  intro pins s σ H xs us Q I r h
  obtain ⟨p, ns, rfl, hp, q⟩ := h
  obtain ⟨u, rfl, ru⟩ := vals1 r
  cases ru
  obtain ⟨its, rv, pl, hz⟩ := I.list (SqL.of hp)
  have hi := ints_are rv
  obtain ⟨xs, hx⟩ := hi.allInts.items
  have hl : s.heap.IsList p (intItems xs) := hx ▸ pl.isList
  refine PySem.sum_intListG (I.ok.hd hc) hl fun h' tk t' hk => ?_
  have e1 : ns = xs.toList.map (·.1) := by
    rw [← nums_intItems, ← hx]
    exact (show numsOf its.toArray.toList = ns from hi.numsOf).symm
  have e2 : preSum (numAt xs) xs.size = ns.sum := by
    rw [preSum_eq, List.take_of_length_le (by simp), e1]
  rw [e2]
  exact ⟨.int ns.sum, H, I.kept hk, ⟨t', rfl⟩, q⟩
def rSort : List V → Hp → VK → Prop := fun xs H Q => ∃ (p : Addr) (ns : List Int), xs = [.ref p] ∧ (H p = some (.lst (ns.map V.int)) ∨ ∃ kvs : List (Key × V), H p = some (.dK kvs) ∧ kvs.map (·.1) = ns.map Sum.inl) ∧ ns.length < 64 ∧
  ∀ D H' ms, H D = none → Same H H' → H' D = some (.lst (ms.map V.int)) → List.Perm ms ns → List.Pairwise (fun x y => x ≤ y) ms → Q (.ref D) H'
theorem call_sorted {X : Cx} (hc : X.calm = true) : CallR X (.builtin "sorted") rSort := by
  intro pins s σ H xs us Q I r h
  obtain ⟨p, ns, rfl, hp, h64, q⟩ := h
  obtain ⟨u, rfl, ru⟩ := vals1 r
  cases ru
  rcases hp with hp | ⟨kvs, hp, hk⟩
  · obtain ⟨its, rv, pl, hz⟩ := I.list (SqL.of hp)
    have hi := ints_are rv
    have hl : its.length = ns.length := by have := rv.length; rw [List.length_map] at this; exact this.symm
    refine sorted_ints pl.isList hi (by omega) fun out ns' a1 a2 a3 => ?_
    obtain ⟨e, he⟩ := sortedAll_at s.heap its out
    have ln : ns'.length ≤ sizeLine := by have := a2.length_eq; unfold sizeLine; omega
    have fr : H (s.heap.objs.size + 1) = none := I.hok.fresh (Nat.le_succ _)
    have I2 := I.laid (a := s.heap.objs.size + 1) (o := .lst (ns'.map V.int)) (t' := s.toks) (fun b u e => sortedAll_old e) (Nat.le_succ _) (show ObjOk X.prog X.w _ (sortedAll s.heap its out) _ (.lst (ns'.map V.int)) from ⟨by rw [List.length_map]; exact ln, out.toList, e, are_ints a1, he⟩)
    exact ⟨.ref (s.heap.objs.size + 1), _, I2, rfl, q _ _ _ fr (same_new fr _) upd_same a2 a3⟩
  · obtain ⟨z1, z2, vs, rel, o, es, ep, ho, r⟩ := dk_of I.hok hp
    have D0 : s.heap.DictAt (mixKind X.prog X.w) p vs ep := ⟨o, es, ho, r⟩
    have lv : vs.length = ns.length := by
      have h1 := rel.length
      have h2 := congrArg List.length hk
      rw [List.length_map, List.length_map] at h2
      omega
    refine PySem.Calls.call_function_entry kind_sorted plain_sorted entry_sorted (args_sorted1 _) ?_
    unfold Builtin.«sorted»
    refine wpAny_bind (m := checkCount "sorted" 1 1 _) (wpAny_pure ?_)
    refine wpAny_bind (PySem.W.kdu_collect (A := X.A.in1) (PySem.W.kdl_dict (knd := mixKind X.prog X.w) (kvs := vs) (ep := ep) z2) (show X.A.in1.handled = none from I.ok.hd hc) D0 (by rw [lv]; unfold sizeLine; omega) fun h' tk acc hkp hacc => ?_)
    have hla : acc.toList.length = ns.length := by rw [Array.length_toList, hacc.1, lv]
    refine wpAny_bind (wpAny_newList ?_ (by rw [hla]; unfold sizeLine; omega))
    have hi : IntsAre acc.toList ns := by
      have key : ∀ (n : Nat) (l : List Value) (ms : List Int), l.length = ms.length → (∀ (j : Nat) (v : Value), l[j]? = some v → ∃ i t, ms[j]? = some i ∧ v = Value.int i t) → IntsAre l ms := by
        intro n l
        induction l with
        | nil => intro ms hl _; cases ms with
          | nil => exact .nil
          | cons _ _ => cases hl
        | cons v l ih =>
          intro ms hl hv
          cases ms with
          | nil => cases hl
          | cons i ms =>
            obtain ⟨i', t, e1, rfl⟩ := hv 0 v rfl
            cases e1
            exact .cons _ t (ih ms (by simpa using hl) fun j v e => by simpa using hv (j + 1) v (by simpa using e))
      refine key 0 _ _ hla fun j v e => ?_
      obtain ⟨k, x, hx, hkv⟩ := hacc.2 j v (by rw [← Array.getElem?_toList]; exact e)
      obtain ⟨h1, h2⟩ := List.getElem?_eq_some_iff.mp hx
      have hj : j < kvs.length := by have := rel.length; omega
      have ek : (kvs[j]).1 = k := by
        have h1 := congrArg (fun l : List Key => l[j]?) rel.keys
        simp only [List.getElem?_map, List.getElem?_eq_getElem hj, hx, Option.map_some] at h1
        exact Option.some.inj h1
      have e3 := congrArg (fun l : List Key => l[j]?) hk
      simp only [List.getElem?_map, List.getElem?_eq_getElem hj, Option.map_some] at e3
      have hjn : j < ns.length := by omega
      rw [List.getElem?_eq_getElem hjn] at e3
      simp only [Option.map_some, Option.some.injEq] at e3
      rw [ek] at e3
      subst e3
      rcases keyIs_shape (show keyIs (Sum.inl ns[j]) v = true from hkv) with ⟨i, t, e4, rfl⟩ | ⟨z, t, e4, _⟩
      · cases e4
        exact ⟨_, t, List.getElem?_eq_getElem hjn, rfl⟩
      · cases e4
    have hoL : (h'.push (seqObj "list" acc.toList.toArray 0)).get? h'.objs.size = some (seqObj "list" acc.toList.toArray 0) := Heap.get?_push_size _ rfl
    refine wpAny_bind (wpAny_holding (PySem.wpAny_call_entry slot_list_sort ⟨_, hoL, rfl⟩ entry_list_sort (list_sort_tree hoL hi (by omega) fun out ns' a1 a2 a3 => ⟨_, rfl, ?_⟩) (args_list_sort _)))
    refine wpAny_pure ⟨_, rfl, ?_⟩
    obtain ⟨e, he⟩ := sortedHeap_at (vs := acc.toList) (out := out) hoL
    have I1 : Inv X pins σ H { s with heap := h', toks := tk } := I.kept hkp
    have ln : ns'.length ≤ sizeLine := by have := a2.length_eq; unfold sizeLine; omega
    have fr : H h'.objs.size = none := I1.hok.fresh (Nat.le_refl _)
    have kp : ∀ b o, h'.get? b = some o → (sortedHeap (h'.push (seqObj "list" acc.toList.toArray 0)) h'.objs.size acc.toList out).get? b = some o := fun b o e1 => by
      have l1 := Heap.lt_size e1
      rw [sortedHeap_old (Nat.ne_of_lt l1) (by rw [Heap.size_push]; exact Nat.lt_succ_of_lt l1)]
      exact Heap.get?_push_of_some _ e1
    have I2 := I1.laid (a := h'.objs.size) (o := .lst (ns'.map V.int)) (t' := tk) kp (Nat.le_refl _) (show ObjOk X.prog X.w _ _ _ (.lst (ns'.map V.int)) from ⟨by rw [List.length_map]; exact ln, out.toList, e, are_ints a1, he⟩)
    exact ⟨.ref h'.objs.size, _, I2, rfl, q _ _ _ fr (same_new fr _) upd_same a2 a3⟩
/-! ### list(..), list.insert, dict.pop -/
def rListG (K : PySem.W.Frag) : List V → Hp → VK → Prop := fun xs H Q => ∃ p ys, xs = [.ref p] ∧ (H p = some (.lst ys) ∨ H p = some (.tup ys)) ∧ ∀ l H', H l = none → Same H H' → H' l = some (.lst ys) → Q (.ref l) H'
theorem call_listG {X : Cx} : CallR X (.type "list") (rListG X.K) := by
  intro pins s σ H xs us Q I r h
  obtain ⟨p, ys, e, hp, q⟩ := h
  exact call_list_of pins s σ H xs us Q I r ⟨p, ys, e, hp.elim (fun h => .inl (SqL.of h)) (fun h => .inr (.inl (.inl h))), fresh_any q⟩
def insL (xs : List V) (k : Nat) (y : V) : List V := xs.take k ++ y :: xs.drop k
def rInsG : V → List V → Hp → VK → Prop := fun x vs H Q => ∃ l xs k y, x = .ref l ∧ vs = [.int k, y] ∧ H l = some (.lst xs) ∧ 0 ≤ k ∧ k ≤ xs.length ∧ xs.length < 1000 ∧ ∀ H', Mu H l (.lst (insL xs k.toNat y)) H' → Q .non H'
def tDPopG (td ty : TE) : TE := fun σ H Q => td σ H fun x H1 => ∃ a, x = .ref a ∧ (∃ kvs, H1 a = some (.dK kvs)) ∧ ty σ H1 fun y H2 => ∃ kvs k v, H2 a = some (.dK kvs) ∧ keyOf y = some k ∧ valV kvs k = some v ∧ ∀ H', Mu H2 a (.dK (dropK kvs k)) H' → Q v H'
theorem pe_dpopG {X : Cx} {o e : Expr} {apos cpos : Pos} {td ty : TE} (ho : PE X o td) (he : PE X e ty) (m : M1 X o "pop" apos e cpos) : PE X (.Call (.Attribute o "pop" apos) [e] [] cpos) (tDPopG td ty) := by
  intro pins s σ H Q I h
  exact pe_dpop1 ho.up he.up m pins s σ H Q I ⟨_, h, fun x H1 ⟨a, e, ⟨kvs, hk⟩, q⟩ => ⟨a, e, .inl ⟨kvs, Rd.of hk⟩, _, q, fun y H2 ⟨kvs, k, v, h2, ek, ev, q⟩ => ⟨kvs, k, v, h2, kV_of ek, ev, q _ .mk'⟩⟩⟩
/-! ### comprehensions with any target -/
section
variable {prog : Program} {w : World} {A : Around} {s : Shared}
theorem cl_loop {elt target iter : PySem.Expr} {ifs : List PySem.Expr} {scope : Scope} {pos : Pos} {it acc : Value} {env : Env} {R : Result → Shared → Prop} (I : Nat → Shared → Prop)
    (turn : ∀ n s, I n s → wpAny (model prog w) A (pyNext it) (fun r s₁ => match r with
      | none => R (.ok .next) s₁
      | some v => wpAny (model prog w) A (letOwnedTupleGo target it v) (fun _ s₀ => wpAny (model prog w) A (assign target env v) (fun _ s₂ =>
          wpAny (model prog w) A (forIn ifs true fun c r => if r = true then do let ok ← isTrue c env (eval c env); pure (ForInStep.yield ok) else pure (ForInStep.yield r)) (fun ok s₃ => if ok = true then wpAny (model prog w) A (eval elt env) (fun x s₄ =>
            wpAny (model prog w) A (call (.builtin "list.append") [acc, x]) (fun _ s₅ => ∃ m, m < n ∧ I m s₅) (notedBy (model prog w) A env fun e s' => R (.error e) s') s₄) (notedBy (model prog w) A env fun e s' => R (.error e) s') s₃
            else ∃ m, m < n ∧ I m s₃) (notedBy (model prog w) A env fun e s' => R (.error e) s') s₂)
          (notedBy (model prog w) A env fun e s' => R (.error e) s') s₀) (notedBy (model prog w) A env fun e s' => R (.error e) s') s₁) (notedBy (model prog w) A env fun e s' => R (.error e) s') s)
    (n : Nat) (h : I n s) : codeAny (model prog w) A (.compLoop (.ListComp elt [⟨target, iter, ifs, 0⟩] scope pos) 0 it acc env) R s := by
  refine codeAny_loop rfl I (fun n s hI => ?_) n h
  refine (show wpAny _ A ((compTurn (.ListComp elt [⟨target, iter, ifs, 0⟩] scope pos) 0 it acc env).onRaise _) _ _ s from wpAny_noted ?_)
  rw [compTurn_list]
  refine wpAny_bind (wpAny_standAt (wpAny_bind (wpAny_mono (turn n s hI) (fun r s1 q1 => ?_) fun _ _ z => z)))
  cases r with
  | none => exact wpAny_pure q1
  | some v =>
    refine wpAny_bind (wpAny_mono q1 (fun _ s2 q2 => wpAny_bind (wpAny_mono q2 (fun _ s3 q3 => wpAny_bind (wpAny_mono q3 (fun b s4 q4 => ?_) fun _ _ z => z)) fun _ _ z => z)) fun _ _ z => z)
    cases b with
    | false => exact wpAny_pure ⟨rfl, q4⟩
    | true => exact wpAny_bind (wpAny_bind (wpAny_mono q4 (fun x s5 q5 => wpAny_bind (wpAny_mono q5 (fun _ s6 q6 => wpAny_pure (wpAny_pure ⟨rfl, q6⟩)) fun _ _ z => z)) fun _ _ z => z))
end
structure CompScopeN (X : Cx) (scope : Scope) (cl : List (Str × Addr)) (N : List Str) (cap : List Nat) (k : Nat) : Prop where
  kind : scope.kind = .function
  clos : X.Ok → closureFor scope X.env = pure cl
  ncell : ∀ y ∈ scope.names, y.2 ≠ .cell
  names : ∀ y ∈ scope.names, y.2 = .local → scope.names.lookup y.1 = some .local
  nd : N.Nodup
  has : ∀ y, ((relabel scope X.env).names.lookup y = some .cell ∨ (relabel scope X.env).names.lookup y = some .free) → ∃ c, cl.lookup y = some c
  sub : X.Ok → ∀ y c, cl.lookup y = some c → X.env.cells.lookup y = some c
  len : N.length = cap.length + k
  cap : ∀ (j i : Nat) (y : Str), N[j + k]? = some y → cap[j]? = some i → X.N[i]? = some y ∧ Vis X.env.scope y ∧ X.env.kindOf y ≠ some .local ∧ ((relabel scope X.env).names.lookup y = some .cell ∨ (relabel scope X.env).names.lookup y = some .free)
def frameN (k : Nat) (σ : St) (cap : List Nat) : St := List.replicate k none ++ capOf σ cap
def tCompN (k : Nat) (cap : List Nat) (wi : TI) (g : TG) (tc : TT) (te : TE) : TE := fun σ H Q => wi σ H fun J H1 => ∀ D, H1 D = none → ∃ W : Nat → Nat → St → Hp → Prop, (∃ m, W 0 m (frameN k σ cap) (upd H1 D (.lst []))) ∧ ∀ i m σ1 H, W i m σ1 H →
  (J.stop i H ∧ Q (.ref D) H) ∨ (J.go i H ∧ ∀ x H', J.yld i H x H' → g x σ1 H' fun σ2 H1 => tc σ2 H1 fun b H2 => if b = true then te σ2 H2 fun v H3 => ∃ ys, H3 D = some (.lst ys) ∧ ys.length < sizeLine ∧ ∃ m', m' < m ∧ W (i + 1) m' σ2 (upd H3 D (.lst (ys ++ [v])))
    else ∃ m', m' < m ∧ W (i + 1) m' σ2 H2)
section
variable {X : Cx} {pins : List (Addr × Obj)} {σ : St} {H : Hp} {s : Shared} {scope : Scope} {cl : List (Str × Addr)} {N : List Str} {cap : List Nat} {k : Nat}
theorem Inv.enterN {fp : List Addr} {h' : Heap} {tk : Nat} (S : CompScopeN X scope cl N cap k) (I : Inv X pins σ H s) (f : ∀ b ∈ fp, FpOk X pins H b ∧ b < s.heap.objs.size) (hn : h'.Ns s.heap.objs.size fun _ => none)
    (kp : ∀ b o, s.heap.get? b = some o → h'.get? b = some o) : Inv (X.comp scope cl N s.heap.objs.size fp s H) [] (frameN k σ cap) H { s with heap := h', toks := tk } := by
  have nC : ∀ b o, s.heap.get? b = some o → b ≠ s.heap.objs.size := fun b o e => Nat.ne_of_lt (Heap.lt_size e)
  have ok := I.ok
  have cellOut : ∀ y c, cl.lookup y = some c → ∃ v, s.heap.IsCell c v := fun y c e => I.cell y c (S.sub I.ok y c e)
  refine ⟨⟨ok.mod, ?_, ok.glob, ok.blt, Nat.le_refl _, fun x y c a b => ok.inj x y c (S.sub I.ok x c a) (S.sub I.ok y c b), S.has, fun _ _ z => absurd z Bool.false_ne_true, ok.hd, ok.frames, .inl rfl, fun b hb => ⟨Nat.ne_of_lt (f b hb).2, fun y c e => (f b hb).1.2.2.2.2.1 y c (S.sub I.ok y c e)⟩, I.bs, Nat.le_trans ok.bsz I.sz, fun b o e hb => ?_, fun b hb z => ?_, I.stack, I.stkFree⟩,
    rfl, I.bare, Un.kept kp, ⟨_, hn, fun i y v a b c => ?_⟩, fun y c e => ?_, I.hok.fresh (Nat.le_refl _), fun y c e => I.freeC y c (S.sub I.ok y c e), fun p hp => by simp at hp, I.hok.kept kp, ?_⟩
  · exact S.kind
  · have := (f b hb).1.2.2.2.1
    rcases this with z | z
    · exact ok.noex b o e z
    · have l1 := Heap.lt_size e
      exact absurd (Nat.lt_of_lt_of_le l1 (Nat.le_trans ok.bsz z)) (Nat.lt_irrefl _)
  · rcases List.mem_cons.mp (I.stkSub b z) with q | q
    · exact (f b hb).1.2.1 q
    · exact (f b hb).1.2.2.1 q
  · unfold frameN at b
    by_cases hik : i < k
    · rw [List.getElem?_append_left (by rw [List.length_replicate]; exact hik)] at b
      simp [hik] at b
    · obtain ⟨j, rfl⟩ : ∃ j, i = j + k := ⟨i - k, by omega⟩
      rw [List.getElem?_append_right (by rw [List.length_replicate]; omega), List.length_replicate, Nat.add_sub_cancel] at b
      unfold capOf at b
      rw [List.getElem?_map] at b
      cases e : cap[j]? with
      | none => rw [e] at b; cases b
      | some i =>
        rw [e] at b
        have b : (σ[i]?).join = some v := by simpa using b
        obtain ⟨p1, p2, p3, p4⟩ := S.cap j i y a e
        have b' : σ[i]? = some (some v) := by
          cases q : σ[i]? with
          | none => rw [q] at b; cases b
          | some w => rw [q] at b; exact congrArg some b
        obtain ⟨m, hm, hl⟩ := I.loc
        obtain ⟨u, ru, l⟩ := hl i y v p1 b' p2
        refine ⟨u, ru, .inr ⟨p4, ?_⟩⟩
        rcases l with l | ⟨l, c0, e0, o', q', hd'⟩
        · exact absurd l.1 p3
        · obtain ⟨c, ec⟩ := S.has y p4
          have := S.sub I.ok y c ec
          rw [e0] at this
          cases this
          exact ⟨c0, ec, o', kp _ _ q', hd'⟩
  · obtain ⟨v, o, q, hd⟩ := cellOut y c e
    exact ⟨v, o, kp _ _ q, hd⟩
  · show (frameN k σ cap).length = N.length
    unfold frameN capOf
    rw [S.len, List.length_append, List.length_replicate, List.length_map]
    omega
end

section
variable {X : Cx} {scope : Scope} {cl : List (Str × Addr)} {N : List Str} {cap : List Nat} {k : Nat} {tg : Expr} {g : TG} {pos : Pos} {iter elt : Expr} {ifs : List Expr} {wi : TI} {tc : TT} {te : TE}
theorem comp_coreN {use : Option (Value → Sem Unit)} {Qv : Value → Shared → Prop} {pins : List (Addr × Obj)} {s : Shared} {σ : St} {H : Hp} {Q : VK} {pos' : Pos} (S : CompScopeN X scope cl N cap k) (hc : X.calm = true) (hi : PI X tg iter wi) (hg : ∀ C fp s₀ H₀, PG (X.comp scope cl N C fp s₀ H₀) tg g)
    (ht : ∀ C fp s₀ H₀, PTs (X.comp scope cl N C fp s₀ H₀) ifs tc) (he : ∀ C fp s₀ H₀, PE (X.comp scope cl N C fp s₀ H₀) elt te) (hs : ∀ x, foldedSetIterable iter X.env x = pure x)
    (I : Inv X pins σ H s) (h : tCompN k cap wi g tc te σ H Q)
    (fin : ∀ (D C : Addr) (H6 : Hp) (s6 : Shared) (m : Str → Option Value), Inv X pins σ H6 s6 → FpOk X pins H6 C → s6.heap.Ns C m → Q (.ref D) H6 → compPost (model X.prog X.w) X.A X.xe use Qv (.ref D) C (.ok .next) s6) :
    wpAny (model X.prog X.w) X.A (comprehension (.ListComp elt [⟨tg, iter, ifs, 0⟩] scope pos) scope X.env pos' (newList []) false (eval iter X.env) use) Qv X.xe s := by
  refine wpAny_comprehension_free (use := use) rfl hs (S.clos I.ok) S.kind S.names (thn (hi pins s σ H _ I h) fun v s1 h1 => thn h1 fun itv s2 h2 => ?_)
  obtain ⟨it, fp, tn, J, H2, rfl, I2, T, st2, f2, q⟩ := h2
  obtain ⟨W, ⟨m0, w0⟩, turn⟩ := q s2.heap.objs.size (I2.hok.fresh (Nat.le_refl _))
  have I3 : Inv X pins σ (upd H2 s2.heap.objs.size (.lst [])) { s2 with heap := s2.heap.push { cls := .type "list", dict := none, data := .seq ([] : List Value).toArray } } :=
    I2.laid (t' := s2.toks) (fun b u e => Heap.get?_push_of_some _ e) (Nat.le_refl _) ⟨Nat.zero_le _, [], 0, .nil, Heap.get?_push_size _ rfl⟩
  refine wpAny_newObj_type (wpAny_newFunctionEnv S.ncell (by intro y hy; simp at hy) (fun h4 hns hsb => ?_) S.kind)
  generalize hs3 : ({ s2 with heap := s2.heap.push { cls := .type "list", dict := none, data := .seq ([] : List Value).toArray } } : Shared) = s3 at I3 hns hsb ⊢
  have f3 : ∀ b ∈ fp, FpOk X pins (upd H2 s2.heap.objs.size (.lst [])) b ∧ b < s3.heap.objs.size := fun b hb => by
    obtain ⟨o, ho, _⟩ := T.obj _ _ st2 b hb
    have l1 : b < s2.heap.objs.size := Heap.lt_size ho
    refine ⟨⟨?_, (f2 b hb).2⟩, ?_⟩
    · rw [upd_ne (Nat.ne_of_lt l1)]; exact (f2 b hb).1
    · rw [← hs3, Heap.size_push]; exact Nat.lt_succ_of_lt l1
  have nsN : h4.Ns s3.heap.objs.size fun _ => none := by
    have := hns
    simpa using this
  have keep4 : ∀ b o, s3.heap.get? b = some o → h4.get? b = some o := fun b o e => (hsb.2 b (Nat.ne_of_lt (Heap.lt_size e))).trans (Heap.get?_push_of_some _ e)
  have Ic := I3.enterN (tk := s3.toks + ([] : List (Str × Value)).length) S f3 nsN keep4
  have st4 : tn 0 h4 := T.keep _ _ _ st2 fun b hb o e => keep4 b o (by rw [← hs3]; exact Heap.get?_push_of_some _ e)
  have stat : ∀ {H' : Hp}, (∀ b ∈ fp, H' b = none) → ∀ b ∈ fp, FpOk (X.comp scope cl N s3.heap.objs.size fp s3 (upd H2 s2.heap.objs.size (.lst []))) [] H' b := fun hn b hb =>
    ⟨hn b hb, Nat.ne_of_lt (f3 b hb).2, fun z => (List.mem_cons.mp (I3.stkSub b z)).elim (fun q => (f3 b hb).1.2.1 q) fun q => (f3 b hb).1.2.2.1 q, .inl hb, fun y c e => (f3 b hb).1.2.2.2.2.1 y c (S.sub I.ok y c e), fun p hp => by simp at hp⟩
  have out : ∀ {σx : St} {H6 : Hp} {s6 : Shared}, Inv (X.comp scope cl N s3.heap.objs.size fp s3 (upd H2 s2.heap.objs.size (.lst []))) [] σx H6 s6 → Q (.ref s2.heap.objs.size) H6 →
      compPost (model X.prog X.w) X.A X.xe use Qv (Value.ref s2.heap.objs.size) s3.heap.objs.size (.ok .next) s6 := fun {σx H6 s6} I6 q6 => by
    obtain ⟨m, hm, _⟩ := I6.loc
    have Io : Inv X pins σ H6 s6 := I3.call' I6.os I6.base I6.hok I6.bare fun b hb => ⟨(f3 b hb).1.2.2.2.1, (f3 b hb).1.2.1, (f3 b hb).1.2.2.2.2.1, (f3 b hb).1.2.2.2.2.2⟩
    exact fin _ _ _ _ m Io (I3.fpOk (b := s3.heap.objs.size) (H' := H6) (Nat.le_refl _) I6.free) hm q6
  have loop : codeAny (model X.prog X.w) X.A (.compLoop (.ListComp elt [⟨tg, iter, ifs, 0⟩] scope pos) 0 (.ref it) (.ref s2.heap.objs.size) (compEnvC scope cl s3.heap.objs.size X.env))
      (compPost (model X.prog X.w) X.A X.xe use Qv (Value.ref s2.heap.objs.size) s3.heap.objs.size) { s3 with heap := h4, toks := s3.toks + ([] : List (Str × Value)).length } := by
    refine cl_loop (fun n s' => ∃ i σx H', Inv (X.comp scope cl N s3.heap.objs.size fp s3 (upd H2 s2.heap.objs.size (.lst []))) [] σx H' s' ∧ tn i s'.heap ∧ (∀ b ∈ fp, H' b = none) ∧ W i n σx H') ?_ m0 ⟨0, _, _, Ic, st4, fun b hb => (f3 b hb).1.1, w0⟩
    rintro n s5 ⟨i, σx, H5, I5, st5, fr5, w5⟩
    rcases turn i n σx H5 w5 with ⟨stop, qd⟩ | ⟨go, step⟩
    · refine wpAny_mono (T.done (X.comp scope cl N s3.heap.objs.size fp s3 (upd H2 s2.heap.objs.size (.lst []))) rfl rfl rfl hc i [] s5 _ H5 (fun _ _ => False) I5 (stat fr5) st5 stop) (fun r s6 ⟨hr, I6⟩ => ?_) fun _ _ z => z.elim
      subst hr
      exact out I6 qd
    · refine wpAny_mono (T.item (X.comp scope cl N s3.heap.objs.size fp s3 (upd H2 s2.heap.objs.size (.lst []))) rfl rfl rfl hc i [] s5 _ H5 (fun _ _ => False) I5 (stat fr5) st5 go) (fun r s6 ⟨u, hr, h6⟩ => ?_) fun _ _ z => z.elim
      subst hr
      refine wpAny_mono h6 (fun _ s7 ⟨v, H7, I7, r7, y7, st7, fr7⟩ => ?_) fun _ _ z => z.elim
      have I7' := I7.pinned (stat fr7) (T.obj _ _ st7)
      have again : ∀ {σ9 : St} {H9 : Hp} {s9 : Shared}, Inv (X.comp scope cl N s3.heap.objs.size fp s3 (upd H2 s2.heap.objs.size (.lst []))) ([] ++ pinsAt fp s7.heap) σ9 H9 s9 → (∃ m', m' < n ∧ W (i + 1) m' σ9 H9) →
          ∃ m', m' < n ∧ ∃ i σx H', Inv (X.comp scope cl N s3.heap.objs.size fp s3 (upd H2 s2.heap.objs.size (.lst []))) [] σx H' s9 ∧ tn i s9.heap ∧ (∀ b ∈ fp, H' b = none) ∧ W i m' σx H' := fun {σ9 H9 s9} I9 ⟨m', lt, w'⟩ => by
        refine ⟨m', lt, i + 1, σ9, H9, I9.unpinned, T.keep _ _ _ st7 fun b hb o e => (I9.pin (b, o) (List.mem_append_right _ (List.mem_append_right _ (mem_pinsAt hb e)))).1, fun b hb => ?_, w'⟩
        obtain ⟨o, e, d⟩ := T.obj _ _ st7 b hb
        exact (I9.pin (b, o) (List.mem_append_right _ (List.mem_append_right _ (mem_pinsAt hb e)))).2.1
      refine wpAny_mono (hg _ _ _ _ _ s7 σx H7 v u _ I7' r7 (step v H7 y7)) (fun _ s8 ⟨σ8, H8, I8, q8⟩ => ?_) fun _ _ z => z.elim
      refine wpAny_mono (ht _ _ _ _ _ s8 _ H8 _ I8 q8) (fun b s9 ⟨H9, I9, q9⟩ => ?_) fun _ _ z => z.elim
      cases b with
      | false => exact again I9 q9
      | true =>
        refine wpAny_mono (he _ _ _ _ _ s9 _ H9 _ I9 q9) (fun u' s10 ⟨v', H10, I10, r10, ys, hD, hz, q10⟩ => ?_) fun _ _ z => z.elim
        refine wpAny_mono (mt_append (X := X.comp scope cl N s3.heap.objs.size fp s3 (upd H2 s2.heap.objs.size (.lst []))) _ s10 _ H10 (.ref s2.heap.objs.size) [v'] (.ref s2.heap.objs.size) [u'] (fun _ H' => ∃ m', m' < n ∧ W (i + 1) m' σ8 H') I10 rfl (.cons r10 .nil) ⟨_, ys, v', rfl, rfl, hD, hz, q10⟩) (fun _ s11 ⟨_, H11, I11, _, q11⟩ => again I11 q11) fun _ _ z => z.elim
  exact codeAny_compStart_list loop (T.self _ 0 _ _ _ st4 loop)
theorem pe_compN (S : CompScopeN X scope cl N cap k) (hc : X.calm = true) (hi : PI X tg iter wi) (hg : ∀ C fp s₀ H₀, PG (X.comp scope cl N C fp s₀ H₀) tg g)
    (ht : ∀ C fp s₀ H₀, PTs (X.comp scope cl N C fp s₀ H₀) ifs tc) (he : ∀ C fp s₀ H₀, PE (X.comp scope cl N C fp s₀ H₀) elt te) (hs : ∀ x, foldedSetIterable iter X.env x = pure x := by intro _; rfl) :
    PE X (.ListComp elt [⟨tg, iter, ifs, 0⟩] scope pos) (tCompN k cap wi g tc te) := by
  intro pins s σ H Q I h
  rw [eval_ListComp]
  refine comp_coreN S hc hi hg ht he hs I h fun D C H6 s6 m Io Cf hm q6 => ?_
  exact ⟨m, hm, fun h' sb => ⟨.ref D, H6, Io.turned (it := C) (t' := s6.toks) (fun b o n e => (sb.2 b n).trans e) Cf.1 Cf.2.1 Cf.2.2.2.1 Cf.2.2.2.2.1 Cf.2.2.2.2.2, rfl, q6⟩⟩
theorem ps_setCN {i : Nat} {y : Str} {py spos : Pos} (hN : X.N.Nodup) (hiy : X.N[i]? = some y) (hy : Loc X.env.scope y) (S : CompScopeN X scope cl N cap k) (hc : X.calm = true) (hi : PI X tg iter wi) (hg : ∀ C fp s₀ H₀, PG (X.comp scope cl N C fp s₀ H₀) tg g)
    (ht : ∀ C fp s₀ H₀, PTs (X.comp scope cl N C fp s₀ H₀) ifs tc) (he : ∀ C fp s₀ H₀, PE (X.comp scope cl N C fp s₀ H₀) elt te) (hs : ∀ x, foldedSetIterable iter X.env x = pure x := by intro _; rfl)
    (hsw : swapsWith (.ListComp elt [⟨tg, iter, ifs, 0⟩] scope pos) (some (.Name y py)) spos.line X.env = pure true := by rfl)
    (hf : X.fn y = true ∨ X.env.scope.names.lookup y = some .local := by first | exact .inl rfl | exact .inr rfl | assumption) :
    PS X (.Assign [.Name y py] (.ListComp elt [⟨tg, iter, ifs, 0⟩] scope pos) spos) (tAsg (tCompN k cap wi g tc te) (gName i)) := by
  intro pins s σ H D I h
  rw [exec_Assign_Name_used _ _ _ _ hsw]
  refine wpAny_bind (wpAny_standAt (wpAny_bind ?_))
  show wpAny _ X.A (do let _ ← comprehension (.ListComp elt [⟨tg, iter, ifs, 0⟩] scope pos) scope X.env _ (newList []) false (eval iter X.env) (some (assign (.Name y py) X.env))) _ _ s
  refine wpAny_bind (wpAny_mono (comp_coreN (use := some (assign (.Name y py) X.env)) (Qv := fun _ s' => SP X pins D .next s') S hc hi hg ht he hs I h fun D' C H6 s6 m Io Cf hm q6 => ?_) (fun _ s' hq => wpAny_pure (wpAny_pure hq)) fun _ _ e => e)
  show wpAny _ X.A (assign (.Name y py) X.env (.ref D')) _ _ _
  refine wpAny_assign_Name (store_ok2 (v := .ref D') Io hN hiy hy rfl (fun s7 I7 hsb => ?_) hf)
  obtain ⟨a, sb, ha⟩ := hsb
  have hne : C ≠ a := fun e => ha.elim (fun q => Cf.2.1 (e.trans q)) fun q => Cf.2.2.2.2.1 _ _ q e.symm
  refine ⟨m, hm.at' fun o e => (sb.2 C hne).trans e, fun h' sb' => ?_⟩
  exact ⟨_, H6, I7.turned (it := C) (t' := s7.toks) (fun b o n e => (sb'.2 b n).trans e) Cf.1 Cf.2.1 Cf.2.2.2.1 Cf.2.2.2.2.1 Cf.2.2.2.2.2, q6⟩
end
theorem comp_scopeN (k : Nat) {X : Cx} {scope : Scope} {N : List Str} {cap : List Nat} (hk : scope.kind = .function) (h1 : scope.names.all (fun y => y.2 != .cell) = true) (h2 : scope.names.all (fun y => y.2 != .local || scope.names.lookup y.1 == some .local) = true)
    (h3 : scope.names.all (fun y => y.2 != .free || X.env.scope.names.lookup y.1 == some .cell || X.env.scope.names.lookup y.1 == some .free) = true)
    (nd : N.Nodup) (hl : N.length = cap.length + k) (hc : (N.drop k).map some = cap.map (fun i => X.N[i]?)) (hf : (N.drop k).all (fun y => scope.names.lookup y == some .free) = true) : CompScopeN X scope (clOf X.env scope) N cap k := by
  have fr : ∀ y : Str, (y, NameKind.free) ∈ scope.names → X.env.scope.names.lookup y = some .cell ∨ X.env.scope.names.lookup y = some .free := fun y hy => by
    have := List.all_eq_true.mp h3 _ hy
    simpa using this
  have nc : ∀ y ∈ scope.names, y.2 ≠ .cell := fun y hy => by
    have := List.all_eq_true.mp h1 y hy
    simpa using this
  have fr2 : X.Ok → ∀ y ∈ scope.names, y.2 = .free → ∃ c, X.env.cells.lookup y.1 = some c := fun ok y hy e => by
    obtain ⟨n, k⟩ := y
    have e : k = .free := e
    subst e
    exact ok.has n (fr n hy)
  refine ⟨hk, fun ok => closure_of (fr2 ok), nc, fun y hy e => ?_, nd, fun y hy => ?_, fun ok y c e => cl_sub scope.names [] (fr2 ok) (fun _ _ z => by simp at z) y c e, hl, fun j i y a b => ?_⟩
  · have := List.all_eq_true.mp h2 y hy
    simpa [e] using this
  · have hm : (y, NameKind.free) ∈ scope.names := by
      have : ∃ k', (k' = NameKind.cell ∨ k' = NameKind.free) ∧ (y, k') ∈ (relabel scope X.env).names := by
        rcases hy with hy | hy
        · exact ⟨_, .inl rfl, lookup_mem hy⟩
        · exact ⟨_, .inr rfl, lookup_mem hy⟩
      obtain ⟨k', hk', hm⟩ := this
      obtain ⟨⟨n, k⟩, hz, e⟩ := List.mem_map.mp hm
      dsimp only at e
      split at e
      · rename_i hcond
        obtain ⟨rfl, rfl⟩ := Prod.mk.inj e
        simp only [Bool.and_eq_true] at hcond
        have : k = .free := by simpa using hcond.1.1
        subst this
        exact hz
      · obtain ⟨rfl, rfl⟩ := Prod.mk.inj e
        rcases hk' with rfl | rfl
        · exact absurd rfl (nc _ hz)
        · exact hz
    have := cl_has (env := X.env) scope.names [] y (.inl hm)
    exact Option.isSome_iff_exists.mp this
  · have hy : y ∈ N.drop k := by
      refine List.mem_of_getElem? (i := j) ?_
      rw [List.getElem?_drop, Nat.add_comm]
      exact a
    have e1 : X.N[i]? = some y := by
      have := congrArg (fun l => l[j]?) hc
      simp only [List.getElem?_map, List.getElem?_drop, Nat.add_comm k j, a, b, Option.map_some] at this
      exact (Option.some.inj this).symm
    have e2 : scope.names.lookup y = some .free := by
      have := List.all_eq_true.mp hf y hy
      simpa using this
    have e3 := fr y (lookup_mem e2)
    refine ⟨e1, e3.elim (fun z => .inr (.inl z)) fun z => .inr (.inr z), ?_, lookup_relabel_free e2⟩
    intro z
    have z : X.env.scope.names.lookup y = some .local := z
    rcases e3 with e3 | e3 <;> rw [e3] at z <;> cases z
def CompJ (J : It) (g : TG) (tc : TT) (te : TE) (cs : St) (H1 : Hp) (Q : VK) : Prop := ∀ D, H1 D = none → ∃ W : Nat → Nat → St → Hp → Prop, (∃ m, W 0 m cs (upd H1 D (.lst []))) ∧ ∀ i m σ1 H, W i m σ1 H →
  (J.stop i H ∧ Q (.ref D) H) ∨ (J.go i H ∧ ∀ x H', J.yld i H x H' → g x σ1 H' fun σ2 H1 => tc σ2 H1 fun b H2 => if b = true then te σ2 H2 fun v H3 => ∃ ys, H3 D = some (.lst ys) ∧ ys.length < sizeLine ∧ ∃ m', m' < m ∧ W (i + 1) m' σ2 (upd H3 D (.lst (ys ++ [v])))
    else ∃ m', m' < m ∧ W (i + 1) m' σ2 H2)
theorem tcomp_in {k : Nat} {cap : List Nat} {wi : TI} {g : TG} {tc : TT} {te : TE} {σ : St} {H : Hp} {Q : VK} (h : wi σ H fun J H1 => CompJ J g tc te (frameN k σ cap) H1 Q) : tCompN k cap wi g tc te σ H Q := h
def CW (xs : List V) (H1 : Hp) (D : Addr) (Pv : Nat → List V → St → Hp → Prop) (i m : Nat) (σ1 : St) (H : Hp) : Prop := m = xs.length - i ∧ i ≤ xs.length ∧ Same H1 H ∧ ∃ ys, H D = some (.lst ys) ∧ ys.length ≤ i ∧ Pv i ys σ1 H
def Put (xs : List V) (H1 : Hp) (D : Addr) (Pv : Nat → List V → St → Hp → Prop) (i : Nat) (σ2 : St) (v : V) (H3 : Hp) : Prop := ∃ ys, H3 D = some (.lst ys) ∧ ys.length < sizeLine ∧ ∃ m', m' < xs.length - i ∧ CW xs H1 D Pv (i + 1) m' σ2 (upd H3 D (.lst (ys ++ [v])))
def Skip (xs : List V) (H1 : Hp) (D : Addr) (Pv : Nat → List V → St → Hp → Prop) (i : Nat) (σ2 : St) (H2 : Hp) : Prop := ∃ m', m' < xs.length - i ∧ CW xs H1 D Pv (i + 1) m' σ2 H2
structure At (xs : List V) (H1 : Hp) (D : Addr) (i : Nat) (ys : List V) (H : Hp) : Prop where
  new : H1 D = none
  lt : i < xs.length
  sz : xs.length < sizeLine
  same : Same H1 H
  lst : H D = some (.lst ys)
  le : ys.length ≤ i
theorem At.put {xs : List V} {H1 : Hp} {D : Addr} {i : Nat} {ys : List V} {H H4 : Hp} {Pv : Nat → List V → St → Hp → Prop} {σ2 : St} {v : V} (a : At xs H1 D i ys H) (g : Same H H4) (p : ∀ H5, Mu H4 D (.lst (ys ++ [v])) H5 → Pv (i + 1) (ys ++ [v]) σ2 H5) : Put xs H1 D Pv i σ2 v H4 :=
  ⟨ys, g _ _ a.lst, by have := a.le; have := a.lt; have := a.sz; omega, xs.length - (i + 1), by have := a.lt; omega, rfl, a.lt, Mu.mk'.same (a.same.trans g) a.new, _, upd_same, by have := a.le; rw [List.length_append, List.length_singleton]; omega, p _ Mu.mk'⟩
theorem At.skip {xs : List V} {H1 : Hp} {D : Addr} {i : Nat} {ys : List V} {H H4 : Hp} {Pv : Nat → List V → St → Hp → Prop} {σ2 : St} (a : At xs H1 D i ys H) (g : Same H H4) (p : Pv (i + 1) ys σ2 H4) : Skip xs H1 D Pv i σ2 H4 :=
  ⟨xs.length - (i + 1), by have := a.lt; omega, rfl, a.lt, a.same.trans g, ys, g _ _ a.lst, Nat.le_succ_of_le a.le, p⟩
theorem compJ {J : It} {xs : List V} {ok : Hp → Prop} (O : Over J xs ok) {g : TG} {tc : TT} {te : TE} {cs : St} {H1 : Hp} {Q : VK} (hok : ∀ H, Same H1 H → ok H) (sz : xs.length < sizeLine) (Pv : Nat → List V → St → Hp → Prop)
    (h0 : ∀ H', Same H1 H' → Pv 0 [] cs H')
    (hs : ∀ D i x ys σ1 H', xs[i]? = some x → At xs H1 D i ys H' → Pv i ys σ1 H' → g x σ1 H' fun σ2 H2 => tc σ2 H2 fun b H3 => if b = true then te σ2 H3 fun v H4 => Put xs H1 D Pv i σ2 v H4 else Skip xs H1 D Pv i σ2 H3)
    (hd : ∀ D ys σ1 H', H1 D = none → Same H1 H' → H' D = some (.lst ys) → ys.length ≤ xs.length → Pv xs.length ys σ1 H' → Q (.ref D) H') : CompJ J g tc te cs H1 Q := by
  intro D hD
  refine ⟨CW xs H1 D Pv, ⟨_, rfl, Nat.zero_le _, same_new hD _, [], upd_same, Nat.le_refl _, h0 _ (same_new hD _)⟩, ?_⟩
  rintro i m σ1 H ⟨rfl, hi, sm, ys, hy, ly, p⟩
  by_cases hlt : i < xs.length
  · refine .inr ⟨O.go i _ (hok _ sm) hlt, fun x H' y => ?_⟩
    obtain ⟨rfl, hx⟩ := O.yld i _ x H' (hok _ sm) hlt y
    exact hs D i x ys σ1 H' hx ⟨hD, hlt, sz, sm, hy, ly⟩ p
  · have e : i = xs.length := by omega
    subst e
    exact .inl ⟨O.stop _ _ (hok _ sm) (Nat.le_refl _), hd D ys σ1 _ hD sm hy ly p⟩
theorem compJ_list {K : PySem.W.Frag} {a : Addr} {xs : List V} {g : TG} {tc : TT} {te : TE} {cs : St} {H1 : Hp} {Q : VK} (ha : H1 a = some (.lst xs)) (sz : xs.length < sizeLine) (Pv : Nat → List V → St → Hp → Prop)
    (h0 : ∀ H', Same H1 H' → Pv 0 [] cs H')
    (hs : ∀ D i x ys σ1 H', xs[i]? = some x → At xs H1 D i ys H' → Pv i ys σ1 H' → g x σ1 H' fun σ2 H2 => tc σ2 H2 fun b H3 => if b = true then te σ2 H3 fun v H4 => Put xs H1 D Pv i σ2 v H4 else Skip xs H1 D Pv i σ2 H3)
    (hd : ∀ D ys σ1 H', H1 D = none → Same H1 H' → H' D = some (.lst ys) → ys.length ≤ xs.length → Pv xs.length ys σ1 H' → Q (.ref D) H') : CompJ (Itl K a) g tc te cs H1 Q :=
  compJ over_list (fun H g => g _ _ ha) sz Pv h0 hs hd
/-! ### what is new in a heap -/
end L2

set_option Elab.async false
set_option linter.all false
set_option maxRecDepth 100000
set_option maxHeartbeats 4000000
/-! our own rules: comprehensions whose invariant knows the list that grows -/
namespace L2
open PySem PySem.Spec PyProof.Rows
def hide (D : Addr) (H : Hp) : Hp := fun c => if c = D then none else H c
theorem hide_of {D c : Addr} {H : Hp} {u : HO} (n : c ≠ D) (h : H c = some u) : hide D H c = some u := by unfold hide; rw [if_neg n]; exact h
theorem hide_inv {D c : Addr} {H : Hp} {u : HO} (h : hide D H c = some u) : c ≠ D ∧ H c = some u := by
  unfold hide at h
  by_cases e : c = D
  · rw [if_pos e] at h; cases h
  · rw [if_neg e] at h; exact ⟨e, h⟩
theorem hide_le {D : Addr} {H : Hp} : Same (hide D H) H := fun c u h => (hide_inv h).2
theorem hide_same {D : Addr} {H H' : Hp} (g : Same H H') : Same (hide D H) (hide D H') := fun c u h => hide_of (hide_inv h).1 (g _ _ (hide_inv h).2)
theorem hide_mu {D : Addr} {H H' : Hp} {o : HO} (mu : Mu H D o H') : Same (hide D H) (hide D H') := fun c u h => hide_of (hide_inv h).1 (mu.old (hide_inv h).2 (hide_inv h).1)
theorem compJD {J : It} {xs : List V} {ok : Hp → Prop} (O : Over J xs ok) {g : TG} {tc : TT} {te : TE} {cs : St} {H1 : Hp} {Q : VK} (hok : ∀ H, Same H1 H → ok H) (sz : xs.length < sizeLine) (Pv : Addr → Nat → List V → St → Hp → Prop)
    (h0 : ∀ D H', H1 D = none → Same H1 H' → H' D = some (.lst []) → Pv D 0 [] cs H')
    (hs : ∀ D i x ys σ1 H', xs[i]? = some x → At xs H1 D i ys H' → Pv D i ys σ1 H' → g x σ1 H' fun σ2 H2 => tc σ2 H2 fun b H3 => if b = true then te σ2 H3 fun v H4 => Put xs H1 D (Pv D) i σ2 v H4 else Skip xs H1 D (Pv D) i σ2 H3)
    (hd : ∀ D ys σ1 H', H1 D = none → Same H1 H' → H' D = some (.lst ys) → ys.length ≤ xs.length → Pv D xs.length ys σ1 H' → Q (.ref D) H') : CompJ J g tc te cs H1 Q := by
  intro D hD
  refine ⟨CW xs H1 D (Pv D), ⟨_, rfl, Nat.zero_le _, same_new hD _, [], upd_same, Nat.le_refl _, h0 D _ hD (same_new hD _) upd_same⟩, ?_⟩
  rintro i m σ1 H ⟨rfl, hi, sm, ys, hy, ly, p⟩
  by_cases hlt : i < xs.length
  · refine .inr ⟨O.go i _ (hok _ sm) hlt, fun x H' y => ?_⟩
    obtain ⟨rfl, hx⟩ := O.yld i _ x H' (hok _ sm) hlt y
    exact hs D i x ys σ1 H' hx ⟨hD, hlt, sz, sm, hy, ly⟩ p
  · have e : i = xs.length := by omega
    subst e
    exact .inl ⟨O.stop _ _ (hok _ sm) (Nat.le_refl _), hd D ys σ1 _ hD sm hy ly p⟩
theorem compJD_list {K : PySem.W.Frag} {a : Addr} {xs : List V} {g : TG} {tc : TT} {te : TE} {cs : St} {H1 : Hp} {Q : VK} (ha : H1 a = some (.lst xs)) (sz : xs.length < sizeLine) (Pv : Addr → Nat → List V → St → Hp → Prop)
    (h0 : ∀ D H', H1 D = none → Same H1 H' → H' D = some (.lst []) → Pv D 0 [] cs H')
    (hs : ∀ D i x ys σ1 H', xs[i]? = some x → At xs H1 D i ys H' → Pv D i ys σ1 H' → g x σ1 H' fun σ2 H2 => tc σ2 H2 fun b H3 => if b = true then te σ2 H3 fun v H4 => Put xs H1 D (Pv D) i σ2 v H4 else Skip xs H1 D (Pv D) i σ2 H3)
    (hd : ∀ D ys σ1 H', H1 D = none → Same H1 H' → H' D = some (.lst ys) → ys.length ≤ xs.length → Pv D xs.length ys σ1 H' → Q (.ref D) H') : CompJ (Itl K a) g tc te cs H1 Q :=
  compJD over_list (fun H g => g _ _ ha) sz Pv h0 hs hd
theorem compJD_range {n : Nat} {g : TG} {tc : TT} {te : TE} {cs : St} {H1 : Hp} {Q : VK} (sz : n < 100000) (Pv : Addr → Nat → List V → St → Hp → Prop)
    (h0 : ∀ D H', H1 D = none → Same H1 H' → H' D = some (.lst []) → Pv D 0 [] cs H')
    (hs : ∀ D i ys σ1 H', i < n → At ((List.range n).map fun (k : Nat) => V.int (0 + k)) H1 D i ys H' → Pv D i ys σ1 H' → g (.int (i : Nat)) σ1 H' fun σ2 H2 => tc σ2 H2 fun b H3 => if b = true then te σ2 H3 fun v H4 => Put ((List.range n).map fun (k : Nat) => V.int (0 + k)) H1 D (Pv D) i σ2 v H4 else Skip ((List.range n).map fun (k : Nat) => V.int (0 + k)) H1 D (Pv D) i σ2 H3)
    (hd : ∀ D ys σ1 H', H1 D = none → Same H1 H' → H' D = some (.lst ys) → ys.length ≤ n → Pv D n ys σ1 H' → Q (.ref D) H') : CompJ (Itr 0 n) g tc te cs H1 Q := by
  have el : ((List.range n).map fun (k : Nat) => V.int (0 + k)).length = n := by rw [List.length_map, List.length_range]
  refine compJD (over_range 0 n) (fun _ _ => trivial) (by rw [el]; unfold sizeLine; omega) Pv h0 (fun D i x ys σ1 H' hx a p => ?_) (fun D ys σ1 H' h1 h2 h3 h4 h5 => hd D ys σ1 H' h1 h2 h3 (by rw [el] at h4; exact h4) (by rw [el] at h5; exact h5))
  have hi : i < n := by have := a.lt; rw [el] at this; exact this
  have ex : x = .int (i : Nat) := by
    rw [List.getElem?_map, List.getElem?_range hi] at hx
    simp at hx
    exact hx.symm
  rw [ex]
  exact hs D i ys σ1 H' hi a p
end L2

set_option Elab.async false
set_option linter.all false
set_option maxRecDepth 100000
set_option maxHeartbeats 4000000
/-! our own rules: list.pop(i), range(n) as a value, list(range(n)), xs[::-1], over the abstract heap -/
namespace L2
open PySem PySem.Spec PyProof.Rows
section
variable {X : Cx}
def rPopAtG : V → List V → Hp → VK → Prop := fun x vs H Q => ∃ l xs i y, x = .ref l ∧ vs = [.int i] ∧ H l = some (.lst xs) ∧ 0 ≤ i ∧ i < xs.length ∧ xs.length < 100000 ∧ xs[i.toNat]? = some y ∧ ∀ H', Mu H l (.lst (xs.eraseIdx i.toNat)) H' → Q y H'
theorem mt_popAtG : MtR X "list.pop" rPopAtG := by
  intro pins s σ H x vs v us Q I rx rv h
  obtain ⟨l, xs, i, y, e1, e2, hH, h0, h1, h2, hy, q⟩ := h
  exact mt_popAt pins s σ H x vs v us Q I rx rv ⟨l, xs, i, i.toNat, y, e1, e2, hH, by omega, by omega, PySem.StrLaws.seqIndex_nonneg h0 h1, hy, q _ .mk'⟩
def tRng1 (ta : TA) : TE := fun σ H Q => ta σ H fun vs H1 => ∃ j : Int, vs = [.int j] ∧ ∀ p H', H1 p = none → Same H1 H' → H' p = some (.rng 0 j) → Q (.ref p) H'
def rListRng : List V → Hp → VK → Prop := fun xs H Q => ∃ p, ∃ n : Nat, xs = [.ref p] ∧ H p = some (.rng 0 n) ∧ n < 100000 ∧ ∀ l H', H l = none → Same H H' → H' l = some (.lst (((List.range n).map fun k => ((k : Nat) : Int)).map V.int)) → Q (.ref l) H'
def tRev (te : TE) (ts : TO) : TE := fun σ H Q => te σ H fun x H1 => ts σ H1 fun o H2 => o = some (-1) ∧ ∃ a xs, x = .ref a ∧ H2 a = some (.lst xs) ∧ ∀ p H', H2 p = none → Same H2 H' → H' p = some (.lst xs.reverse) → Q (.ref p) H'
end
end L2

set_option Elab.async false
set_option linter.all false
set_option maxRecDepth 100000
set_option maxHeartbeats 4000000
/-! our own rules: min of a list, list.index, over the abstract heap -/
namespace L2
open PySem PySem.Spec PyProof.Rows
section
variable {X : Cx}
def rMinL : List V → Hp → VK → Prop := fun xs H Q => ∃ (p : Addr) (ns : List Int), xs = [.ref p] ∧ H p = some (.lst (ns.map V.int)) ∧ 0 < ns.length ∧ ∀ M : Int, M ∈ ns → (∀ a ∈ ns, M ≤ a) → Q (.int M) H
def rIdxG : V → List V → Hp → VK → Prop := fun x vs H Q => ∃ (l : Addr) (ns : List Int) (k : Int), x = .ref l ∧ vs = [.int k] ∧ H l = some (.lst (ns.map V.int)) ∧ k ∈ ns ∧ ns.length < 100000 ∧ Q (.int (ns.idxOf k : Nat)) H
end
end L2

set_option Elab.async false
set_option linter.all false
set_option maxRecDepth 100000
set_option maxHeartbeats 4000000
/-! our own rules: instances of own classes over the abstract heap: attributes, methods, making -/
namespace L2
open PySem PySem.Spec PyProof.Rows
theorem lookup_n {f : Str} : List.lookup f ([] : List (Str × V)) = none := rfl
theorem lookup_c {f g : Str} {v : V} {r : List (Str × V)} : List.lookup f ((g, v) :: r) = if f = g then some v else List.lookup f r := by
  by_cases h : f = g
  · have hb : (f == g) = true := beq_iff_eq.mpr h
    simp only [List.lookup, hb, if_pos h]
  · have hb : (f == g) = false := beq_eq_false_iff_ne.mpr h
    simp only [List.lookup, hb, if_neg h]
theorem putF_n {f : Str} {v : V} : putF f v [] = [(f, v)] := rfl
theorem putF_c {f g : Str} {v x : V} {r : List (Str × V)} : putF f v ((g, x) :: r) = if g = f then (g, v) :: r else (g, x) :: putF f v r := rfl
structure MethAt (K : PySem.W.Frag) (C : Addr) (m q : Str) (st : Stmt) (ps : List Str) : Prop where
  ex : ∃ f fd, Meth K C m f ∧ Fun K m q st f fd ∧ Binds K fd ps []
structure OkM (P : Program) (w : World) (K : PySem.W.Frag) (mg : Str → Option Value) (base : Heap) (n : Nat) (C : Addr) (m : Str) (ps : List Str) (sp : Sp) : Prop where
  ex : ∃ f fd, Meth K C m f ∧ Binds K fd ps [] ∧ FnOk P w K mg base CX0 n f fd ps sp
  cl : Cls K C
structure MakeAt (K : PySem.W.Frag) (mg : Str → Option Value) (x : Str) (C : Addr) (q : Str) (st : Stmt) (ps : List Str) : Prop where
  ex : ∃ f fd, mg x = some (.ref C) ∧ Mk K C f ∧ Fun K "__init__" q st f fd ∧ Binds K fd ps []
structure OkC (P : Program) (w : World) (K : PySem.W.Frag) (mg : Str → Option Value) (base : Heap) (n : Nat) (x : Str) (C : Addr) (ps : List Str) (sp : Sp) : Prop where
  ex : ∃ f fd, mg x = some (.ref C) ∧ Mk K C f ∧ Binds K fd ps [] ∧ FnOk P w K mg base CX0 n f fd ps sp
section
variable {P : Program} {w : World} {K : PySem.W.Frag} {mg : Str → Option Value} {base : Heap} {x m q : Str} {st : Stmt} {N ps : List Str} {k : Nat} {sp : Sp} {C : Addr}
theorem MethAt.ok (D : MethAt K C m q st ps) (cl : Cls K C) (S : FnScope N ps (defScope st)) (len : ∀ vs H Q E, sp vs H Q E → vs.length = ps.length)
    (hbody : ∀ (f : Addr) (cdv : Value) (A : Around) (outer : List Env) (s : Shared) (H : Hp) (vs : List V) (Q : VK) (E : XK), Room k (A.deeper (envOfC q (defScope st) s.heap.objs.size f cdv)) → sp vs H Q E →
      ∃ t, PSs (cxOf CX0 P w K mg base N q (defScope st) f cdv A outer s H E).nox (defBody st) t ∧ t { nx := fun _ H' => Q .non H', rt := Q } (start N vs) H) : OkM P w K mg base (k + 1) C m ps sp := by
  obtain ⟨f, fd, hm, F, hb⟩ := D.ex
  exact ⟨⟨f, fd, hm, hb, F.ok S len (hbody f)⟩, cl⟩
theorem MakeAt.ok (D : MakeAt K mg x C q st ps) (S : FnScope N ps (defScope st)) (len : ∀ vs H Q E, sp vs H Q E → vs.length = ps.length)
    (hbody : ∀ (f : Addr) (cdv : Value) (A : Around) (outer : List Env) (s : Shared) (H : Hp) (vs : List V) (Q : VK) (E : XK), Room k (A.deeper (envOfC q (defScope st) s.heap.objs.size f cdv)) → sp vs H Q E →
      ∃ t, PSs (cxOf CX0 P w K mg base N q (defScope st) f cdv A outer s H E).nox (defBody st) t ∧ t { nx := fun _ H' => Q .non H', rt := Q } (start N vs) H) : OkC P w K mg base (k + 1) x C ps sp := by
  obtain ⟨f, fd, hg, hm, F, hb⟩ := D.ex
  exact ⟨f, fd, hg, hm, hb, F.ok S len (hbody f)⟩
theorem MethAt.mk' {f : Addr} {oc : Value} {od an : Option Addr} {osl : Array (Option Value)} {kV doc pm cdv ct : Value} (a : PySem.W.findIn K (.ref C) m = some (some (.ref f))) (i : PySem.W.isFn K (.ref f) = true)
    (l : K.lookup f = some ⟨oc, od, .func (PySem.W.fnOf m q (defArgs st) (defBody st) (defScope st) .none kV doc pm an cdv ct), osl⟩) (c : PySem.W.codeIn K cdv q = true) (k : PySem.W.keepIn K (.ref f) = true)
    (b : ∀ (kV doc pm : Value) (an : Option Addr) (cdv ct : Value) (us : List Value), us.length = ps.length → bindArgs (PySem.W.fnOf m q (defArgs st) (defBody st) (defScope st) .none kV doc pm an cdv ct) ⟨us, []⟩ = pure (ps.zip us)) : MethAt K C m q st ps :=
  have F := fun_mk (st := st) l c k
  ⟨f, _, ⟨a, i, k⟩, F, F.binds b⟩
theorem MakeAt.mk' {h : Heap} {f : Addr} {oc : Value} {od an : Option Addr} {osl : Array (Option Value)} {kV doc pm cdv ct : Value} (X : K.In h) (G : h.Ns mainGlobals mg) (g : PySem.W.nsIn K mainGlobals x = some (some (.ref C)))
    (mk : PySem.W.makesIn K C = true) (kc : PySem.W.keepIn K (.ref C) = true) (a : PySem.W.findIn K (.ref C) "__init__" = some (some (.ref f))) (i : PySem.W.isFn K (.ref f) = true)
    (l : K.lookup f = some ⟨oc, od, .func (PySem.W.fnOf "__init__" q (defArgs st) (defBody st) (defScope st) .none kV doc pm an cdv ct), osl⟩) (c : PySem.W.codeIn K cdv q = true) (k : PySem.W.keepIn K (.ref f) = true)
    (b : ∀ (kV doc pm : Value) (an : Option Addr) (cdv ct : Value) (us : List Value), us.length = ps.length → bindArgs (PySem.W.fnOf "__init__" q (defArgs st) (defBody st) (defScope st) .none kV doc pm an cdv ct) ⟨us, []⟩ = pure (ps.zip us)) : MakeAt K mg x C q st ps :=
  have F := fun_mk (st := st) l c k
  ⟨f, _, PySem.W.mg_of X G g, ⟨mk, a, i, kc⟩, F, F.binds b⟩
end
def tFldG (C : Addr) (f : Str) (ta : TE) : TE := fun σ H Q => ta σ H fun x H1 => ∃ a dx fs v, x = .ref a ∧ H1 a = some (.ins C dx fs) ∧ fs.lookup f = some v ∧ Q v H1
def sFldG (C : Addr) (f : Str) (ta tv : TE) : TS := fun D σ H => tv σ H fun y H1 => ta σ H1 fun x H2 => ∃ a dx fs, x = .ref a ∧ H2 a = some (.ins C dx fs) ∧ fs.length < 1000 ∧ ∀ H', Mu H2 a (.ins C dx (putF f y fs)) H' → D.nx σ H'
def tMethG (C : Addr) (m : Str) (sp : Sp) (ta : TE) (t : TA) : TE := fun σ H Q => ta σ H fun x H1 => ∃ a dx fs, x = .ref a ∧ H1 a = some (.ins C dx fs) ∧ fs.lookup m = none ∧ t σ H1 fun vs H2 => sp (x :: vs) H2 Q E0
def tMakeG (C : Addr) (sp : Sp) (t : TA) : TE := fun σ H Q => t σ H fun vs H1 => ∀ x dx H', H1 x = none → H1 dx = none → Same H1 H' → H' x = some (.ins C dx []) → H' dx = some (.own x) → sp (.ref x :: vs) H' (fun v H2 => v = .non ∧ Q (.ref x) H2) E0
section
variable {X : Cx} {k n : Nat} {ps : List Str} {sp : Sp} {x m f : Str} {p pos pos' apos : Pos} {o e value : Expr} {es : List Expr} {t : TA} {ta tv : TE} {C : Addr}
theorem pe_fldG (c : Cls X.K C) (nn : NoAttr X.K C f) (he : PE X e ta) (hb : attributeBase e f X.env (eval e X.env) = eval e X.env := by rfl) : PE X (.Attribute e f pos) (tFldG C f ta) := by
  intro pins s σ H Q I h
  refine attr_of hb (thn (he pins s σ H _ I h) fun u s1 ⟨x, H1, I1, rx, a, dx, fs, v, ex, ea, l, q⟩ => ?_)
  subst ex
  obtain rfl : u = Value.ref a := rx
  exact getattr_ok I1 ea c nn l fun u' s2 I2 ru => ⟨v, H1, I2, ru, q⟩
theorem ps_fldG (c : Cls X.K C) (nn : NoAttr X.K C f) (ha : PE X o ta) (hv : PE X value tv) (hs : swapsWith value (some (.Attribute o f pos')) pos.line X.env = pure false := by rfl) : PS X (.Assign [.Attribute o f pos'] value pos) (sFldG C f ta tv) := by
  intro pins s σ H D I h
  refine plainObj_wpAny_Assign_Attribute (thn (hv pins s σ H _ I h) fun u s1 ⟨y, H1, I1, ry, q⟩ => thn (ha pins s1 σ H1 _ I1 q) fun ov s2 ⟨x, H2, I2, rx, a, dx, fs, ex, ea, l, q2⟩ => ?_) hs
  subst ex
  obtain rfl : ov = Value.ref a := rx
  exact setattr_ok I2 ea c nn l ry fun s3 I3 => ⟨σ, _, I3, q2 _ .mk'⟩
theorem pe_methG {pl : Sem Bool} (G : OkM X.prog X.w X.K X.mg X.base k C m ps sp) (hr : Room n X.A) (he : PE X o ta) (ha : PA X (e :: es) t) (hk : k ≤ n := by omega) (hs : (e :: es).all notStar = true := by rfl)
    (ht : eval (.Call (.Attribute o m apos) (e :: es) [] pos) X.env = (do
      let ov ← eval o X.env
      standAt apos.atName
      let (f, first) ← holding [ov] (getMethod ov m pl)
      callWith pos f first (backTo pos (starEach (e :: es) X.env)) (backToKw pos (keywordEach [] X.env))) := by rfl) : PE X (.Call (.Attribute o m apos) (e :: es) [] pos) (tMethG C m sp ta t) := by
  obtain ⟨⟨f, fd, hm, hb, F⟩, cl⟩ := G
  intro pins s σ H Q I h
  refine pe_meth (C := C) (dvs := []) (E := E0) he cl hm F (hr.mono hk) hb .nil pass0 ha (star_of (Bool.and_eq_true_iff.mp hs).1) (star_all (Bool.and_eq_true_iff.mp hs).2) ht pins s σ H Q I ?_
  have e : ∀ y, (fun vs H1 => sp (y :: (vs ++ [])) H1 Q E0) = fun vs H1 => sp (y :: vs) H1 Q E0 := fun y => by funext vs H1; rw [List.append_nil]
  show ta σ H fun y H1 => ∃ a dx fs, y = .ref a ∧ H1 a = some (.ins C dx fs) ∧ fs.lookup m = none ∧ t σ H1 fun vs H2 => sp (y :: (vs ++ [])) H2 Q E0
  simp only [e]
  exact h
theorem pe_meth0G {pl : Sem Bool} (G : OkM X.prog X.w X.K X.mg X.base k C m ps sp) (hr : Room n X.A) (he : PE X o ta) (hk : k ≤ n := by omega)
    (ht : eval (.Call (.Attribute o m apos) [] [] pos) X.env = (do
      let ov ← eval o X.env
      standAt apos.atName
      let (f, first) ← holding [ov] (getMethod ov m pl)
      callWith pos f first (backTo pos (starEach [] X.env)) (backToKw pos (keywordEach [] X.env))) := by rfl) : PE X (.Call (.Attribute o m apos) [] [] pos) (tMethG C m sp ta tNil) := by
  obtain ⟨⟨f, fd, hm, hb, F⟩, cl⟩ := G
  exact pe_meth0 (C := C) (dvs := []) (E := E0) he cl hm F (hr.mono hk) hb .nil pass0 ht
theorem make_any {H1 : Hp} {Q : VK} {vs : List V} (h : ∀ x dx H', H1 x = none → H1 dx = none → Same H1 H' → H' x = some (.ins C dx []) → H' dx = some (.own x) → sp (.ref x :: vs) H' (fun v H2 => v = .non ∧ Q (.ref x) H2) E0) :
    ∀ x dx, H1 x = none → H1 dx = none → dx ≠ x → sp (.ref x :: (vs ++ [])) (upd (upd H1 dx (.own x)) x (.ins C dx [])) (fun v H2 => v = .non ∧ Q (.ref x) H2) E0 := fun x dx hx hdx ne => by
  rw [List.append_nil]
  exact h x dx _ hx hdx (fun c u hc => by rw [upd_ne (ne_of_none hc hx), upd_ne (ne_of_none hc hdx)]; exact hc) upd_same (by rw [upd_ne ne, upd_same])
theorem pe_makeG (G : OkC X.prog X.w X.K X.mg X.base k x C ps sp) (hr : Room n X.A) (hg : Gl X x) (ha : PA X (e :: es) t) (hk : k + 1 ≤ n := by omega) (hdb : (x == ("__debug__" : Str)) = false := by decide) (hs : (e :: es).all notStar = true := by rfl) :
    PE X (.Call (.Name x p) (e :: es) [] pos) (tMakeG C sp t) := by
  obtain ⟨f, fd, hm, M, hb, F⟩ := G.ex
  intro pins s σ H Q I h
  refine wpAny_Call_Name_kw (ld_glob I hg hm ?_ hdb)
  refine PySem.W.callWith_K (h₀ := X.base) I.ok.mod.kin M.kp (thn (ha pos pins s σ H _ I h) fun us s1 ⟨vs, H1, I1, r, q⟩ => ⟨I1.kIn, ?_⟩) (star_of (Bool.and_eq_true_iff.mp hs).1) (star_all (Bool.and_eq_true_iff.mp hs).2)
  exact run_make (dvs := []) (ds := []) M F (hr.mono hk) hb .nil pass0 I1 r (make_any q)
end
end L2

set_option Elab.async false
set_option linter.all false
set_option maxRecDepth 100000
set_option maxHeartbeats 4000000
/-! our own rules: d.values(), d.items() walked, d.get(k, x), over the abstract heap -/
namespace L2
open PySem PySem.Spec PyProof.Rows
theorem kv_get : ∀ {kvs : List (Key × V)} {vs : List (Key × Value)}, KV kvs vs → ∀ {i : Nat} {k : Key} {x : V}, kvs[i]? = some (k, x) → ∃ u, vs[i]? = some (k, u) ∧ RelV x u
  | [], _, _, i, k, x, e => by simp at e
  | p :: kvs, [], r, i, k, x, e => by cases r
  | p :: kvs, (k', u) :: vs, r, i, k, x, e => by
    cases r with
    | cons h r =>
      cases i with
      | zero =>
        simp at e
        subst e
        have h1 : k = k' := h.1
        exact ⟨u, by simp [h1], h.2⟩
      | succ i => simpa using kv_get (kvs := kvs) (vs := vs) r (i := i) (k := k) (x := x) (by simpa using e)
def Itv (d : Addr) (o : Obj) (kvs : List (Key × V)) : It :=
  ⟨fun i H => i < kvs.length ∧ H d = some (.frz o (.dK kvs)), fun i H x H' => H' = H ∧ ∃ k, kvs[i]? = some (k, x), fun i H => kvs.length ≤ i ∧ H d = some (.frz o (.dK kvs))⟩
def Iti (d : Addr) (o : Obj) (kvs : List (Key × V)) : It :=
  ⟨fun i H => i < kvs.length ∧ H d = some (.frz o (.dK kvs)), fun i H v H' => ∃ p k x, v = .ref p ∧ H p = none ∧ Same H H' ∧ H' p = some (.tup [kV k, x]) ∧ kvs[i]? = some (k, x), fun i H => kvs.length ≤ i ∧ H d = some (.frz o (.dK kvs))⟩
theorem turn_vals {P : Program} {w : World} {K : PySem.W.Frag} {tg : Expr} (d it : Addr) (o : Obj) (kvs : List (Key × V)) (vs : List (Key × Value)) (ep : Nat) (hne : d ≠ it) (rel : KV kvs vs) (D0 : ∀ h : Heap, h.get? d = some o → h.DictAt (mixKind P w) d vs ep) :
    Turn P w K tg (Itv d o kvs) [it] it (fun i h => h.IsValIter it d i vs.length ep) where
  mem := List.mem_singleton_self _
  obj := fun i h st b hb => by
    obtain rfl := List.mem_singleton.mp hb
    obtain ⟨o, e, c, dd⟩ := st
    exact ⟨o, e, fun v z => by rw [dd] at z; cases z⟩
  keep := fun i h h' st k => st.at fun o e => k it (List.mem_singleton_self _) o e
  item := by
    intro X hP hw hK hc i pins s σ H E I hf st hg
    subst hP hw hK
    obtain ⟨hi, hd⟩ := hg
    obtain ⟨f0, f1, f2, f3, f4, f5⟩ := hf it (List.mem_singleton_self _)
    obtain ⟨ho, _⟩ := (show ObjOk X.prog X.w H s.heap d (.frz o (.dK kvs)) from I.hok d _ hd)
    obtain ⟨u, hx, ru⟩ := kv_get rel (k := kvs[i].1) (x := kvs[i].2) (List.getElem?_eq_getElem hi)
    refine wpAny_pyNext_values_item st (D0 _ ho) hx fun h' st' sb => ?_
    have I1 : Inv X pins σ H { s with heap := h' } := I.turned (t' := s.toks) (fun b o hb e => (sb.2 b hb).trans e) f0 f1 f3 f4 f5
    obtain ⟨oi, e, c, dd⟩ := id st'
    exact ⟨u, rfl, go_of (s := { s with heap := h' }) e c dd (by decide) ⟨kvs[i].2, H, I1, ru, ⟨rfl, kvs[i].1, List.getElem?_eq_getElem hi⟩, st', fun b hb => (hf b hb).1⟩⟩
  done := by
    intro X hP hw hK hc i pins s σ H E I hf st hg
    subst hP hw hK
    obtain ⟨hi, hd⟩ := hg
    obtain ⟨f0, f1, f2, f3, f4, f5⟩ := hf it (List.mem_singleton_self _)
    obtain ⟨ho, _⟩ := (show ObjOk X.prog X.w H s.heap d (.frz o (.dK kvs)) from I.hok d _ hd)
    have hl : kvs.length = vs.length := rel.length
    exact wpAny_pyNext_values_end (I.ok.hd hc) st (D0 _ ho) (List.getElem?_eq_none (by omega)) fun h' eb => ⟨rfl, I.turned (t' := s.toks) (fun b o hb e => eb b o hb e) f0 f1 f3 f4 f5⟩
  self := fun _ _ _ _ _ st h => wpAny_pyIter_valiter st h
theorem turn_items {P : Program} {w : World} {K : PySem.W.Frag} {elts : List Expr} {kk : Nat} {tpos : Pos} (d it : Addr) (o : Obj) (kvs : List (Key × V)) (vs : List (Key × Value)) (ep : Nat) (hne : d ≠ it) (rel : KV kvs vs) (D0 : ∀ h : Heap, h.get? d = some o → h.DictAt (mixKind P w) d vs ep) :
    Turn P w K (.Tuple elts kk tpos) (Iti d o kvs) [it] it (fun i h => ∃ ok ov, IsItemIter h it d i vs.length ep ok ov) where
  mem := List.mem_singleton_self _
  obj := fun i h st b hb => by
    obtain rfl := List.mem_singleton.mp hb
    obtain ⟨ok, ov, e⟩ := st
    exact ⟨_, e, fun v z => by
      have z' : Data.fields _ = Data.cell v := z
      cases z'⟩
  keep := fun i h h' ⟨ok, ov, e⟩ k => ⟨ok, ov, k it (List.mem_singleton_self _) _ e⟩
  item := by
    intro X hP hw hK hc i pins s σ H E I hf st hg
    subst hP hw hK
    obtain ⟨hi, hd⟩ := hg
    obtain ⟨ok, ov, he⟩ := st
    obtain ⟨ho, _⟩ := (show ObjOk X.prog X.w H s.heap d (.frz o (.dK kvs)) from I.hok d _ hd)
    obtain ⟨u, hx, ru⟩ := kv_get rel (k := kvs[i].1) (x := kvs[i].2) (List.getElem?_eq_getElem hi)
    refine wpAny_pyNext_items_item he (D0 _ ho) hx fun key h' hkey hout hT hsz hk => ?_
    refine ⟨_, rfl, wpAny_letOwnedTupleGo_items hout fun h'' he'' hs => ?_⟩
    have helt : it < s.heap.objs.size := Heap.lt_size he
    have I1 : Inv X pins σ (upd H s.heap.objs.size (.tup [kV kvs[i].1, kvs[i].2])) { s with heap := s.heap.push { cls := .type "tuple", data := .seq #[key, u] }, toks := s.toks } :=
      I.laid (fun b o q => Heap.get?_push_of_some _ q) (Nat.le_refl _) ⟨by show 2 ≤ sizeLine; decide, [key, u], .cons (relV_key hkey) (.cons ru .nil), ⟨_, Heap.get?_push_size _ rfl, rfl, _, rfl⟩⟩
    have hf' : ∀ b ∈ [it], FpOk X pins (upd H s.heap.objs.size (.tup [kV kvs[i].1, kvs[i].2])) b := fun b hb => by
      obtain rfl := List.mem_singleton.mp hb
      refine ⟨?_, (hf b (List.mem_singleton_self _)).2⟩
      rw [upd_ne (Nat.ne_of_lt helt)]
      exact (hf b (List.mem_singleton_self _)).1
    have I2 : Inv X pins σ (upd H s.heap.objs.size (.tup [kV kvs[i].1, kvs[i].2])) { s with heap := h'', toks := s.toks } := I1.turnedL (t' := s.toks) (fun b o hb q => by
      have n1 : b ≠ it := fun z => hb (by simp [z])
      refine (hs.2 b n1).trans ?_
      by_cases hbT : b = s.heap.objs.size
      · subst hbT
        have q' : (s.heap.push { cls := .type "tuple", data := .seq #[key, u] }).get? s.heap.objs.size = some o := q
        rw [Heap.get?_push_size _ rfl] at q'
        cases q'
        exact hT
      · have q' : (s.heap.push { cls := .type "tuple", data := .seq #[key, u] }).get? b = some o := q
        rw [Heap.get?_push_ne _ _ _ hbT] at q'
        exact hk b o n1 q') hf'
    exact ⟨.ref s.heap.objs.size, _, I2, rfl, ⟨_, kvs[i].1, kvs[i].2, rfl, I.hok.fresh (Nat.le_refl _), same_new (I.hok.fresh (Nat.le_refl _)) _, upd_same, List.getElem?_eq_getElem hi⟩, ⟨_, _, he''⟩, fun b hb => (hf' b hb).1⟩
  done := by
    intro X hP hw hK hc i pins s σ H E I hf st hg
    subst hP hw hK
    obtain ⟨hi, hd⟩ := hg
    obtain ⟨ok, ov, he⟩ := st
    obtain ⟨f0, f1, f2, f3, f4, f5⟩ := hf it (List.mem_singleton_self _)
    obtain ⟨ho, _⟩ := (show ObjOk X.prog X.w H s.heap d (.frz o (.dK kvs)) from I.hok d _ hd)
    have hl : kvs.length = vs.length := rel.length
    exact wpAny_pyNext_items_end (I.ok.hd hc) he (D0 _ ho) (List.getElem?_eq_none (by omega)) fun h' eb => ⟨rfl, I.turned (t' := s.toks) (fun b o hb e => eb b o hb e) f0 f1 f3 f4 f5⟩
  self := fun _ _ _ _ _ st h => by
    obtain ⟨ok, ov, he⟩ := st
    exact PySem.W.kcp_self he h
def iVals (nf : Addr → Prop) (tl : TE) : TI := fun σ H R => tl σ H fun x H1 => ∃ d kvs, x = .ref d ∧ H1 d = some (.dK kvs) ∧ ∀ o, nf d → R (Itv d o kvs) (upd H1 d (.frz o (.dK kvs)))
def iItems (nf : Addr → Prop) (tl : TE) : TI := fun σ H R => tl σ H fun x H1 => ∃ d kvs, x = .ref d ∧ H1 d = some (.dK kvs) ∧ ∀ o, nf d → R (Iti d o kvs) (upd H1 d (.frz o (.dK kvs)))
theorem pi_vals {X : Cx} {tg l : Expr} {tl : TE} {apos cpos : Pos} (hl : PE X l tl) (hbase : attributeBase l "values" X.env (eval l X.env) = eval l X.env := by rfl) (hline : (apos.endLine == cpos.line) = true := by rfl) :
    PI X tg (.Call (.Attribute l "values" apos) [] [] cpos) (iVals (NoFz X) tl) := by
  intro pins s σ H R I h
  refine wpAny_Call_method0_late hbase hline (thn (hl pins s σ H _ I h) fun v s1 ⟨x, H1, I1, r1, q1⟩ => ?_)
  obtain ⟨d, kvs, e, hd, q⟩ := q1
  subst e
  cases r1
  obtain ⟨z1, z2, vs, rel, o, es, ep, ho, r⟩ := dk_of I1.hok hd
  have D0 : ∀ h : Heap, h.get? d = some o → h.DictAt (mixKind X.prog X.w) d vs ep := fun h e => ⟨o, es, e, r⟩
  have nf := I1.nofz hd
  have If : Inv X pins σ (upd H1 d (.frz o (.dK kvs))) s1 := I1.retag hd (fun _ z => by cases z) nf (fun _ z => by cases z) (fun _ z => by cases z) ⟨ho, z1, z2, vs, rel, o, es, ep, ho, r⟩
  obtain ⟨h1, h2⟩ := tyV_is (T := "dict") I1 (show RelV (.ref d) (.ref d) from rfl) (.inr (.inr (.inl ⟨rfl, .inl ⟨_, hd⟩⟩)))
  refine ⟨"dict", "dict.values", PySem.F.plainAttrs_dict, PySem.F.slot_dict_values, PySem.F.type_dict_values, h1, h2, Calls.callWith_builtin rfl (PySem.evalArgs_none ?_)⟩
  refine call_meetsIn PySem.F.slot_dict_values h1 PySem.F.entry_dict_values (PySem.F.args_dict_values_1 _) (meets_dict_values (mixKind X.prog X.w) d z2) ⟨⟨vs, (D0 _ ho).dictOf⟩, ?_⟩
  have I2 := If.kept (t' := s1.toks) (h' := s1.heap.push { cls := .type "dict_values", data := .fields #[.ref d] }) fun b o e => Heap.get?_push_of_some _ e
  have ho2 : (s1.heap.push { cls := .type "dict_values", data := .fields #[.ref d] }).get? d = some o := Heap.get?_push_of_some _ ho
  refine wpAny_pyIter_values ⟨_, Heap.get?_push_size _ rfl, rfl, rfl⟩ (D0 _ ho2) ?_
  refine ⟨_, [_], _, _, _, rfl, I2.kept (t' := s1.toks) fun b o e => Heap.get?_push_of_some _ e, turn_vals d _ o kvs vs ep (Nat.ne_of_lt (Heap.lt_size ho2)) rel D0, ⟨_, Heap.get?_push_size _ rfl, rfl, rfl⟩, fun b hb => ?_, q o nf⟩
  obtain rfl := List.mem_singleton.mp hb
  exact I2.fpOk (Nat.le_refl _) (I2.hok.fresh (Nat.le_refl _))
theorem pi_items {X : Cx} {elts : List Expr} {kk : Nat} {tpos : Pos} {l : Expr} {tl : TE} {apos cpos : Pos} (hl : PE X l tl) (hbase : attributeBase l "items" X.env (eval l X.env) = eval l X.env := by rfl) (hline : (apos.endLine == cpos.line) = true := by rfl) :
    PI X (.Tuple elts kk tpos) (.Call (.Attribute l "items" apos) [] [] cpos) (iItems (NoFz X) tl) := by
  intro pins s σ H R I h
  refine wpAny_Call_method0_late hbase hline (thn (hl pins s σ H _ I h) fun v s1 ⟨x, H1, I1, r1, q1⟩ => ?_)
  obtain ⟨d, kvs, e, hd, q⟩ := q1
  subst e
  cases r1
  obtain ⟨z1, z2, vs, rel, o, es, ep, ho, r⟩ := dk_of I1.hok hd
  have D0 : ∀ h : Heap, h.get? d = some o → h.DictAt (mixKind X.prog X.w) d vs ep := fun h e => ⟨o, es, e, r⟩
  have nf := I1.nofz hd
  have If : Inv X pins σ (upd H1 d (.frz o (.dK kvs))) s1 := I1.retag hd (fun _ z => by cases z) nf (fun _ z => by cases z) (fun _ z => by cases z) ⟨ho, z1, z2, vs, rel, o, es, ep, ho, r⟩
  obtain ⟨h1, h2⟩ := tyV_is (T := "dict") I1 (show RelV (.ref d) (.ref d) from rfl) (.inr (.inr (.inl ⟨rfl, .inl ⟨_, hd⟩⟩)))
  refine ⟨"dict", "dict.items", PySem.F.plainAttrs_dict, PySem.F.slot_dict_items, PySem.F.type_dict_items, h1, h2, Calls.callWith_builtin rfl (PySem.evalArgs_none ?_)⟩
  refine call_meetsIn PySem.F.slot_dict_items h1 PySem.F.entry_dict_items (PySem.F.args_dict_items_1 _) (meets_dict_items (mixKind X.prog X.w) d z2) ⟨⟨vs, (D0 _ ho).dictOf⟩, ?_⟩
  have I2 := If.kept (t' := s1.toks) (h' := s1.heap.push { cls := .type "dict_items", data := .fields #[.ref d] }) fun b o e => Heap.get?_push_of_some _ e
  have ho2 : (s1.heap.push { cls := .type "dict_items", data := .fields #[.ref d] }).get? d = some o := Heap.get?_push_of_some _ ho
  refine wpAny_pyIter_items ⟨_, Heap.get?_push_size _ rfl, rfl, rfl⟩ (D0 _ ho2) ?_
  refine ⟨_, [_], _, _, _, rfl, I2.kept (t' := s1.toks) fun b o e => Heap.get?_push_of_some _ e, turn_items d _ o kvs vs ep (Nat.ne_of_lt (Heap.lt_size ho2)) rel D0, ⟨_, _, Heap.get?_push_size _ rfl⟩, fun b hb => ?_, q o nf⟩
  obtain rfl := List.mem_singleton.mp hb
  exact I2.fpOk (Nat.le_refl _) (I2.hok.fresh (Nat.le_refl _))
def tUnf (nf : Addr → Prop) (t : TE) : TE := fun σ H Q => t σ H fun v H' => ∃ d o kvs, nf d ∧ H' d = some (.frz o (.dK kvs)) ∧ Q v (upd H' d (.dK kvs))
theorem pe_unf {X : Cx} {e : Expr} {t : TE} (h : PE X e t) : PE X e (tUnf (NoFz X) t) := by
  intro pins s σ H Q I hw
  refine thn (h pins s σ H _ I hw) fun u s1 ⟨v, H', I', r', d, o, kvs, nf, hd, q⟩ => ?_
  obtain ⟨_, z⟩ := (show ObjOk X.prog X.w H' s1.heap d (.frz o (.dK kvs)) from I'.hok d _ hd)
  refine ⟨v, _, I'.retag (u' := .dK kvs) hd (fun _ z => by cases z) nf (fun _ z => by cases z) (fun _ z => by cases z) ?_, r', q⟩
  exact z
def tDGetDG (td ty tx : TE) : TE := fun σ H Q => td σ H fun x H1 => ∃ a, x = .ref a ∧ (∃ kvs, H1 a = some (.dK kvs)) ∧ ty σ H1 fun y H2 => tx σ H2 fun z H3 => ∃ kvs k, H3 a = some (.dK kvs) ∧ keyOf y = some k ∧ Q ((valV kvs k).getD z) H3
theorem pe_dgetDG {X : Cx} {o e f : Expr} {apos cpos : Pos} {td ty tx : TE} (hu : X.A.units + 1 < cLine) (ho : PE X o td) (he : PE X e ty) (hf : PE X f tx) (m : M2 X o "get" apos e f cpos) : PE X (.Call (.Attribute o "get" apos) [e, f] [] cpos) (tDGetDG td ty tx) := by
  intro pins s σ H Q I h
  exact pe_dget2 hu ho.up he.up hf.up m pins s σ H Q I ⟨_, h, fun x H1 ⟨a, e, ⟨kvs, hk⟩, q⟩ => ⟨a, e, .inl ⟨kvs, Rd.of hk⟩, _, q, fun y H2 q => ⟨_, q, fun z H3 ⟨kvs, k, h3, ek, q⟩ => ⟨_, by rw [kV_of ek]; exact DGet.k h3, q⟩⟩⟩⟩
end L2

set_option Elab.async false
set_option linter.all false
set_option maxRecDepth 100000
set_option maxHeartbeats 4000000
/-! our own rules: dict(list of pairs) over the abstract heap -/
namespace L2
open PySem PySem.Spec PyProof.Rows
theorem keys_miss : typeLookup (.type "list") "keys" = pure none := by rw [typeLookup_type, builtinLookup_eq_fast]; kernel_rfl
theorem keys_none {prog : Program} {w : World} {A : Around} {E : Value → Shared → Prop} {s : Shared} {a : Addr} {xs : Array Value} {k : Nat} {Q : Option Value → Shared → Prop}
    (hx : s.heap.get? a = some { cls := .type "list", dict := none, data := .seq xs k, slots := #[] }) (hA : A.handled = none)
    (h : ∀ h' tk, (∀ b o, s.heap.get? b = some o → h'.get? b = some o) → Q none { s with heap := h', toks := tk }) : wpAny (model prog w) A (getAttr? (.ref a) "keys") Q E s := by
  obtain ⟨hp, g, d, tk, os⟩ := s
  have hT : ∀ tk', (⟨hp, g, d, tk', os⟩ : Shared).TypeIs (.ref a) "list" := fun _ => ⟨_, hx, rfl⟩
  have f1 := sub_AttributeError
  have f3 := F.slot_list_getattribute.lookup
  have f4 := F.slot_list_getattribute.bind (.ref a)
  have f5 := am_list_getattr_none
  unfold getAttr? getAttrBy? getAttrBy
  repeat (any_goals (first | assumption | exact hT _ | ((with_reducible show wpAny _ _ (call (Value.builtin "list.__getattribute__") _ _) _ _ _); refine call_meets F.slot_list_getattribute (hT _) am_entry_list_getattribute (F.args_list_getattribute_2 _ _) (meets_getattribute_miss_list a xs k #[] "keys" _ keys_miss (by decide +kernel)) ⟨hx, hA, fun h' tk' e hx' => ?_⟩) | wp_step))
  obtain ⟨t', u', he⟩ := hx'.there
  show wpAny _ _ (getattributeRaised _ _ _ _ _ _ _) _ _ _
  unfold getattributeRaised
  have hE : ∀ tk', (⟨h', g, d, tk', os⟩ : Shared).TypeIs (.ref e) "AttributeError" := fun _ => ⟨_, he, rfl⟩
  repeat (any_goals (first | assumption | exact hE _ | exact h _ _ hx'.keeps | wp_step))
theorem entry_upd_loop : entryFor table "dict.update.loop" = some Builtin.«dict.update.loop» := entryFor_of_tree (by kernel_rfl)
section
variable {prog : Program} {w : World}
inductive ItP (prog : Program) (w : World) (h : Heap) (d it : Addr) : List Value → List (Key × Value) → Prop
  | nil : ItP prog w h d it [] []
  | cons {a : Addr} {o : Obj} {key v : Value} {k : Key} {n : Nat} {xs : List Value} {ps : List (Key × Value)} : h.get? a = some o → o.cls = .type "tuple" → o.data = .seq #[key, v] n → (mixKind prog w).is k key = true → a ≠ d → a ≠ it → ItP prog w h d it xs ps → ItP prog w h d it (.ref a :: xs) ((k, v) :: ps)
theorem ItP.keep {h h' : Heap} {d it : Addr} (g : ∀ b o, b ≠ d → b ≠ it → h.get? b = some o → h'.get? b = some o) : ∀ {xs : List Value} {ps : List (Key × Value)}, ItP prog w h d it xs ps → ItP prog w h' d it xs ps
  | _, _, .nil => .nil
  | _, _, .cons h1 h2 h3 h4 h5 h6 r => .cons (g _ _ h5 h6 h1) h2 h3 h4 h5 h6 (r.keep g)
theorem upd_loop {A : Around} {R : Result → Shared → Prop} (hh : A.handled = none) {d it l : Addr} {items : Array Value} (ndi : d ≠ it) (ndl : d ≠ l) (nil : it ≠ l) : ∀ (rest : List (Key × Value)) (i : Nat) (s : Shared) (cur : List (Key × Value)), s.heap.IsListIter it l i → s.heap.IsList l items → ItP prog w s.heap d it (items.toList.drop i) rest →
    s.heap.DictOf (mixKind prog w) d cur → cur.length + rest.length ≤ 1000 →
    (∀ h' tk, h'.DictOf (mixKind prog w) d (rest.foldl (fun c p => stored c p.1 p.2) cur) → (∀ b o, b ≠ d → b ≠ it → s.heap.get? b = some o → h'.get? b = some o) → R (.ok (.ret .none)) { s with heap := h', toks := tk }) →
    codeAny (model prog w) A (.builtin "dict.update.loop" ⟨[.ref d, .ref it, rawInt i, .none], []⟩) R s
  | [], i, s, cur, hit, hl, hp, hm, hsz, hR => by
    refine codeAny_builtin entry_upd_loop ?_
    unfold Builtin.«dict.update.loop»
    have e0 : items[i]? = none := by
      cases h : items.toList.drop i with
      | nil =>
        rw [Array.getElem?_eq_none]
        have := List.drop_eq_nil_iff.mp h
        simpa using this
      | cons x xs => rw [h] at hp; cases hp
    show wpAny _ _ (pyNext (.ref it) >>= _) _ _ s
    refine wpAny_bind (wpAny_pyNext_list_end hh hit hl e0 fun h' eb => ?_)
    show wpAny _ _ (Builtin.Dict.addKeywords d [] >>= _) _ _ _
    refine wpAny_bind (wpAny_pure (wpAny_pure ?_))
    exact hR h' s.toks (hm.extBut eb ndi) fun b o nb nb' e => eb b o nb' e
  | (k, v) :: rest, i, s, cur, hit, hl, hp, hm, hsz, hR => by
    refine codeAny_builtin entry_upd_loop ?_
    unfold Builtin.«dict.update.loop»
    obtain ⟨x, xs, ed⟩ : ∃ x xs, items.toList.drop i = x :: xs := by
      cases h : items.toList.drop i with
      | nil => rw [h] at hp; cases hp
      | cons x xs => exact ⟨x, xs, rfl⟩
    have hi : i < items.size := by
      rcases Nat.lt_or_ge i items.size with h | h
      · exact h
      · rw [List.drop_of_length_le (by simpa using h)] at ed; cases ed
    have e0 : items[i]? = some x := by
      have := congrArg (fun l => l[0]?) ed
      simp only [List.getElem?_drop, Nat.add_zero, List.getElem?_cons_zero, Array.getElem?_toList] at this
      exact this
    have e1 : items.toList.drop (i + 1) = xs := by
      rw [← List.drop_drop, ed]; rfl
    rw [ed] at hp
    cases hp with
    | @cons a o key _ _ n _ _ h1 h2 h3 h4 h5 h6 r =>
    show wpAny _ _ (pyNext (.ref it) >>= _) _ _ s
    refine wpAny_bind (wpAny_pyNext_list_item hit hl e0 fun h' hit' sb => ?_)
    have k1 : ∀ b o, b ≠ it → s.heap.get? b = some o → h'.get? b = some o := fun b o nb e => (sb.2 b nb).trans e
    have ha := k1 a o h6 h1
    have hT : ({ s with heap := h' } : Shared).TypeIs (.ref a) "tuple" := ⟨o, ha, h2⟩
    refine wpAny_bind (wpAny_holding (wpAny_bind (wpAny_tryCatch ?_)))
    unfold Builtin.Dict.pairItems
    refine wpAny_bind (wpAny_typeOf hT ?_)
    rw [if_pos (by decide)]
    refine wpAny_bind (wpAny_seqItems (s := { s with heap := h' }) ha h3 (wpAny_pure ?_))
    show wpAny _ _ (holding [key, v] (dictSet d key v)) _ _ _
    refine wpAny_holding (wpAny_dictSet_pairs h4 (hm.sameBut sb ndi) (fun h'' hm'' sb'' => ?_) (by unfold sizeLine; simp only [List.length_cons] at hsz; omega))
    have k2 : ∀ b o, b ≠ d → b ≠ it → s.heap.get? b = some o → h''.get? b = some o := fun b o nb nb' e => (sb''.2 b nb).trans (k1 b o nb' e)
    refine wpAny_pure ⟨Code.quiet_builtin _ (by decide +kernel), ?_⟩
    have hlen := stored_length_le cur k v
    have ih := upd_loop hh ndi ndl nil rest (i + 1) { s with heap := h'', toks := s.toks + 1 } (stored cur k v) (hit'.at fun o e => (sb''.2 it (Ne.symm ndi)).trans e) (hl.at fun o e => (sb''.2 l (Ne.symm ndl)).trans (k1 l o (Ne.symm nil) e)) (by rw [e1]; exact r.keep k2) hm'' (by simp only [List.length_cons] at hsz; omega) fun h3 tk hm3 k3 => hR h3 tk hm3 fun b o nb nb' e => k3 b o nb nb' (k2 b o nb nb' e)
    have er : rawInt ((i : Int) + 1) = rawInt ((i + 1 : Nat) : Int) := by rw [show ((i + 1 : Nat) : Int) = (i : Int) + 1 by omega]
    show codeAny _ A (.builtin "dict.update.loop" ⟨[.ref d, .ref it, rawInt ((i : Int) + 1), .none], []⟩) R _
    rw [er]
    exact ih
end
inductive PrK (H : Hp) : List V → List (Key × V) → Prop
  | nil : PrK H [] []
  | cons {a : Addr} {k : Key} {v : V} {xs : List V} {ps : List (Key × V)} : H a = some (.tup [kV k, v]) → PrK H xs ps → PrK H (.ref a :: xs) ((k, v) :: ps)
def putAll (ps : List (Key × V)) : List (Key × V) := ps.foldl (fun c p => putK c p.1 p.2) []
def rDictP : List V → Hp → VK → Prop := fun xs H Q => ∃ (p : Addr) (ys : List V) (ps : List (Key × V)), xs = [.ref p] ∧ H p = some (.lst ys) ∧ PrK H ys ps ∧ ps.length < 1000 ∧ ∀ l H', H l = none → Same H H' → H' l = some (.dK (putAll ps)) → Q (.ref l) H'
theorem prk_at {X : Cx} {pins : List (Addr × Obj)} {σ : St} {H : Hp} {s : Shared} (I : Inv X pins σ H s) {d it : Addr} (hd : s.heap.objs.size ≤ d) (hi : s.heap.objs.size ≤ it) : ∀ {ys : List V} {ps : List (Key × V)} {its : List Value}, PrK H ys ps → Vals ys its → ∃ us, ItP X.prog X.w s.heap d it its us ∧ KV ps us
  | _, _, _, .nil, .nil => ⟨[], .nil, .nil⟩
  | _, _, _, @PrK.cons _ a k v xs ps h r, .cons rv rr => by
    obtain ⟨us, h1, h2⟩ := prk_at I hd hi r rr
    cases rv
    obtain ⟨_, its, rt, o, e1, e2, n, e3⟩ := (show ObjOk X.prog X.w H s.heap a (.tup [kV k, v]) from I.hok a _ h)
    obtain ⟨key, u, rfl, ra, rb⟩ := rt.two
    have lt := Heap.lt_size e1
    exact ⟨(k, u) :: us, .cons e1 e2 e3 (kV_is ra) (Nat.ne_of_lt (Nat.lt_of_lt_of_le lt hd)) (Nat.ne_of_lt (Nat.lt_of_lt_of_le lt hi)) h1, .cons ⟨rfl, rb⟩ h2⟩
theorem kv_all : ∀ {ps : List (Key × V)} {us : List (Key × Value)} {cs : List (Key × V)} {ds : List (Key × Value)}, KV ps us → KV cs ds → KV (ps.foldl (fun c p => putK c p.1 p.2) cs) (us.foldl (fun c p => stored c p.1 p.2) ds)
  | [], [], _, _, _, h => h
  | [], _ :: _, _, _, h, _ => by cases h
  | _ :: _, [], _, _, h, _ => by cases h
  | (k, x) :: ps, (k', u) :: us, cs, ds, h, h' => by
    cases h with
    | cons h1 h2 =>
      have e : k = k' := h1.1
      subst e
      exact kv_all (ps := ps) (us := us) h2 (h'.put k h1.2)
theorem putAll_le (ps : List (Key × V)) : (putAll ps).length ≤ ps.length := by
  have : ∀ (ps : List (Key × V)) (c : List (Key × V)), (ps.foldl (fun c p => putK c p.1 p.2) c).length ≤ c.length + ps.length := fun ps => by
    induction ps with
    | nil => intro c; exact Nat.le_refl _
    | cons p ps ih =>
      intro c
      have h1 := ih (putK c p.1 p.2)
      have h2 := length_putK c p.1 p.2
      rw [List.foldl_cons, List.length_cons]
      omega
  have := this ps []
  unfold putAll
  simpa using this
theorem call_dictP {X : Cx} (hc : X.calm = true := by rfl) : CallR X (.type "dict") rDictP := by
  intro pins s σ H xs us Q I r h
  obtain ⟨p, ys, ps, rfl, hp, pk, hsz, q⟩ := h
  obtain ⟨u, rfl, ru⟩ := vals1 r
  cases ru
  obtain ⟨hz, its, n0, rv, e0⟩ := (show ObjOk X.prog X.w H s.heap p (.lst ys) from I.hok p _ hp)
  have hh : X.A.handled = none := I.ok.hd hc
  refine callType_codes (Q₁ := fun obj s₁ => obj = .ref s.heap.objs.size ∧ s₁ = { s with heap := s.heap.push { cls := .type "dict", data := .dict #[] } }) F.kt_called_dict (F.kt_typeCall_dict_1 _) F.entry_dict_init (kt_code_dict_new _ ⟨rfl, rfl⟩) ?_
  rintro obj s₁ ⟨rfl, rfl⟩
  have hnew : (s.heap.push { cls := .type "dict", data := .dict #[] }).DictOf (mixKind X.prog X.w) s.heap.objs.size [] := Heap.DictOf.new s.heap
  have e1 : (s.heap.push { cls := .type "dict", data := .dict #[] }).get? p = some { cls := .type "list", data := .seq its.toArray n0 } := Heap.get?_push_of_some _ e0
  have hT : ({ s with heap := s.heap.push { cls := .type "dict", data := .dict #[] } } : Shared).TypeIs (.ref p) "list" := ⟨_, e1, rfl⟩
  refine ⟨hnew.typeIs, F.args_dict_init_2 _ _, ?_⟩
  unfold Builtin.«dict.__init__»
  refine wpAny_bind ?_
  unfold Builtin.Dict.selfAndRest
  refine wpAny_bind (wpAny_notOrdered_dict hnew.typeIs ?_)
  show wpAny _ _ (pure (s.heap.objs.size, [Value.ref p])) _ _ _
  refine wpAny_pure ?_
  show wpAny _ _ (Builtin.Dict.updateFrom "dict.__init__" s.heap.objs.size (.ref p) [] .none) _ _ _
  unfold Builtin.Dict.updateFrom
  refine wpAny_bind (wpAny_typeOf hT ?_)
  rw [if_pos (by decide)]
  refine wpAny_bind (keys_none e1 hh fun h1 tk1 k1 => ?_)
  have ln : ∀ b o, s.heap.get? b = some o → h1.get? b = some o := fun b o e => k1 _ _ (Heap.get?_push_of_some _ e)
  have hm1 : h1.DictOf (mixKind X.prog X.w) s.heap.objs.size [] := by
    obtain ⟨o, es, ep, ho, r⟩ := hnew
    exact ⟨o, es, ep, k1 _ _ ho, r⟩
  have hl1 : h1.IsList p its.toArray := ⟨_, k1 _ _ e1, rfl, n0, rfl⟩
  have lt1 : s.heap.objs.size < h1.objs.size := by
    obtain ⟨o, es, ep, ho, r⟩ := hm1
    exact Heap.lt_size ho
  have ltp : p < s.heap.objs.size := Heap.lt_size e0
  simp only [Option.isNone_none, if_true]
  refine wpAny_bind (wpAny_rule ?_)
  refine wpAny_bind (wpAny_pyIter_list (s := { s with heap := h1, toks := tk1 }) hl1 ?_)
  refine wpAny_pure ⟨Code.quiet_builtin _ (by decide +kernel), ?_⟩
  obtain ⟨us, hI, hK⟩ := prk_at I (d := s.heap.objs.size) (it := h1.objs.size) (Nat.le_refl _) (Nat.le_of_lt lt1) pk rv
  have hlu : us.length = ps.length := (KV.length hK).symm
  refine upd_loop (prog := X.prog) (w := X.w) (A := X.A.in1) hh (l := p) (Nat.ne_of_lt lt1) (Nat.ne_of_gt ltp) (Nat.ne_of_gt (Nat.lt_trans ltp lt1)) us 0 _ [] ⟨_, Heap.get?_push_size _ rfl, rfl, rfl⟩ (hl1.at fun o e => Heap.get?_push_of_some _ e) ?_ (hm1.push _) (by simp only [List.length_nil]; omega) fun h2 tk2 hm2 k2 => ?_
  · show ItP X.prog X.w _ _ _ (its.toArray.toList.drop 0) us
    rw [List.drop_zero]
    exact hI.keep fun b o _ _ e => Heap.get?_push_of_some _ (ln b o e)
  · refine ⟨rfl, ?_⟩
    have kp : ∀ b o, s.heap.get? b = some o → h2.get? b = some o := fun b o e => by
      have lb := Heap.lt_size e
      exact k2 b o (Nat.ne_of_lt lb) (Nat.ne_of_lt (Nat.lt_trans lb lt1)) (Heap.get?_push_of_some _ (ln b o e))
    have fr : H s.heap.objs.size = none := I.hok.fresh (Nat.le_refl _)
    have hs : (s.heap.objs.size == sysModules) = false := beq_eq_false_iff_ne.mpr (Nat.ne_of_gt I.big)
    have kv : KV (putAll ps) (us.foldl (fun c p => stored c p.1 p.2) []) := kv_all hK .nil
    have le := putAll_le ps
    have I2 := I.laid (a := s.heap.objs.size) (o := .dK (putAll ps)) (t' := tk2) kp (Nat.le_refl _) (show ObjOk X.prog X.w _ h2 _ (.dK (putAll ps)) from ⟨by unfold sizeLine; omega, hs, _, kv, hm2⟩)
    exact ⟨.ref s.heap.objs.size, _, I2, rfl, q _ _ fr (same_new fr _) upd_same⟩
end L2

set_option Elab.async false
set_option linter.all false
set_option maxRecDepth 100000
set_option maxHeartbeats 4000000
/-! our own rules: sorted of pairs of whole numbers: some order of the same -/
namespace L2
open PySem PySem.Spec PyProof.Rows PySem.W
def Gd {α : Type} (N : Nat) (R : α → Prop) : KasT α → Prop
  | .ret a => R a
  | .ask i j k => i < N ∧ j < N ∧ ∀ b, Gd N R (k b)
theorem Gd.bind {α β : Type} {N : Nat} {R : α → Prop} {S : β → Prop} {f : α → KasT β} (hf : ∀ a, R a → Gd N S (f a)) : ∀ {t : KasT α}, Gd N R t → Gd N S (t.bind f)
  | .ret a, h => hf a h
  | .ask i j k, ⟨h1, h2, h3⟩ => ⟨h1, h2, fun b => Gd.bind hf (h3 b)⟩
theorem Gd.wp {α : Type} {N : Nat} {R : α → Prop} {cmp : Nat → Nat → (Bool → Shared → Prop) → Shared → Prop} {Q : α → Shared → Prop} {s : Shared} (hc : ∀ i j, i < N → j < N → ∀ C : Bool → Shared → Prop, (∀ b, C b s) → cmp i j C s) (hq : ∀ a, R a → Q a s) : ∀ {t : KasT α}, Gd N R t → t.kasWp cmp Q s
  | .ret a, h => hq a h
  | .ask i j k, ⟨h1, h2, h3⟩ => hc i j h1 h2 _ fun b => Gd.wp hc hq (h3 b)
def Ord (n : Nat) (p : Array Nat) : Prop := p.Perm (List.toArray (List.range n))
theorem Ord.size {n : Nat} {p : Array Nat} (h : Ord n p) : p.size = n := by have := h.size_eq; simpa using this
theorem Ord.get {n : Nat} {p : Array Nat} (h : Ord n p) (hn : 0 < n) (i : Nat) : p.getD i 0 < n := by
  by_cases c : i < p.size
  · have e : p.getD i 0 = p[i] := by simp [Array.getD, c]
    rw [e]
    have hm : p[i] ∈ p.toList := by simp
    have := (Array.perm_iff_toList_perm.mp h).mem_iff.mp hm
    simpa using this
  · have e : p.getD i 0 = 0 := by simp [Array.getD, c]
    rw [e]; exact hn
theorem Ord.rev {n : Nat} {p : Array Nat} (h : Ord n p) (i j : Nat) : Ord n (kas_rev p i j) := (mirror_perm p i j _).trans h
theorem Ord.bub {n : Nat} {p : Array Nat} (h : Ord n p) (i j : Nat) : Ord n (bubble p i j) := (bubble_perm p i j).trans h
section
variable {N : Nat} (hN : 0 < N)
include hN
theorem gd_asc {p : Array Nat} (hp : Ord N p) : ∀ f n, Gd N (fun _ => True) (kas_asc p f n)
  | 0, n => trivial
  | f + 1, n => ⟨hp.get hN _, hp.get hN _, fun b => by
    cases b with
    | true => exact trivial
    | false => exact gd_asc hp f (n + 1)⟩
theorem gd_desc : ∀ (f : Nat) {p : Array Nat} (n q : Nat), Ord N p → Gd N (fun r => Ord N r.1) (kas_desc f p n q)
  | 0, p, n, q, hp => hp
  | f + 1, p, n, q, hp => ⟨hp.get hN _, hp.get hN _, fun b => by
    cases b with
    | true =>
      show Gd N _ (if true = true then (if q > 0 then kas_desc f (kas_rev p (n - (q + 1)) n) (n + 1) 0 else kas_desc f p (n + 1) 0) else _)
      rw [if_pos rfl]
      by_cases c : q > 0
      · rw [if_pos c]; exact gd_desc f _ _ (hp.rev _ _)
      · rw [if_neg c]; exact gd_desc f _ _ hp
    | false =>
      show Gd N _ (if false = true then _ else KasT.ask (p.getD (n - 1) 0) (p.getD n 0) fun d => if d = true then .ret (p, n, q) else kas_desc f p (n + 1) (q + 1))
      rw [if_neg (by decide)]
      refine ⟨hp.get hN _, hp.get hN _, fun b => ?_⟩
      cases b with
      | true => exact hp
      | false => exact gd_desc f _ _ hp⟩
theorem gd_tail3 {p : Array Nat} (hp : Ord N p) (n m : Nat) : Gd N (fun r => Ord N r.2) (kas_tail3 n m p) := by
  unfold kas_tail3
  refine Gd.bind (R := fun _ => True) (fun a _ => ?_) (gd_asc hN (hp.rev _ _) _ _)
  exact hp.rev _ _
theorem gd_descPart {p : Array Nat} (hp : Ord N p) (n m : Nat) : Gd N (fun r => Ord N r.2) (kas_descPart n m p) := (gd_desc hN _ _ _ hp).bind fun r hr => by
  by_cases c : r.2.2 > 0
  · rw [if_pos c]; exact gd_tail3 hN (hr.rev _ _) _ _
  · rw [if_neg c]; exact gd_tail3 hN hr _ _
theorem gd_count {p : Array Nat} (hp : Ord N p) (m : Nat) : Gd N (fun r => Ord N r.2) (kas_count m p) := (gd_asc hN hp _ _).bind fun n _ => by
  by_cases c : (n == m) = true
  · rw [if_pos c]; exact hp
  · rw [if_neg c]
    by_cases c2 : n > 1
    · rw [if_pos c2]
      refine ⟨hp.get hN _, hp.get hN _, fun b => ?_⟩
      cases b with
      | true => exact hp
      | false => exact gd_descPart hN (hp.rev _ _) _ _
    · rw [if_neg c2]; exact gd_descPart hN hp _ _
theorem gd_place {p : Array Nat} (hp : Ord N p) (k : Nat) : ∀ f l r, Gd N (fun _ => True) (kas_place p k f l r)
  | 0, l, r => trivial
  | f + 1, l, r => by
    show Gd N _ (if l ≥ r then KasT.ret l else _)
    by_cases c : l ≥ r
    · rw [if_pos c]; exact trivial
    · rw [if_neg c]
      refine ⟨hp.get hN _, hp.get hN _, fun b => ?_⟩
      cases b with
      | true => exact gd_place hp k f _ _
      | false => exact gd_place hp k f _ _
theorem gd_bin : ∀ (f : Nat) {p : Array Nat} (k : Nat), Ord N p → Gd N (Ord N) (kas_bin f p k)
  | 0, p, k, hp => hp
  | f + 1, p, k, hp => (gd_place hN hp k k 0 k).bind fun l _ => gd_bin f _ (hp.bub _ _)
theorem gd_sort : Gd N (Ord N) (kas_sort N) := (gd_count hN (Array.Perm.refl _) N).bind fun r hr => by
  by_cases c : r.1 < N
  · rw [if_pos c]; exact gd_bin hN _ _ hr
  · rw [if_neg c]; exact hr
end
def Tp2 (h : Heap) (v : Value) : Prop := ∃ a o i t j t' n, v = .ref a ∧ h.get? a = some o ∧ o.cls = .type "tuple" ∧ o.data = .seq #[.int i t, .int j t'] n
section
variable {prog : Program} {w : World} {A : Around} {E : Value → Shared → Prop} {s : Shared}
theorem tp2_firsts {h : Heap} : ∀ {vs : List Value}, (∀ v ∈ vs, Tp2 h v) → ∃ fs, KatTups h vs fs ∧ fs.length = vs.length ∧ ∀ f ∈ fs, ∃ i t, f = Value.int i t
  | [], _ => ⟨[], trivial, rfl, fun f hf => absurd hf List.not_mem_nil⟩
  | v :: vs, hv => by
    obtain ⟨a, o, i, t, j, t', n, rfl, h1, h2, h3⟩ := hv v List.mem_cons_self
    obtain ⟨fs, k, l, e⟩ := tp2_firsts fun u hu => hv u (List.mem_cons_of_mem _ hu)
    exact ⟨.int i t :: fs, .cons h1 h2 h3 rfl k, by rw [List.length_cons, List.length_cons, l], fun f hf => (List.mem_cons.mp hf).elim (fun z => ⟨i, t, z⟩) (e f)⟩
theorem tp2_lt {x y : Value} {Q : Bool → Shared → Prop} (hx : Tp2 s.heap x) (hy : Tp2 s.heap y) (h : ∀ b, Q b s) : wpAny (model prog w) A (keyLt' (tuples' true) x y) Q E s := by
  obtain ⟨a, o, i, t, j, t', n, rfl, h1, h2, h3⟩ := hx
  obtain ⟨a', o', i', u, j', u', n', rfl, h1', h2', h3'⟩ := hy
  refine kat_lt h1 h3 h1' h3' (kat_cons (wpAny_eqBool_int ?_))
  refine kat_go (fun e => kat_yes (kat_cons (wpAny_eqBool_int ?_))) fun e => kat_no (oneLt_int (h _))
  exact kat_go (fun e => kat_yes (kat_nil (h _))) fun e => kat_no (kat_one _ _ (lt_int (h _)))
theorem list_sort_tp {a : Addr} {vs : List Value} {n : Nat} {P : Fin → Shared → Prop} (hh : A.handled = none) (ho : s.heap.get? a = some (seqObj "list" vs.toArray n)) (tv : ∀ v ∈ vs, Tp2 s.heap v ∧ v ≠ .ref a) (h64 : vs.length < 64)
    (h : ∀ out : List Value, out.Perm vs → P (.done (.ret .none)) { s with heap := sortedHeap s.heap a vs out.toArray }) :
    wpAny (model prog w) A (Builtin.«list.sort» ⟨[.ref a], []⟩) P E s := by
  rw [list_sort_plain]
  have ha : a < s.heap.objs.size := Heap.lt_size ho
  refine wpAny_bind (listItems_at ho rfl ?_)
  refine wpAny_bind (listUpdate_at ho rfl ?_)
  obtain ⟨e1, ho1⟩ : ∃ e1, (s.heap.update a (Obj.mapSeq fun _ => #[])).get? a = some (seqObj "list" #[] e1) := ⟨_, get?_update_seq ho (fun _ => #[])⟩
  refine wpAny_bind (seqEpoch_at ho1 rfl ?_)
  refine wpAny_bind (wpAny_newTuple ?_)
  refine wpAny_bind (wpAny_newList ?_)
  refine wpAny_holding ?_
  have ho6 : (((s.heap.update a (Obj.mapSeq fun _ => #[])).push (seqObj "tuple" vs.toArray 0)).push (seqObj "list" #[] 0)).get? a = some (seqObj "list" #[] e1) := by
    rw [Heap.get?_push_ne _ _ _ (by rw [size_push', Heap.size_update]; exact Nat.ne_of_lt (Nat.lt_succ_of_lt ha)), Heap.get?_push_ne _ _ _ (by rw [Heap.size_update]; exact Nat.ne_of_lt ha)]
    exact ho1
  show wpAny (model prog w) A _ P E { s with heap := ((s.heap.update a (Obj.mapSeq fun _ => #[])).push (seqObj "tuple" vs.toArray 0)).push (seqObj "list" #[] 0) }
  dsimp only
  have hsz : vs.toArray.size = vs.length := by simp
  have tv6 : ∀ v ∈ vs, Tp2 (((s.heap.update a (Obj.mapSeq fun _ => #[])).push (seqObj "tuple" vs.toArray 0)).push (seqObj "list" #[] 0)) v := fun v hv => by
    obtain ⟨⟨b, o, i, t, j, t', n, rfl, h1, h2, h3⟩, nb⟩ := tv v hv
    refine ⟨b, o, i, t, j, t', n, rfl, Heap.get?_push_of_some _ (Heap.get?_push_of_some _ ?_), h2, h3⟩
    rw [Heap.get?_update_ne _ _ _ _ (fun e => nb (by rw [e]))]
    exact h1
  by_cases h2 : vs.toArray.size < 2
  · rw [if_pos h2, if_pos h2]
    refine wpAny_bind (wpAny_pure ?_)
    rw [StateT.run_pure]
    refine wpAny_bind (wpAny_pure ?_)
    dsimp only
    refine wpAny_bind (seqEpoch_at ho6 rfl ?_)
    refine wpAny_bind (listUpdate_at ho6 rfl ?_ (hsz2 := by rw [Array.size_map]; show (PyProof.Rows.pairsOf vs).size ≤ _; rw [PyProof.Rows.pairsOf_size, sizeLine_eq]; omega))
    simp only [bne_self_eq_false, Bool.false_eq_true, if_false]
    refine wpAny_pure ?_
    have e : ((vs.toArray.zip vs.toArray).map (·.2)) = vs.toArray := by
      apply Array.toList_inj.mp
      rw [Array.toList_map, Array.toList_zip]
      exact List.map_snd_zip (Nat.le_refl _)
    have := h vs (List.Perm.refl _)
    rw [← e] at this
    exact this
  · rw [if_neg h2, if_neg h2]
    obtain ⟨fs, k, l, e⟩ := tp2_firsts tv6
    have h2' : 2 ≤ vs.length := by omega
    refine wpAny_bind (kat_kind k (by omega) (T := .type "int") (fun f hf => ?_) (by decide) ?_)
    · obtain ⟨i, t, rfl⟩ := e f hf
      exact PySem.W.Looks.now
    refine wpAny_bind (wpAny_mono (kat_run (Q := fun st' s' => ∃ p : Array Nat, Ord vs.length p ∧ arrOf st' = p.map (kas_item (vs.toArray.zip vs.toArray)) ∧ failedOf st' = none ∧ s' = { s with heap := ((s.heap.update a (Obj.mapSeq fun _ => #[])).push (seqObj "tuple" vs.toArray 0)).push (seqObj "list" #[] 0) })
      (G := fun p s' => Ord vs.length p ∧ s' = { s with heap := ((s.heap.update a (Obj.mapSeq fun _ => #[])).push (seqObj "tuple" vs.toArray 0)).push (seqObj "list" #[] 0) }) rfl h2' h64 (fun p st' s' a1 a2 a3 a4 => ⟨p, a4.1, a2, a3, a4.2⟩) ?_) ?_ fun _ _ e => e)
    · refine Gd.wp (N := vs.length) (fun i j hi hj C hC => ?_) (fun p hp => ⟨hp, rfl⟩) (gd_sort (by omega))
      refine tp2_lt (tv6 _ ?_) (tv6 _ ?_) hC
      · rw [show vs.getD i Value.none = vs[i] by simp [hi]]; exact List.getElem_mem hi
      · rw [show vs.getD j Value.none = vs[j] by simp [hj]]; exact List.getElem_mem hj
    · rintro ⟨⟨⟩, st'⟩ s' ⟨p, hp, har, hf, rfl⟩
      dsimp only
      have hout : (arrOf st').map (·.2) = List.toArray (p.toList.map fun i => vs.getD i Value.none) := kat_snds rfl har
      have hpm : (p.toList.map fun i => vs.getD i Value.none).Perm vs := by
        have h1 := (Array.perm_iff_toList_perm.mp hp).map fun i => vs.getD i Value.none
        have h3 : ((List.range vs.length).map fun i => vs.getD i Value.none) = vs := by
          refine List.ext_getElem (by simp) fun i h1 h2 => ?_
          simp [h2]
        simp only [List.toList_toArray] at h1
        rw [h3] at h1
        exact h1
      refine wpAny_bind (seqEpoch_at ho6 rfl ?_)
      rw [hout]
      refine wpAny_bind (listUpdate_at ho6 rfl ?_ (hsz2 := by rw [List.size_toArray, hpm.length_eq, sizeLine_eq]; omega))
      rw [show failedOf st' = none from hf]
      simp only [bne_self_eq_false, Bool.false_eq_true, if_false]
      exact wpAny_pure (h _ hpm)
theorem sorted_tp {l : Addr} {vs : List Value} {Q : Value → Shared → Prop} (hh : A.handled = none) (hl : s.heap.IsList l vs.toArray) (tv : ∀ v ∈ vs, Tp2 s.heap v) (h64 : vs.length < 64)
    (h : ∀ out : List Value, out.Perm vs → Q (.ref (s.heap.objs.size + 1)) { s with heap := sortedAll s.heap vs out.toArray }) :
    wpAny (model prog w) A (call (.builtin "sorted") [.ref l]) Q E s := by
  refine Calls.call_function_entry kind_sorted plain_sorted entry_sorted (args_sorted1 _) ?_
  unfold Builtin.«sorted»
  refine wpAny_bind (m := checkCount "sorted" 1 1 _) (wpAny_pure ?_)
  refine wpAny_bind (collect_list hl ?_)
  refine wpAny_bind (wpAny_newList ?_)
  have hsz : ((s.heap.push (seqObj "list" #[] 0)).update s.heap.objs.size (Obj.mapSeq (· ++ vs.toArray))).objs.size = s.heap.objs.size + 1 := by
    rw [Heap.size_update, size_push']
  have hoL : (((s.heap.push (seqObj "list" #[] 0)).update s.heap.objs.size (Obj.mapSeq (· ++ vs.toArray))).push (seqObj "list" vs.toArray 0)).get? (s.heap.objs.size + 1) = some (seqObj "list" vs.toArray 0) := by
    rw [← hsz]; exact Heap.get?_push_size _ rfl
  have keep : ∀ b o, s.heap.get? b = some o → (((s.heap.push (seqObj "list" #[] 0)).update s.heap.objs.size (Obj.mapSeq (· ++ vs.toArray))).push (seqObj "list" vs.toArray 0)).get? b = some o := fun b o q => by
    have hlt : b < s.heap.objs.size := Heap.lt_size q
    rw [Heap.get?_push_ne _ _ _ (by rw [hsz]; exact Nat.ne_of_lt (Nat.lt_succ_of_lt hlt)), Heap.get?_update_ne _ _ _ _ (Nat.ne_of_lt hlt), Heap.get?_push_ne _ _ _ (Nat.ne_of_lt hlt)]
    exact q
  show wpAny _ _ _ _ _ { s with heap := ((s.heap.push (seqObj "list" #[] 0)).update s.heap.objs.size (Obj.mapSeq (· ++ vs.toArray))).push (seqObj "list" vs.toArray 0) }
  rw [hsz]
  refine wpAny_bind (wpAny_holding (wpAny_call_entry slot_list_sort ⟨_, hoL, rfl⟩ entry_list_sort (list_sort_tp hh hoL (fun v hv => ?_) h64 fun out hp => ⟨_, rfl, ?_⟩) (args_list_sort _)))
  · obtain ⟨a, o, i, t, j, t', n, rfl, h1, h2, h3⟩ := tv v hv
    refine ⟨⟨a, o, i, t, j, t', n, rfl, keep _ _ h1, h2, h3⟩, fun e => ?_⟩
    cases e
    exact absurd (Heap.lt_size h1) (by simp)
  · exact wpAny_pure ⟨_, rfl, h out hp⟩
end
theorem vals_perm : ∀ {ys : List V} {its out : List Value}, Vals ys its → out.Perm its → ∃ zs, Vals zs out ∧ zs.Perm ys := by
  intro ys its out r p
  induction p generalizing ys with
  | nil => exact ⟨ys, r, List.Perm.refl _⟩
  | cons x _ ih =>
    cases r with
    | cons h r =>
      obtain ⟨zs, h1, h2⟩ := ih r
      exact ⟨_ :: zs, .cons h h1, h2.cons _⟩
  | swap x y l =>
    cases r with
    | cons h r =>
    cases r with
    | cons h' r => exact ⟨_ :: _ :: _, .cons h' (.cons h r), List.Perm.swap _ _ _⟩
  | trans _ _ ih1 ih2 =>
    obtain ⟨zs, h1, h2⟩ := ih2 r
    obtain ⟨ws, h3, h4⟩ := ih1 h1
    exact ⟨ws, h3, h4.trans h2⟩
def rSortT : List V → Hp → VK → Prop := fun xs H Q => ∃ (p : Addr) (ys : List V), xs = [.ref p] ∧ H p = some (.lst ys) ∧ (∀ y ∈ ys, ∃ a i j, y = .ref a ∧ H a = some (.tup [.int i, .int j])) ∧ ys.length < 64 ∧
  ∀ D H' zs, H D = none → Same H H' → H' D = some (.lst zs) → zs.Perm ys → Q (.ref D) H'
theorem call_sortedT {X : Cx} (hc : X.calm = true) : CallR X (.builtin "sorted") rSortT := by
  intro pins s σ H xs us Q I r h
  obtain ⟨p, ys, rfl, hp, ty, h64, q⟩ := h
  obtain ⟨u, rfl, ru⟩ := vals1 r
  cases ru
  obtain ⟨its, rv, pl, hz⟩ := I.list (SqL.of hp)
  have hl := rv.length
  have tv : ∀ v ∈ its, Tp2 s.heap v := fun v hv => by
    obtain ⟨k, hk⟩ := List.mem_iff_getElem?.mp hv
    have hk' : k < ys.length := by have := (List.getElem?_eq_some_iff.mp hk).1; omega
    obtain ⟨u, hu, ru⟩ := rv.get (List.getElem?_eq_getElem hk')
    rw [hk] at hu
    cases hu
    obtain ⟨a, i, j, e, ha⟩ := ty _ (List.getElem_mem hk')
    rw [e] at ru
    cases ru
    obtain ⟨_, us, rt, o, e1, e2, n, e3⟩ := (show ObjOk X.prog X.w H s.heap a (.tup [.int i, .int j]) from I.hok a _ ha)
    obtain ⟨x, y, rfl, ⟨t, rfl⟩, ⟨t', rfl⟩⟩ := rt.two
    exact ⟨a, o, i, t, j, t', n, rfl, e1, e2, e3⟩
  refine sorted_tp (I.ok.hd hc) pl.isList tv (by omega) fun out hpm => ?_
  obtain ⟨zs, rz, pz⟩ := vals_perm rv hpm
  obtain ⟨e, he⟩ := sortedAll_at s.heap its out.toArray
  have fr : H (s.heap.objs.size + 1) = none := I.hok.fresh (Nat.le_succ _)
  have lz := pz.length_eq
  have I2 := I.laid (a := s.heap.objs.size + 1) (o := .lst zs) (t' := s.toks) (fun b u e => sortedAll_old e) (Nat.le_succ _) (show ObjOk X.prog X.w _ (sortedAll s.heap its out.toArray) _ (.lst zs) from ⟨by rw [lz]; exact hz, out, e, rz, he⟩)
  exact ⟨.ref (s.heap.objs.size + 1), _, I2, rfl, q _ _ _ fr (same_new fr _) upd_same pz⟩
end L2

set_option Elab.async false
set_option linter.all false
set_option maxRecDepth 100000
set_option maxHeartbeats 4000000
/-! our own rules: is True, comprehensions over a dict's values and items, comprehensions whose items change the heap -/
namespace L2
open PySem PySem.Spec PyProof.Rows
theorem over_vals {d : Addr} {o : Obj} {kvs : List (Key × V)} : Over (Itv d o kvs) (kvs.map (·.2)) (fun H => H d = some (.frz o (.dK kvs))) where
  go := fun i H h lt => ⟨by simpa using lt, h⟩
  stop := fun i H h le => ⟨by simpa using le, h⟩
  yld := fun i H x H' h lt y => by
    obtain ⟨rfl, k, e⟩ := y
    exact ⟨rfl, by rw [List.getElem?_map, e]; rfl⟩
theorem compJ_items {d : Addr} {o : Obj} {kvs : List (Key × V)} {g : TG} {tc : TT} {te : TE} {cs : St} {H1 : Hp} {Q : VK} (hd1 : H1 d = some (.frz o (.dK kvs))) (sz : kvs.length < sizeLine) (Pv : Addr → Nat → List V → St → Hp → Prop)
    (h0 : ∀ D H', H1 D = none → Same H1 H' → H' D = some (.lst []) → Pv D 0 [] cs H')
    (hs : ∀ D i k x ys σ1 H' p H'', kvs[i]? = some (k, x) → At (kvs.map (·.2)) H1 D i ys H' → Pv D i ys σ1 H' → H' p = none → Same H' H'' → H'' p = some (.tup [kV k, x]) → g (.ref p) σ1 H'' fun σ2 H2 => tc σ2 H2 fun b H3 => if b = true then te σ2 H3 fun v H4 => Put (kvs.map (·.2)) H1 D (Pv D) i σ2 v H4 else Skip (kvs.map (·.2)) H1 D (Pv D) i σ2 H3)
    (hd : ∀ D ys σ1 H', H1 D = none → Same H1 H' → H' D = some (.lst ys) → ys.length ≤ kvs.length → Pv D kvs.length ys σ1 H' → Q (.ref D) H') : CompJ (Iti d o kvs) g tc te cs H1 Q := by
  have el : (kvs.map (·.2)).length = kvs.length := by rw [List.length_map]
  intro D hD
  refine ⟨CW (kvs.map (·.2)) H1 D (Pv D), ⟨_, rfl, Nat.zero_le _, same_new hD _, [], upd_same, Nat.le_refl _, h0 D _ hD (same_new hD _) upd_same⟩, ?_⟩
  rintro i m σ1 H ⟨rfl, hi, sm, ys, hy, ly, p⟩
  by_cases hlt : i < kvs.length
  · refine .inr ⟨⟨hlt, sm _ _ hd1⟩, fun v H' y => ?_⟩
    obtain ⟨pp, k, x, rfl, hn, sm2, hp, hx⟩ := y
    exact hs D i k x ys σ1 H pp H' hx ⟨hD, by rw [el]; exact hlt, by rw [el]; exact sz, sm, hy, ly⟩ p hn sm2 hp
  · have e : i = kvs.length := by rw [el] at hi; omega
    subst e
    exact .inl ⟨⟨Nat.le_refl _, sm _ _ hd1⟩, hd D ys σ1 _ hD sm hy ly p⟩
end L2

set_option Elab.async false
set_option linter.all false
set_option maxRecDepth 100000
set_option maxHeartbeats 4000000
/-! our own rules: list(a dict), a pair of numbers in a list of such pairs, over the abstract heap -/
namespace L2
open PySem PySem.Spec PyProof.Rows
section
variable {X : Cx}
def rListK : List V → Hp → VK → Prop := fun xs H Q => ∃ (d : Addr) (kvs : List (Key × V)), xs = [.ref d] ∧ H d = some (.dK kvs) ∧ kvs.length < 1000 ∧ ∀ l H', H l = none → Same H H' → H' l = some (.lst (kvs.map fun kv => kV kv.1)) → Q (.ref l) H'
theorem vals_of : ∀ (xs : List V) (vs : List Value), vs.length = xs.length → (∀ (j : Nat) (v : Value), vs[j]? = some v → ∃ x, xs[j]? = some x ∧ RelV x v) → Vals xs vs
  | [], [], _, _ => .nil
  | x :: xs, v :: vs, hl, h => by
    obtain ⟨y, e, r⟩ := h 0 v rfl
    cases e
    exact .cons r (vals_of xs vs (by simpa using hl) fun j v e => by simpa using h (j + 1) v (by simpa using e))
  | [], _ :: _, hl, _ => by simp at hl
  | _ :: _, [], hl, _ => by simp at hl
theorem call_listK (hc : X.calm = true := by rfl) : CallR X (.type "list") rListK := by
  intro pins s σ H xs us Q I r h
  obtain ⟨d, kvs, rfl, hd, hz, q⟩ := h
  obtain ⟨u, rfl, ru⟩ := vals1 r
  cases ru
  obtain ⟨z1, z2, vs, rel, o, es, ep, ho, rr⟩ := dk_of I.hok hd
  have hl : kvs.length = vs.length := rel.length
  have big : 1000 ≤ sizeLine := by unfold sizeLine; decide
  refine PySem.W.kdl_call (PySem.W.kdl_dict (knd := mixKind X.prog X.w) (kvs := vs) (ep := ep) z2) (I.ok.hd hc) ⟨o, es, ho, rr⟩ (by omega) fun h' tk acc c' hk hS hacc => ?_
  have fr : H s.heap.objs.size = none := I.hok.fresh (Nat.le_refl _)
  have rv : Vals (kvs.map fun kv => kV kv.1) acc.toList := by
    refine vals_of _ _ (by rw [Array.length_toList, hacc.1, List.length_map, hl]) fun j v hj => ?_
    obtain ⟨k, x, e, hkey⟩ := hacc.2 j v (by rw [← Array.getElem?_toList]; exact hj)
    have h1 := congrArg (fun l => l[j]?) rel.keys
    simp only [List.getElem?_map, e, Option.map_some] at h1
    cases hk2 : kvs[j]? with
    | none => rw [hk2] at h1; cases h1
    | some kv =>
      rw [hk2] at h1
      have h1 : kv.1 = k := Option.some.inj h1
      refine ⟨kV kv.1, by rw [List.getElem?_map, hk2]; rfl, ?_⟩
      rw [h1]
      exact relV_key hkey
  have I2 := I.laid (a := s.heap.objs.size) (o := .lst (kvs.map fun kv => kV kv.1)) (t' := tk) hk (Nat.le_refl _) (show ObjOk X.prog X.w _ h' _ (.lst _) from ⟨by rw [List.length_map]; omega, acc.toList, c', rv, by simpa using hS⟩)
  exact ⟨.ref s.heap.objs.size, _, I2, rfl, q _ _ fr (same_new fr _) upd_same⟩
end
end L2
namespace L2
open PySem PySem.Spec PyProof.Rows
def pairO (i j : Int) : Option HO → Bool
  | some (.tup [.int a, .int b]) => decide (a = i) && decide (b = j)
  | _ => false
def pairV (H : Hp) (i j : Int) : V → Bool
  | .ref b => pairO i j (H b)
  | _ => false
def rInP : R2 := fun x y H Q => ∃ a p i j xs, x = .ref a ∧ y = .ref p ∧ H a = some (.tup [.int i, .int j]) ∧ H p = some (.lst xs) ∧ (∀ v ∈ xs, ∃ b i' j', v = .ref b ∧ H b = some (.tup [.int i', .int j'])) ∧ Q (.bl (xs.any (pairV H i j))) H
def rIntB : List V → Hp → VK → Prop := fun xs H Q => ∃ k, xs = [.bl k] ∧ Q (.int (if k = true then 1 else 0)) H
end L2

set_option Elab.async false
set_option linter.all false
set_option maxRecDepth 100000
set_option maxHeartbeats 4000000
/-! our own rules: sorted of tuples of whole numbers that are all different: rising -/
namespace L2
open PySem PySem.Spec PyProof.Rows PySem.W
def Go {α : Type} (lt : Nat → Nat → Bool) (N : Nat) (R : α → Prop) : KasT α → Prop
  | .ret a => R a
  | .ask i j k => i < N ∧ j < N ∧ Go lt N R (k (lt i j))
theorem Go.bind {α β : Type} {lt : Nat → Nat → Bool} {N : Nat} {R : α → Prop} {S : β → Prop} {f : α → KasT β} (hf : ∀ a, R a → Go lt N S (f a)) : ∀ {t : KasT α}, Go lt N R t → Go lt N S (t.bind f)
  | .ret a, h => hf a h
  | .ask i j k, ⟨h1, h2, h3⟩ => ⟨h1, h2, Go.bind hf h3⟩
theorem Go.wp {α : Type} {lt : Nat → Nat → Bool} {N : Nat} {R : α → Prop} {cmp : Nat → Nat → (Bool → Shared → Prop) → Shared → Prop} {Q : α → Shared → Prop} {s : Shared} (hc : ∀ i j, i < N → j < N → ∀ C : Bool → Shared → Prop, C (lt i j) s → cmp i j C s) (hq : ∀ a, R a → Q a s) : ∀ {t : KasT α}, Go lt N R t → t.kasWp cmp Q s
  | .ret a, h => hq a h
  | .ask i j k, ⟨h1, h2, h3⟩ => hc i j h1 h2 _ (Go.wp hc hq h3)
section
variable {lt : Nat → Nat → Bool} {N : Nat} (hN : 0 < N) (tr : ∀ i j k, lt i j = true → lt j k = true → lt i k = true) (tot : ∀ i j, i < N → j < N → i ≠ j → lt i j = true ∨ lt j i = true)
def Up (lt : Nat → Nat → Bool) (p : Array Nat) (k : Nat) : Prop := ∀ i j, i < j → j < k → lt (p.getD i 0) (p.getD j 0) = true
def Down (lt : Nat → Nat → Bool) (p : Array Nat) (k : Nat) : Prop := ∀ i j, i < j → j < k → lt (p.getD j 0) (p.getD i 0) = true
theorem Ord.ne {p : Array Nat} (h : Ord N p) {i j : Nat} (hij : i < j) (hj : j < N) : p.getD i 0 ≠ p.getD j 0 := by
  have nd : p.toList.Nodup := by
    have := (Array.perm_iff_toList_perm.mp h).nodup_iff.mpr (by simpa using List.nodup_range)
    exact this
  have hs := h.size
  have hi' : i < p.size := by omega
  have hj' : j < p.size := by omega
  simp only [Array.getD, hi', hj', dif_pos]
  intro e
  have := (List.pairwise_iff_getElem.mp nd) i j (by simpa using hi') (by simpa using hj') hij
  exact this (by simpa using e)
include tr in
theorem Up.step {p : Array Nat} {n : Nat} (h : Up lt p n) (h1 : 1 ≤ n) (hl : lt (p.getD (n - 1) 0) (p.getD n 0) = true) : Up lt p (n + 1) := fun i j hij hj => by
  by_cases e : j = n
  · subst e
    by_cases e2 : i = j - 1
    · subst e2; exact hl
    · exact tr _ _ _ (h i (j - 1) (by omega) (by omega)) hl
  · exact h i j hij (by omega)
include tr in
theorem Down.step {p : Array Nat} {n : Nat} (h : Down lt p n) (h1 : 1 ≤ n) (hl : lt (p.getD n 0) (p.getD (n - 1) 0) = true) : Down lt p (n + 1) := fun i j hij hj => by
  by_cases e : j = n
  · subst e
    by_cases e2 : i = j - 1
    · subst e2; exact hl
    · exact tr _ _ _ hl (h i (j - 1) (by omega) (by omega))
  · exact h i j hij (by omega)
include hN tr tot in
include hN tr tot in
include hN tr tot in
include hN tr tot in
include hN tr tot in
include hN tr tot in
end

section
variable {prog : Program} {w : World} {A : Around} {E : Value → Shared → Prop} {s : Shared}
end
def SN : Nat := 64
def rSortO : List V → Hp → VK → Prop := fun xs H Q => ∃ (p : Addr) (ps : List (Addr × List Int)) (L : Nat), xs = [.ref p] ∧ H p = some (.lst (ps.map fun q => .ref q.1)) ∧ (∀ q ∈ ps, H q.1 = some (.tup (q.2.map V.int))) ∧ 0 < L ∧ (∀ q ∈ ps, q.2.length = L) ∧ ps.Pairwise (fun q r => q.2 ≠ r.2) ∧ ps.length < SN ∧
  ∀ (D : Addr) (H' : Hp) (qs : List (Addr × List Int)), H D = none → Same H H' → H' D = some (.lst (qs.map fun q => .ref q.1)) → qs.Perm ps → qs.Pairwise (fun q r => HT.lexLt q.2 r.2 = true) → Q (.ref D) H'
end L2

set_option Elab.async false
set_option linter.all false
set_option maxRecDepth 100000
set_option maxHeartbeats 4000000
/-! our own reading tactic: lazy -/
theorem L2.cps {p : Prop} (h : ∀ G : Prop, (p → G) → G) : p := h p id
theorem L2.exBl {b : Bool} {p : Bool → Prop} : (∃ c, L2.V.bl b = L2.V.bl c ∧ p c) = p b := propext ⟨fun ⟨_, e, h⟩ => (L2.V.bl.inj e) ▸ h, fun h => ⟨_, rfl, h⟩⟩
theorem L2.exIn {b : Int} {p : Int → Prop} : (∃ c, L2.V.int b = L2.V.int c ∧ p c) = p b := propext ⟨fun ⟨_, e, h⟩ => (L2.V.int.inj e) ▸ h, fun h => ⟨_, rfl, h⟩⟩
theorem L2.exIn1 {b : Int} {α : Sort _} {p : Int → α → Prop} : (∃ c x, L2.V.int b = L2.V.int c ∧ p c x) = ∃ x, p b x := propext ⟨fun ⟨_, x, e, h⟩ => ⟨x, (L2.V.int.inj e) ▸ h⟩, fun ⟨x, h⟩ => ⟨_, x, rfl, h⟩⟩
theorem L2.exRf {b : PySem.Addr} {p : PySem.Addr → Prop} : (∃ c, L2.V.ref b = L2.V.ref c ∧ p c) = p b := propext ⟨fun ⟨_, e, h⟩ => (L2.V.ref.inj e) ▸ h, fun h => ⟨_, rfl, h⟩⟩
theorem L2.exRf1 {b : PySem.Addr} {α : Sort _} {p : PySem.Addr → α → Prop} : (∃ c x, L2.V.ref b = L2.V.ref c ∧ p c x) = ∃ x, p b x := propext ⟨fun ⟨_, x, e, h⟩ => ⟨x, (L2.V.ref.inj e) ▸ h⟩, fun ⟨x, h⟩ => ⟨_, x, rfl, h⟩⟩
theorem L2.exRf2 {b : PySem.Addr} {α β : Sort _} {p : PySem.Addr → α → β → Prop} : (∃ c x y, L2.V.ref b = L2.V.ref c ∧ p c x y) = ∃ x y, p b x y := propext ⟨fun ⟨_, x, y, e, h⟩ => ⟨x, y, (L2.V.ref.inj e) ▸ h⟩, fun ⟨x, y, h⟩ => ⟨_, x, y, rfl, h⟩⟩
theorem L2.exRf3 {b : PySem.Addr} {α β γ : Sort _} {p : PySem.Addr → α → β → γ → Prop} : (∃ c x y z, L2.V.ref b = L2.V.ref c ∧ p c x y z) = ∃ x y z, p b x y z := propext ⟨fun ⟨_, x, y, z, e, h⟩ => ⟨x, y, z, (L2.V.ref.inj e) ▸ h⟩, fun ⟨x, y, z, h⟩ => ⟨_, x, y, z, rfl, h⟩⟩
theorem L2.exSt {b : PySem.Str} {p : PySem.Str → Prop} : (∃ c, L2.V.str b = L2.V.str c ∧ p c) = p b := propext ⟨fun ⟨_, e, h⟩ => (L2.V.str.inj e) ▸ h, fun h => ⟨_, rfl, h⟩⟩
theorem L2.exSo {α : Type} {b : α} {p : α → Prop} : (∃ c, some b = some c ∧ p c) = p b := propext ⟨fun ⟨_, e, h⟩ => (Option.some.inj e) ▸ h, fun h => ⟨_, rfl, h⟩⟩
theorem L2.qVar {i : Nat} {σ : L2.St} {H : L2.Hp} {Q : L2.VK} {v : L2.V} (h : σ[i]? = some (some v)) : L2.tVar i σ H Q = Q v H := propext ⟨fun ⟨_, e, q⟩ => by rw [h] at e; cases e; exact q, fun q => ⟨_, h, q⟩⟩
theorem L2.and_t {a b : Prop} (h : a = True) : (a ∧ b) = b := by rw [h, true_and]
theorem L2.and_f {a b : Prop} (h : a = False) : (a ∧ b) = False := by rw [h, false_and]
theorem L2.and_r {a b a1 a2 : Prop} (h : a = (a1 ∧ a2)) : (a ∧ b) = (a1 ∧ (a2 ∧ b)) := by rw [h, and_assoc]
theorem L2.and_l {a b a' : Prop} (h : a = a') : (a ∧ b) = (a' ∧ b) := by rw [h]
open Lean Meta Simp in
simproc_decl quickVar (L2.tVar _ _ _ _) := fun e => do
  let_expr L2.tVar i s H Q := e | return .continue
  let l ← mkAppM ``GetElem?.getElem? #[s, i]
  let w ← whnfD l
  let_expr Option.some _ o := w | return .continue
  let o' ← whnfD o
  let_expr Option.some _ v := o' | return .continue
  return .visit { expr := (mkApp2 Q v H).headBeta, proof? := some (mkApp6 (mkConst ``L2.qVar) i s H Q v (← mkEqRefl l)) }
open Lean Meta Simp in
simproc_decl lazyAnd (_ ∧ _) := fun e => do
  let_expr And a b := e | return .continue
  let r ← simp a
  let a' := r.expr
  if a'.isTrue then return .visit { expr := b, proof? := some (mkApp3 (mkConst ``L2.and_t) a b (← r.getProof)) }
  if a'.isFalse then return .done { expr := mkConst ``False, proof? := some (mkApp3 (mkConst ``L2.and_f) a b (← r.getProof)) }
  match_expr a' with
  | And a1 a2 => return .visit { expr := mkAnd a1 (mkAnd a2 b), proof? := some (mkApp5 (mkConst ``L2.and_r) a b a1 a2 (← r.getProof)) }
  | _ =>
    match r.proof? with
    | none => return .done { expr := mkAnd a' b }
    | some h => return .done { expr := mkAnd a' b, proof? := some (mkApp4 (mkConst ``L2.and_l) a b a' h) }
theorem L2.ite_c {α : Sort _} {c c' : Prop} [d : Decidable c] [d' : Decidable c'] (h : c = c') (x y : α) : ite c x y = ite c' x y := by subst h; congr
open Lean Meta Simp in
simproc_decl lazyIte (ite _ _ _) := fun e => do
  let_expr ite α c d x y := e | return .continue
  let r ← simp c
  if r.expr.isTrue || r.expr.isFalse then return .continue
  if r.expr == c then return .done { expr := e }
  let d' ← synthInstance (mkApp (mkConst ``Decidable) r.expr)
  return .done { expr := mkApp5 e.consumeMData.getAppFn α r.expr d' x y, proof? := some (mkAppN (mkConst ``L2.ite_c e.consumeMData.getAppFn.constLevels!) #[α, c, r.expr, d, d', ← r.getProof, x, y]) }
open Lean Meta Simp in
simproc_decl lazyAll (_) := fun e => do
  if e.isForall then return .done { expr := e } else return .continue
def L2.rdPost : String := "L2.rSortO L2.rLtT L2.rIntB L2.rListK L2.rInP L2.tFldG L2.sFldG L2.tMethG L2.tMakeG L2.lookup_n L2.lookup_c L2.putF_n L2.putF_c L2.HO.ins.injEq L2.tDGetDG L2.tUnf L2.rDictP L2.rSortT L2.rMinL L2.rIdxG L2.rPopAtG L2.tRng1 L2.rListRng L2.tRev L2.rIxL L2.tBreak L2.tCont L2.rSum L2.rSort L2.rListG L2.rInsG L2.tDPopG L2.frameN L2.capOf Option.join_some L2.tYes L2.tChain L2.rAll L2.tBM L2.tyV L2.rStarts L2.rInK L2.tFmt L2.tJoin L2.jCons L2.jNil L2.tDefR L2.tRaise L2.rMulS L2.rSlS L2.rJoinS L2.rCatG L2.tTry1 L2.tTry0 L2.tBM0 L2.rPopG L2.rRepG L2.tDGetR L2.gLstG L2.tCallX L2.rIsiX L2.rIsiXT L2.tMs L2.rSetG L2.gSub L2.tSeq L2.tNext L2.tIfS L2.tTest L2.tB L2.tOp L2.tUn L2.rU L2.tVar L2.tC L2.rI0 L2.rI L2.tRet L2.tRetN L2.tDrop L2.tAsg L2.gName L2.gTup L2.gCons L2.gNil L2.tNil L2.tCons L2.tTupG L2.tLstG L2.tDNewG L2.rDictG L2.tAppG L2.sDPutG2 L2.pairsOf L2.tDispG L2.tPairs Option.bind_some L2.tDef L2.tCB L2.tAnd L2.tOr L2.tNot L2.tAndV L2.tOrV L2.tNotV L2.tIf L2.rIxG L2.rIxS L2.rEq L2.rNe L2.scal_ss L2.scal_ii L2.scal_bb L2.scal_nn L2.scal_ns L2.scal_sn L2.scal_ni L2.scal_in L2.flat_s L2.flat_i L2.flat_n L2.flat_b L2.inV_nil L2.inV_cons L2.eqV_ss L2.eqV_ii L2.cx_K L2.rInG L2.gTupG L2.rSlG L2.tSl L2.tPart L2.tNoPart L2.tForT L2.tForL L2.turns L2.upd_same List.all_cons List.all_nil Bool.and_true Bool.true_and Bool.and_self Bool.or_false Bool.or_true Bool.false_or Bool.true_or L2.cutV HT.sIx L2.rIsiG L2.tyG_n L2.tyG_b L2.tyG_i L2.tyG_s L2.tyG_r L2.hoT_l L2.hoT_t L2.hoT_d L2.V.ty.injEq L2.kit_ii L2.kit_it L2.kit_il L2.kit_is L2.kit_ib L2.kit_id L2.kit_ni L2.kit_nt L2.kit_nl L2.kit_ns L2.kit_nb L2.kit_nd L2.kit_ti L2.kit_tt L2.kit_tl L2.kit_ts L2.kit_tb L2.kit_td L2.kit_li L2.kit_lt L2.kit_ll L2.kit_ls L2.kit_lb L2.kit_ld L2.kit_si L2.kit_st L2.kit_sl L2.kit_ss L2.kit_sb L2.kit_sd L2.kit_bi L2.kit_bt L2.kit_bl L2.kit_bs L2.kit_bb L2.kit_bd L2.kit_di L2.kit_dt L2.kit_dl L2.kit_ds L2.kit_db L2.kit_dd L2.mn1 L2.mn2 List.drop_succ_cons List.drop_zero List.take_succ_cons List.take_zero Nat.reduceEqDiff not_false_eq_true L2.tDInG L2.tDNotInG L2.tDGetG L2.keyOf_s L2.keyOf_i List.cons.injEq L2.tDNewK L2.start List.map_cons List.map_nil List.length_cons List.length_nil List.replicate List.cons_append List.nil_append List.getElem?_cons_zero List.getElem?_cons_succ List.set_cons_zero List.set_cons_succ Option.some.injEq L2.V.int.injEq L2.V.str.injEq L2.V.ref.injEq L2.V.bl.injEq L2.HO.tup.injEq L2.HO.lst.injEq L2.HO.dK.injEq reduceCtorEq exists_eq_left' exists_and_left exists_eq_left exists_eq_right L2.CPow L2.CMul L2.CDiv decide_eq_true_eq L2.ofString_inj String.reduceEq decide_true decide_false Bool.false_eq_true if_true if_false if_pos and_true true_and or_false false_or or_true true_or and_false false_and exists_const exists_false Bool.not_true Bool.not_false L2.sz0 L2.sz1 L2.sz2 L2.sz3 L2.sz4 L2.sz5 L2.sz6 L2.atI_0 L2.atI_1 L2.atI_2 L2.atI_3 L2.atI_4 Nat.reduceAdd Nat.reduceSub Nat.zero_add Nat.reduceLeDiff Int.reducePow Int.reduceToNat Int.reduceLT Int.reduceLE Int.reduceNeg L2.na2 L2.na10 Nat.reducePow Nat.reduceLT"
def L2.lzPre : String := "lazyAnd reduceIte lazyIte exists_eq_left exists_eq_left' reduceIte L2.exBl L2.exIn L2.exRf L2.exSt L2.exSo quickVar L2.exIn1 L2.exRf1 L2.exRf2 L2.exRf3"
def L2.rdPre : String := "exists_eq_left exists_eq_left' reduceIte L2.exBl L2.exIn L2.exRf L2.exSt L2.exSo quickVar L2.exIn1 L2.exRf1 L2.exRf2 L2.exRf3"
open Lean in
def L2.rdArgs (pre : String) : MacroM (TSyntaxArray ``Lean.Parser.Tactic.simpLemma) := do
  let p ← (L2.rdPost.splitOn " ").toArray.mapM fun n => `(Lean.Parser.Tactic.simpLemma| $(mkIdent n.toName):ident)
  let a ← (pre.splitOn " ").toArray.mapM fun n => `(Lean.Parser.Tactic.simpLemma| ↓ $(mkIdent n.toName):ident)
  return a ++ p

seal L2.PE L2.PA L2.PS L2.PSs L2.PT L2.PW L2.PG L2.PGs L2.OpR L2.CallR L2.PI L2.PSet L2.PO L2.SlR L2.IxR L2.PPs L2.PC L2.UnR L2.MtR
local macro_rules
  | `(tactic| walk_at "rl") => do
    let a ← L2.rdArgs L2.lzPre
    `(tactic| simp (config := { maxSteps := 3000000 }) only [$a,*, *])
  | `(tactic| walk_at "ro") => do
    let a ← L2.rdArgs (L2.rdPre)
    `(tactic| simp (config := { maxSteps := 3000000 }) only [and_assoc, $a,*, *])
  | `(tactic| walk_at "rz") => do
    let a ← L2.rdArgs (L2.lzPre ++ " lazyAll")
    `(tactic| simp (config := { maxSteps := 3000000 }) only [$a,*, *])
  | `(tactic| walk_at "rd") => `(tactic| first | (walk_at "rl"; try walk_at "ro") | walk_at "ro")

set_option Elab.async false
set_option linter.all false
set_option maxRecDepth 100000
set_option maxHeartbeats 4000000
namespace K60
open PySem L2
def top (i : Nat) : Stmt := PySem.Challenge.pw_rerunyard_k60_whole_doomed_never_served.main.body.getD i (.Pass ⟨0, 0, 0, 0⟩)
abbrev s__wall : Stmt := top 0
theorem sc__wall : FnScope ["k"] ["k"] (defScope s__wall) := ⟨rfl, rfl, rfl, by decide +kernel, rfl, by decide +kernel, by decide +kernel⟩
abbrev s_doomed : Stmt := top 2
theorem sc_doomed : FnScope ["view", "lost", "tool", "hand", "n", "before"] ["view"] (defScope s_doomed) := ⟨rfl, rfl, rfl, by decide +kernel, rfl, by decide +kernel, by decide +kernel⟩
abbrev s_free_some : Stmt := top 3
theorem sc_free_some : FnScope ["tool", "lost", "hand", "n"] ["tool", "lost"] (defScope s_free_some) := ⟨rfl, rfl, rfl, by decide +kernel, rfl, by decide +kernel, by decide +kernel⟩
abbrev s_pieces_of : Stmt := top 4
theorem sc_pieces_of : FnScope ["tool"] ["tool"] (defScope s_pieces_of) := ⟨rfl, rfl, rfl, by decide +kernel, rfl, by decide +kernel, by decide +kernel⟩
abbrev s_pieces_lost : Stmt := top 5
theorem sc_pieces_lost : FnScope ["tool", "lost"] ["tool", "lost"] (defScope s_pieces_lost) := ⟨rfl, rfl, rfl, by decide +kernel, rfl, by decide +kernel, by decide +kernel⟩
abbrev s_Tool___init__ : Stmt := inClass (top 7) 0
theorem sc_Tool___init__ : FnScope ["self", "count"] ["self", "count"] (defScope s_Tool___init__) := ⟨rfl, rfl, rfl, by decide +kernel, rfl, by decide +kernel, by decide +kernel⟩
abbrev s_Store___init__ : Stmt := inClass (top 8) 0
theorem sc_Store___init__ : FnScope ["self", "level", "most"] ["self", "level", "most"] (defScope s_Store___init__) := ⟨rfl, rfl, rfl, by decide +kernel, rfl, by decide +kernel, by decide +kernel⟩
abbrev s_Goods___init__ : Stmt := inClass (top 9) 0
theorem sc_Goods___init__ : FnScope ["self", "program"] ["self", "program"] (defScope s_Goods___init__) := ⟨rfl, rfl, rfl, by decide +kernel, rfl, by decide +kernel, by decide +kernel⟩
abbrev s_Goods_take : Stmt := inClass (top 9) 1
theorem sc_Goods_take : FnScope ["self", "hand", "name", "n", "tool"] ["self", "hand", "name", "n"] (defScope s_Goods_take) := ⟨rfl, rfl, rfl, by decide +kernel, rfl, by decide +kernel, by decide +kernel⟩
abbrev s_Goods_give : Stmt := inClass (top 9) 2
theorem sc_Goods_give : FnScope ["self", "hand", "name", "n", "tool", "given"] ["self", "hand", "name", "n"] (defScope s_Goods_give) := ⟨rfl, rfl, rfl, by decide +kernel, rfl, by decide +kernel, by decide +kernel⟩
abbrev s_Goods_put : Stmt := inClass (top 9) 3
theorem sc_Goods_put : FnScope ["self", "hand", "name", "n"] ["self", "hand", "name", "n"] (defScope s_Goods_put) := ⟨rfl, rfl, rfl, by decide +kernel, rfl, by decide +kernel, by decide +kernel⟩
abbrev s_Goods_get : Stmt := inClass (top 9) 4
theorem sc_Goods_get : FnScope ["self", "hand", "name", "n", "store"] ["self", "hand", "name", "n"] (defScope s_Goods_get) := ⟨rfl, rfl, rfl, by decide +kernel, rfl, by decide +kernel, by decide +kernel⟩
abbrev s_Goods_bring : Stmt := inClass (top 9) 5
theorem sc_Goods_bring : FnScope ["self", "name", "n"] ["self", "name", "n"] (defScope s_Goods_bring) := ⟨rfl, rfl, rfl, by decide +kernel, rfl, by decide +kernel, by decide +kernel⟩
abbrev s_Goods_leave : Stmt := inClass (top 9) 6
theorem sc_Goods_leave : FnScope ["self", "hand", "left", "name", "n", "given", "served"] ["self", "hand"] (defScope s_Goods_leave) := ⟨rfl, rfl, rfl, by decide +kernel, rfl, by decide +kernel, by decide +kernel⟩
abbrev s_Goods_tools : Stmt := inClass (top 9) 7
theorem sc_Goods_tools : FnScope ["self"] ["self"] (defScope s_Goods_tools) := ⟨rfl, rfl, rfl, by decide +kernel, rfl, by decide +kernel, by decide +kernel⟩
abbrev s_Goods_stores : Stmt := inClass (top 9) 8
theorem sc_Goods_stores : FnScope ["self"] ["self"] (defScope s_Goods_stores) := ⟨rfl, rfl, rfl, by decide +kernel, rfl, by decide +kernel, by decide +kernel⟩
abbrev s_Goods_stand : Stmt := inClass (top 9) 9
theorem sc_Goods_stand : FnScope ["self", "tools", "stores"] ["self", "tools", "stores"] (defScope s_Goods_stand) := ⟨rfl, rfl, rfl, by decide +kernel, rfl, by decide +kernel, by decide +kernel⟩
abbrev s_tools_of : Stmt := top 10
theorem sc_tools_of : FnScope ["program"] ["program"] (defScope s_tools_of) := ⟨rfl, rfl, rfl, by decide +kernel, rfl, by decide +kernel, by decide +kernel⟩
abbrev s_stores_of : Stmt := top 11
theorem sc_stores_of : FnScope ["program"] ["program"] (defScope s_stores_of) := ⟨rfl, rfl, rfl, by decide +kernel, rfl, by decide +kernel, by decide +kernel⟩
abbrev s_told_tool : Stmt := top 12
theorem sc_told_tool : FnScope ["tool"] ["tool"] (defScope s_told_tool) := ⟨rfl, rfl, rfl, by decide +kernel, rfl, by decide +kernel, by decide +kernel⟩
abbrev s_told_store : Stmt := top 13
theorem sc_told_store : FnScope ["store"] ["store"] (defScope s_told_store) := ⟨rfl, rfl, rfl, by decide +kernel, rfl, by decide +kernel, by decide +kernel⟩
abbrev s_hand_out : Stmt := top 14
theorem sc_hand_out : FnScope ["tool", "hand", "n"] ["tool", "hand", "n"] (defScope s_hand_out) := ⟨rfl, rfl, rfl, by decide +kernel, rfl, by decide +kernel, by decide +kernel⟩
abbrev s_hand_in : Stmt := top 15
theorem sc_hand_in : FnScope ["tool", "hand", "n"] ["tool", "hand", "n"] (defScope s_hand_in) := ⟨rfl, rfl, rfl, by decide +kernel, rfl, by decide +kernel, by decide +kernel⟩
abbrev s_serve_takers : Stmt := top 16
theorem sc_serve_takers : FnScope ["tool", "served", "hand", "n"] ["tool"] (defScope s_serve_takers) := ⟨rfl, rfl, rfl, by decide +kernel, rfl, by decide +kernel, by decide +kernel⟩
abbrev s_serve_by_turns : Stmt := top 17
theorem sc_serve_by_turns : FnScope ["store", "served", "hand", "n"] ["store"] (defScope s_serve_by_turns) := ⟨rfl, rfl, rfl, by decide +kernel, rfl, by decide +kernel, by decide +kernel⟩
abbrev s__law_cell_at : Stmt := top 19
theorem sc__law_cell_at : FnScope ["script", "k"] ["script", "k"] (defScope s__law_cell_at) := ⟨rfl, rfl, rfl, by decide +kernel, rfl, by decide +kernel, by decide +kernel⟩
abbrev s__law_stir : Stmt := top 20
theorem sc__law_stir : FnScope ["cell", "k", "number"] ["cell", "k"] (defScope s__law_stir) := ⟨rfl, rfl, rfl, by decide +kernel, rfl, by decide +kernel, by decide +kernel⟩
abbrev s__law_view : Stmt := top 21
theorem sc__law_view : FnScope ["goods"] ["goods"] (defScope s__law_view) := ⟨rfl, rfl, rfl, by decide +kernel, rfl, by decide +kernel, by decide +kernel⟩
abbrev s__law_queued : Stmt := top 22
theorem sc__law_queued : FnScope ["goods", "found", "tool"] ["goods"] (defScope s__law_queued) := ⟨rfl, rfl, rfl, by decide +kernel, rfl, by decide +kernel, by decide +kernel⟩
abbrev s__law_deed : Stmt := top 23
theorem sc__law_deed : FnScope ["goods", "names", "cell", "many", "some", "hand", "name", "n", "kind", "found", "tool", "back", "served"] ["goods", "names", "cell", "many"] (defScope s__law_deed) := ⟨rfl, rfl, rfl, by decide +kernel, rfl, by decide +kernel, by decide +kernel⟩
abbrev s__law_all_left : Stmt := top 24
theorem sc__law_all_left : FnScope ["goods", "many", "served", "gone", "tool", "back", "some"] ["goods", "many"] (defScope s__law_all_left) := ⟨rfl, rfl, rfl, by decide +kernel, rfl, by decide +kernel, by decide +kernel⟩
abbrev s_law : Stmt := top 25
theorem sc_law : FnScope ["script", "head", "names", "goods", "cell", "stuck", "served", "now", "ahead"] ["script"] (defScope s_law) := ⟨rfl, rfl, rfl, by decide +kernel, rfl, by decide +kernel, by decide +kernel⟩
end K60

set_option Elab.async false
set_option linter.all false
set_option maxRecDepth 100000
set_option maxHeartbeats 4000000
namespace K60
open PySem L2
/-! what a tool is: what is free, who has what, who awaits -/
structure TS where
  free : Int
  held : List (Int × Int)
  que : List (Int × Int)
def getI : List (Int × Int) → Int → Int
  | [], _ => 0
  | (k, x) :: r, h => if k = h then x else getI r h
def putI : List (Int × Int) → Int → Int → List (Int × Int)
  | [], h, x => [(h, x)]
  | (k, y) :: r, h, x => if k = h then (k, x) :: r else (k, y) :: putI r h x
def outS (t : TS) (h n : Int) : TS := ⟨t.free - n, putI t.held h (getI t.held h + n), t.que⟩
def hk (held : List (Int × Int)) : List (Key × V) := held.map fun p => (Sum.inl p.1, V.int p.2)
theorem hk_get {h : Int} : ∀ held : List (Int × Int), (valV (hk held) (Sum.inl h)).getD (.int 0) = .int (getI held h)
  | [] => rfl
  | (k, x) :: r => by
    unfold hk getI
    rw [List.map_cons]
    by_cases c : k = h
    · rw [valV_pos (by rw [c]), if_pos c]; rfl
    · rw [valV_neg (fun e => c (Sum.inl.inj e)), if_neg c]
      exact hk_get r
theorem hk_put {h x : Int} : ∀ held : List (Int × Int), (held.map (·.1)).Nodup → putK (hk held) (Sum.inl h) (.int x) = hk (putI held h x)
  | [], _ => rfl
  | (k, y) :: r, nd => by
    rw [List.map_cons, List.nodup_cons] at nd
    have ih := hk_put (h := h) (x := x) r nd.2
    unfold putI
    by_cases c : k = h
    · rw [if_pos c]
      subst c
      unfold putK hk
      rw [if_pos (by rw [List.map_cons, List.any_cons]; simp), List.map_cons, List.map_cons, List.map_cons]
      congr 1
      · simp
      · rw [List.map_map]
        refine List.map_congr_left fun p hp => ?_
        have : p.1 ≠ k := fun e => nd.1 (by rw [← e]; exact List.mem_map_of_mem (f := (·.1)) hp)
        simp [this]
    · rw [if_neg c]
      unfold putK hk at ih ⊢
      rw [List.map_cons, List.any_cons]
      have e0 : decide ((Sum.inl k : Key) = Sum.inl h) = false := decide_eq_false fun e => c (Sum.inl.inj e)
      rw [e0, Bool.false_or]
      by_cases c2 : (List.map (fun p => ((Sum.inl p.1 : Key), V.int p.2)) r).any (fun kv => decide (kv.1 = Sum.inl h)) = true
      · rw [if_pos c2] at ih ⊢
        rw [List.map_cons, ih, List.map_cons]
        congr 1
        simp [c]
      · rw [if_neg c2] at ih ⊢
        rw [List.cons_append, ih, List.map_cons]
theorem putI_keys {h x : Int} : ∀ held : List (Int × Int), (held.map (·.1)).Nodup → ((putI held h x).map (·.1)).Nodup ∧ (∀ k, k ∈ (putI held h x).map (·.1) → k = h ∨ k ∈ held.map (·.1)) ∧ (putI held h x).length ≤ held.length + 1
  | [], _ => ⟨List.nodup_cons.mpr ⟨List.not_mem_nil, .nil⟩, fun k hk => .inl (List.mem_singleton.mp hk), Nat.le_refl _⟩
  | (k, y) :: r, nd => by
    rw [List.map_cons, List.nodup_cons] at nd
    obtain ⟨a, b, c⟩ := putI_keys (h := h) (x := x) r nd.2
    unfold putI
    by_cases e : k = h
    · rw [if_pos e]
      exact ⟨by rw [List.map_cons, List.nodup_cons]; exact nd, fun k' hk' => .inr hk', by simp⟩
    · rw [if_neg e, List.map_cons, List.nodup_cons]
      refine ⟨⟨fun z => (b _ z).elim (fun z => e z) nd.1, a⟩, fun k' hk' => ?_, by simp only [List.length_cons]; omega⟩
      rcases List.mem_cons.mp hk' with rfl | hk'
      · exact .inr List.mem_cons_self
      · exact (b _ hk').imp id fun z => List.mem_cons_of_mem _ z
/-- those that are served -/
def srv : List (Int × Int) → TS → List (Int × Int) × TS
  | [], t => ([], t)
  | (h, n) :: q, t => if n ≤ t.free then ((h, n) :: (srv q (outS ⟨t.free, t.held, q⟩ h n)).1, (srv q (outS ⟨t.free, t.held, q⟩ h n)).2) else ([], t)
theorem srv_cons {h n : Int} {q : List (Int × Int)} {t : TS} (c : n ≤ t.free) : srv ((h, n) :: q) t = ((h, n) :: (srv q (outS ⟨t.free, t.held, q⟩ h n)).1, (srv q (outS ⟨t.free, t.held, q⟩ h n)).2) := by
  show (if n ≤ t.free then _ else _) = _
  rw [if_pos c]
/-! ### how it lies in a heap -/
inductive Prs (H : Hp) : List V → List (Int × Int) → Prop
  | nil : Prs H [] []
  | cons {p : Addr} {h n : Int} {vs : List V} {ps : List (Int × Int)} : H p = some (.tup [.int h, .int n]) → Prs H vs ps → Prs H (.ref p :: vs) ((h, n) :: ps)
theorem Prs.mono {H H' : Hp} (g : ∀ c xs, H c = some (.tup xs) → H' c = some (.tup xs)) : ∀ {vs : List V} {ps : List (Int × Int)}, Prs H vs ps → Prs H' vs ps
  | _, _, .nil => .nil
  | _, _, .cons h r => .cons (g _ _ h) (r.mono g)
theorem Prs.length {H : Hp} : ∀ {vs : List V} {ps : List (Int × Int)}, Prs H vs ps → vs.length = ps.length
  | _, _, .nil => rfl
  | _, _, .cons _ r => by rw [List.length_cons, List.length_cons, r.length]
theorem Prs.get {H : Hp} : ∀ {vs : List V} {ps : List (Int × Int)}, Prs H vs ps → ∀ {i : Nat} {v : V}, vs[i]? = some v → ∃ p h n, v = .ref p ∧ ps[i]? = some (h, n) ∧ H p = some (.tup [.int h, .int n])
  | _, _, .nil, i, v, e => by simp at e
  | _, _, .cons hp r, i, v, e => by
    cases i with
    | zero => simp at e; exact ⟨_, _, _, e.symm, rfl, hp⟩
    | succ i => simpa using r.get (i := i) (v := v) (by simpa using e)
theorem Prs.snoc {H : Hp} {p : Addr} {h n : Int} (hp : H p = some (.tup [.int h, .int n])) : ∀ {vs : List V} {ps : List (Int × Int)}, Prs H vs ps → Prs H (vs ++ [.ref p]) (ps ++ [(h, n)])
  | _, _, .nil => .cons hp .nil
  | _, _, .cons h r => .cons h (r.snoc hp)
/-- all but the things at a, d, q is kept -/
def Fr3 (a d q : Addr) (H H' : Hp) : Prop := ∀ c u, c ≠ a → c ≠ d → c ≠ q → H c = some u → H' c = some u
/-- the hands that there are -/
def hs : List Int := [1, 2, 3, 4, 5, 6, 7, 8, 9, 10, 11, 100]
def HsOk (t : TS) : Prop := (∀ p ∈ t.held, p.1 ∈ hs) ∧ ∀ p ∈ t.que, p.1 ∈ hs
theorem nd_le : ∀ {l m : List Int}, l.Nodup → (∀ x ∈ l, x ∈ m) → l.length ≤ m.length
  | [], m, _, _ => Nat.zero_le _
  | x :: l, m, nd, h => by
    rw [List.nodup_cons] at nd
    have hx := h x List.mem_cons_self
    have h2 : ∀ y ∈ l, y ∈ m.erase x := fun y hy => (List.mem_erase_of_ne (fun z => nd.1 (by rw [← z]; exact hy))).mpr (h y (List.mem_cons_of_mem _ hy))
    have := nd_le nd.2 h2
    rw [List.length_erase_of_mem hx] at this
    have hp : 0 < m.length := List.length_pos_of_mem hx
    rw [List.length_cons]; omega
theorem held_len {t : TS} (nd : (t.held.map (·.1)).Nodup) (h : HsOk t) : t.held.length ≤ 12 := by
  have := nd_le nd (m := hs) fun x hx => by
    obtain ⟨p, hp, e⟩ := List.mem_map.mp hx
    exact e ▸ h.1 p hp
  rw [List.length_map] at this
  exact this
def TlO (C : Addr) (H : Hp) (a d q : Addr) (t : TS) : Prop := ∃ dx qs, H a = some (.ins C dx [("free", .int t.free), ("held", .ref d), ("queue", .ref q)]) ∧ H d = some (.dK (hk t.held)) ∧ H q = some (.lst qs) ∧ Prs H qs t.que ∧ (t.held.map (·.1)).Nodup ∧ HsOk t ∧ t.que.length ≤ 100
section
variable {P : Program} {w : World} {K : PySem.W.Frag} {mg : Str → Option Value} {base : Heap}
def spToolI (C : Addr) : Sp := fun vs H Q _ => ∃ (a dx : Addr) (n : Int), vs = [.ref a, .int n] ∧ H a = some (.ins C dx []) ∧ ∀ (d q : Addr) (H' : Hp), H d = none → H q = none → (∀ c u, c ≠ a → H c = some u → H' c = some u) → TlO C H' a d q ⟨n, [], []⟩ → Q .non H'
theorem ok_Tool {C : Addr} (D : MakeAt K mg "Tool" C "Tool.__init__" s_Tool___init__ ["self", "count"]) (CL_Tool : Cls K C) (N_Tool_free : NoAttr K C "free") (N_Tool_held : NoAttr K C "held") (N_Tool_queue : NoAttr K C "queue") : OkC P w K mg base 1 "Tool" C ["self", "count"] (spToolI C) := by
  refine D.ok sc_Tool___init__ (fun vs H Q E h => ?_) (fun f cdv A outer s H vs Q E hr h => ?_)
  · obtain ⟨_, _, _, rfl, _⟩ := h; rfl
  obtain ⟨a, dx, n, rfl, ha, q⟩ := h
  refine ⟨_, (pss_cons (ps_fldG CL_Tool N_Tool_free (pv 0) (pv 1))
  (pss_cons (ps_fldG CL_Tool N_Tool_held (pv 0) pe_dnewG)
  (pss_one (ps_fldG CL_Tool N_Tool_queue (pv 0) (pe_lstG pa_nil))))), ?_⟩
  walk_at "rd"
  intro H1 m1 d H2 hd g2 h2
  have a2 := g2 _ _ m1.at_
  walk_at "rd"
  intro H3 m3 q0 H4 hq g4 h4
  have a4 := g4 _ _ m3.at_
  clear a2
  walk_at "rd"
  intro H5 m5
  have nd : d ≠ a := (ne_of_none m1.at_ hd).symm
  have nq : q0 ≠ a := (ne_of_none m3.at_ hq).symm
  have d3 := m3.old h2 nd
  have hd0 : H d = none := by rw [← m1.else_ d nd]; exact hd
  have hq2 : H2 q0 = none := by rw [← m3.else_ q0 nq]; exact hq
  have hq0 : H q0 = none := by rw [← m1.else_ q0 nq]; exact g2.free hq2
  refine q d q0 H5 hd0 hq0 (fun c u nc hc => m5.old (g4 _ _ (m3.old (g2 _ _ (m1.old hc nc)) nc)) nc) ⟨dx, [], m5.at_, m5.old (g4 _ _ d3) nd, m5.old h4 nq, .nil, .nil, ⟨fun p hp => absurd hp List.not_mem_nil, fun p hp => absurd hp List.not_mem_nil⟩, by simp⟩
theorem Fr3.refl {a d q : Addr} {H : Hp} : Fr3 a d q H H := fun _ _ _ _ _ h => h
theorem Fr3.trans {a d q : Addr} {H H' H'' : Hp} (g : Fr3 a d q H H') (g' : Fr3 a d q H' H'') : Fr3 a d q H H'' := fun c u h1 h2 h3 h => g' c u h1 h2 h3 (g c u h1 h2 h3 h)
def spOut (C : Addr) : Sp := fun vs H Q _ => ∃ (a d q : Addr) (t : TS) (h n : Int), vs = [.ref a, .int h, .int n] ∧ TlO C H a d q t ∧ h ∈ hs ∧ ∀ H', Fr3 a d q H H' → TlO C H' a d q (outS t h n) → Q .non H'
theorem ok_out {C : Addr} (D : DefAt K mg "hand_out" s_hand_out ["tool", "hand", "n"]) (CL_Tool : Cls K C) (N_Tool_free : NoAttr K C "free") (N_Tool_held : NoAttr K C "held") : OkD P w K mg base 1 "hand_out" ["tool", "hand", "n"] (spOut C) := by
  refine D.ok sc_hand_out (fun vs H Q E h => ?_) (fun f cdv A outer s H vs Q E hr h => ?_)
  · obtain ⟨_, _, _, _, _, _, rfl, _⟩ := h; rfl
  obtain ⟨a, d, q0, t, h, n, rfl, ⟨dx, qs, k1, k2, k3, k4, k5, k6, k7⟩, kl, q⟩ := h
  have hu := hu_of hr
  have big : 100000 ≤ sizeLine := by unfold sizeLine; decide
  refine ⟨_, (pss_cons (ps_fldG CL_Tool N_Tool_free (pv 0) (pe_op op_sub (pe_fldG CL_Tool N_Tool_free (pv 0)) (pv 2)))
  (pss_one (ps_dputG2 hu (pe_fldG CL_Tool N_Tool_held (pv 0)) (pv 1) (pe_op op_add (pe_dgetDG hu (pe_fldG CL_Tool N_Tool_held (pv 0)) (pv 1) pe_int ⟨rfl, rfl, rfl, rfl⟩) (pv 2))))), ?_⟩
  walk_at "rd"
  intro H1 m1
  have nda : d ≠ a := fun z => by rw [z, k1] at k2; cases k2
  have nqa : q0 ≠ a := fun z => by rw [z, k1] at k3; cases k3
  have nqd : q0 ≠ d := fun z => by rw [z, k2] at k3; cases k3
  have a1 := m1.at_
  have d1 := m1.old k2 nda
  have lh : (hk t.held).length = t.held.length := by unfold hk; rw [List.length_map]
  have l12 := held_len k5 k6
  walk_at "rd"
  refine ⟨⟨_, rfl⟩, _, hk_get _, by omega, fun H2 m2 => ?_⟩
  obtain ⟨p1, p2, p3⟩ := putI_keys (h := h) (x := getI t.held h + n) t.held k5
  have nt : ∀ c xs, H c = some (.tup xs) → H2 c = some (.tup xs) := fun c xs hc => m2.old (m1.old hc (fun z => by rw [z, k1] at hc; cases hc)) (fun z => by rw [z, k2] at hc; cases hc)
  refine q H2 (fun c u n1 n2 _ hc => m2.old (m1.old hc n1) n2) ⟨dx, qs, m2.old a1 (Ne.symm nda), ?_, m2.old (m1.old k3 nqa) nqd, k4.mono nt, p1, ⟨fun p hp => (p2 p.1 (List.mem_map_of_mem (f := (·.1)) hp)).elim (fun z => z ▸ kl) (fun z => by obtain ⟨p', hp', e'⟩ := List.mem_map.mp z; exact e' ▸ k6.1 p' hp'), k6.2⟩, k7⟩
  rw [m2.at_, hk_put _ k5]
  rfl
def spIn (C : Addr) : Sp := fun vs H Q _ => ∃ (a d q : Addr) (t : TS) (h n : Int), vs = [.ref a, .int h, .int n] ∧ TlO C H a d q t ∧ h ∈ hs ∧ ∀ H', Fr3 a d q H H' → TlO C H' a d q (outS t h (-n)) → Q .non H'
theorem ok_in {C : Addr} (D : DefAt K mg "hand_in" s_hand_in ["tool", "hand", "n"]) (G_hand_out : OkD P w K mg base 1 "hand_out" ["tool", "hand", "n"] (spOut C)) : OkD P w K mg base 2 "hand_in" ["tool", "hand", "n"] (spIn C) := by
  refine D.ok sc_hand_in (fun vs H Q E h => ?_) (fun f cdv A outer s H vs Q E hr h => ?_)
  · obtain ⟨_, _, _, _, _, _, rfl, _⟩ := h; rfl
  obtain ⟨a, d, q0, t, h, n, rfl, tl, kl, q⟩ := h
  refine ⟨_, (pss_one (ps_expr (pe_def G_hand_out hr rfl (pa_c (pv 0) (pa_c (pv 1) (pa_c (pe_un un_neg (pv 2)) pa_nil)))))), ?_⟩
  walk_at "rd"
  exact ⟨a, d, q0, t, h, -n, rfl, tl, kl, fun H' f3 tl' => q H' f3 tl'⟩
/-- those that were served, told -/
inductive Svd (w : Str) (H : Hp) : List V → List (Int × Int) → Prop
  | nil : Svd w H [] []
  | cons {p : Addr} {h n : Int} {vs : List V} {ps : List (Int × Int)} : H p = some (.tup [.int h, .str w, .int n]) → Svd w H vs ps → Svd w H (.ref p :: vs) ((h, n) :: ps)
theorem Svd.mono {w : Str} {H H' : Hp} (g : ∀ c xs, H c = some (.tup xs) → H' c = some (.tup xs)) : ∀ {vs : List V} {ps : List (Int × Int)}, Svd w H vs ps → Svd w H' vs ps
  | _, _, .nil => .nil
  | _, _, .cons h r => .cons (g _ _ h) (r.mono g)
theorem Svd.length {w : Str} {H : Hp} : ∀ {vs : List V} {ps : List (Int × Int)}, Svd w H vs ps → vs.length = ps.length
  | _, _, .nil => rfl
  | _, _, .cons _ r => by rw [List.length_cons, List.length_cons, r.length]
theorem Svd.snoc {w : Str} {H : Hp} {p : Addr} {h n : Int} (hp : H p = some (.tup [.int h, .str w, .int n])) : ∀ {vs : List V} {ps : List (Int × Int)}, Svd w H vs ps → Svd w H (vs ++ [.ref p]) (ps ++ [(h, n)])
  | _, _, .nil => .cons hp .nil
  | _, _, .cons h r => .cons h (r.snoc hp)
theorem TlO.ne {C : Addr} {H : Hp} {a d q : Addr} {t : TS} (h : TlO C H a d q t) : ∀ c xs, H c = some (.tup xs) → c ≠ a ∧ c ≠ d ∧ c ≠ q := by
  obtain ⟨dx, qs, k1, k2, k3, _⟩ := h
  intro c xs hc
  refine ⟨fun z => ?_, fun z => ?_, fun z => ?_⟩
  · rw [z, k1] at hc; cases hc
  · rw [z, k2] at hc; cases hc
  · rw [z, k3] at hc; cases hc
theorem TlO.kt {C : Addr} {H H' : Hp} {a d q : Addr} {t : TS} (h : TlO C H a d q t) (f : Fr3 a d q H H') : ∀ c xs, H c = some (.tup xs) → H' c = some (.tup xs) := fun c xs hc => by
  obtain ⟨n1, n2, n3⟩ := h.ne c xs hc
  exact f c _ n1 n2 n3 hc
theorem tru_lst {K : PySem.W.Frag} {H : Hp} {p : Addr} {xs : List V} (h : H p = some (.lst xs)) : TruV K (.ref p) H (!xs.isEmpty) := .inl ⟨_, SqL.of h, rfl⟩
theorem TlO.grow {C : Addr} {H H' : Hp} {a d q : Addr} {t : TS} (h : TlO C H a d q t) (g : ∀ c u, (c = a ∨ c = d ∨ c = q ∨ ∃ xs, u = HO.tup xs) → H c = some u → H' c = some u) : TlO C H' a d q t := by
  obtain ⟨dx, qs, k1, k2, k3, k4, k5⟩ := h
  exact ⟨dx, qs, g _ _ (.inl rfl) k1, g _ _ (.inr (.inl rfl)) k2, g _ _ (.inr (.inr (.inl rfl))) k3, k4.mono fun c xs hc => g _ _ (.inr (.inr (.inr ⟨xs, rfl⟩))) hc, k5⟩
def StI (C a d q r : Addr) (t : TS) (H : Hp) (m : Nat) (σ : St) (H' : Hp) : Prop := ∃ (sv : List V) (dn : List (Int × Int)) (t' : TS) (v2 v3 : Option V), σ = [some (.ref a), some (.ref r), v2, v3] ∧ Fr3 a d q H H' ∧ H' r = some (.lst sv) ∧ Svd "takes" H' sv dn ∧ TlO C H' a d q t' ∧ dn ++ (srv t'.que t').1 = (srv t.que t).1 ∧ (srv t'.que t').2 = (srv t.que t).2 ∧ dn.length + t'.que.length ≤ 100 ∧ m = t'.que.length
def StZ (C a d q r : Addr) (t : TS) (H : Hp) (σ : St) (H' : Hp) : Prop := ∃ (sv : List V) (v2 v3 : Option V), σ = [some (.ref a), some (.ref r), v2, v3] ∧ Fr3 a d q H H' ∧ H' r = some (.lst sv) ∧ Svd "takes" H' sv (srv t.que t).1 ∧ TlO C H' a d q (srv t.que t).2
def spServe (C : Addr) : Sp := fun vs H Q _ => ∃ (a d q : Addr) (t : TS), vs = [.ref a] ∧ TlO C H a d q t ∧
  ∀ (r : Addr) (H' : Hp) (sv : List V), H r = none → Fr3 a d q H H' → H' r = some (.lst sv) → Svd "takes" H' sv (srv t.que t).1 → TlO C H' a d q (srv t.que t).2 → Q (.ref r) H'
theorem ok_serve {C : Addr} (D : DefAt K mg "serve_takers" s_serve_takers ["tool"]) (CL_Tool : Cls K C) (N_Tool_free : NoAttr K C "free") (N_Tool_queue : NoAttr K C "queue") (G_hand_out : OkD P w K mg base 1 "hand_out" ["tool", "hand", "n"] (spOut C)) : OkD P w K mg base 2 "serve_takers" ["tool"] (spServe C) := by
  refine D.ok sc_serve_takers (fun vs H Q E h => ?_) (fun f cdv A outer s H vs Q E hr h => ?_)
  · obtain ⟨_, _, _, _, rfl, _⟩ := h; rfl
  obtain ⟨a, d, q0, t, rfl, tl, q⟩ := h
  have big : 100000 ≤ sizeLine := by unfold sizeLine; decide
  refine ⟨_, (pss_cons (ps_set (i := 1) sc_serve_takers.nd rfl (Or.inl rfl) (pe_lstG pa_nil))
  (pss_cons (ps_up (ps_while PassesOwn.never (PW.pt (pw_and (pt_truth (pe_fldG CL_Tool N_Tool_queue (pv 0)) (fun _ => rfl)) (pw_and1 (pt_cmpR op_le (pe_ix ix_g (pe_ix ix_g (pe_fldG CL_Tool N_Tool_queue (pv 0)) pe_int (fun _ _ => rfl)) pe_int (fun _ _ => rfl)) (pe_fldG CL_Tool N_Tool_free (pv 0)) (nomark _)))))
  (pss_cons (ps_asg (pe_bm PySem.F.plainAttrs_list PySem.F.slot_list_pop PySem.F.type_list_pop mt_popAtG (pe_fldG CL_Tool N_Tool_queue (pv 0)) (pa_c pe_int pa_nil)) (pg_tupG 2 rfl (pgs_cons (pg_name (i := 2) sc_serve_takers.nd rfl (Or.inl rfl)) (pgs_cons (pg_name (i := 3) sc_serve_takers.nd rfl (Or.inl rfl)) pgs_nil))))
  (pss_cons (ps_expr (pe_def G_hand_out hr rfl (pa_c (pv 0) (pa_c (pv 2) (pa_c (pv 3) pa_nil)))))
  (pss_one (ps_expr (pe_appG (pv 1) (pe_tupG (pa_c (pv 2) (pa_c pe_str (pa_c (pv 3) pa_nil)))))))))))
  (pss_one (ps_ret (pv 1))))), ?_⟩
  walk_at "rz"
  intro r H1 hr1 g1 h1
  refine ⟨StZ C a d q0 r t H, ?_, ?_⟩
  · refine ⟨StI C a d q0 r t H, ⟨t.que.length, ?_⟩, ?_⟩
    · unfold StI
      obtain ⟨dx, qs, k1, k2, k3, k4, k5, k6, k7⟩ := tl
      exact ⟨[], [], t, _, _, rfl, fun c u _ _ _ hc => g1 _ _ hc, h1, .nil, ⟨dx, qs, g1 _ _ k1, g1 _ _ k2, g1 _ _ k3, k4.mono fun _ _ hc => g1 _ _ hc, k5, k6, k7⟩, rfl, rfl, by simp only [List.length_nil]; omega, rfl⟩
    · intro m σ H2 z
      unfold StI at z
      obtain ⟨sv, dn, t', v2, v3, rfl, f3, h2, sd, tl', e1, e2, b2, rfl⟩ := z
      obtain ⟨dx, qs, k1, k2, k3, k4, k5, k6, k7⟩ := id tl'
      clear h1
      walk_at "rz"
      have nrq : r ≠ q0 := by
        obtain ⟨_, _, _, _, kq, _⟩ := tl
        exact fun z => by rw [z, kq] at hr1; cases hr1
      have fin : (srv t'.que t') = ([], t') → ∀ v2 v3, StZ C a d q0 r t H [some (.ref a), some (.ref r), v2, v3] H2 := fun e v2 v3 => by
        rw [e] at e1 e2
        unfold StZ
        refine ⟨sv, _, _, rfl, f3, h2, ?_, ?_⟩
        · rw [← e1, List.append_nil]; exact sd
        · rw [← e2]; exact tl'
      refine ⟨!qs.isEmpty, tru_lst k3, ?_⟩
      cases hq : t'.que with
      | nil =>
        rw [hq] at k4
        cases k4
        exact iteF (fin (by rw [hq]; rfl) _ _)
      | cons p0 qu =>
        obtain ⟨h, n⟩ := p0
        rw [hq] at k4
        cases k4 with
        | cons hp0 pr0 =>
        rename_i pa qs'
        refine iteT ?_
        walk_at "rz"
        refine ite2 (fun c => ?_) fun c => ?_
        rotate_left
        · walk_at "rz"
          exact fin (by rw [hq]; unfold srv; rw [if_neg c]) _ _
        rw [← hq]
        refine ⟨fun σ' H' => ∃ m', m' < t'.que.length ∧ StI C a d q0 r t H m' σ' H', fun _ _ z => z, ?_⟩
        walk_at "rz"
        refine ⟨⟨_, SqL.of k3⟩, ?_⟩
        walk_at "rz"
        refine ⟨by omega, _, by have := pr0.length; rw [hq] at k7; simp only [List.length_cons] at k7 ⊢; omega, rfl, fun H3 m3 => ?_⟩
        have npa : pa ≠ q0 := (tl'.ne pa _ hp0).2.2
        have hp3 := m3.old hp0 npa
        obtain ⟨nra, nrd⟩ : r ≠ a ∧ r ≠ d := by
          obtain ⟨_, _, ka, kd, _⟩ := tl
          exact ⟨fun z => (by rw [z, ka] at hr1; cases hr1), fun z => (by rw [z, kd] at hr1; cases hr1)⟩
        have naq : a ≠ q0 := fun z => by rw [z, k3] at k1; cases k1
        have ndq : d ≠ q0 := fun z => by rw [z, k3] at k2; cases k2
        have kt3 : ∀ c xs, H2 c = some (.tup xs) → H3 c = some (.tup xs) := fun c xs hc => m3.old hc (tl'.ne c xs hc).2.2
        have tl3 : TlO C H3 a d q0 ⟨t'.free, t'.held, qu⟩ := ⟨dx, qs', m3.old k1 naq, m3.old k2 ndq, m3.at_, pr0.mono kt3, k5, ⟨k6.1, fun p hp => k6.2 p (by rw [hq]; exact List.mem_cons_of_mem _ hp)⟩, by rw [hq, List.length_cons] at k7; show qu.length ≤ 100; omega⟩
        rw [hq, List.length_cons] at b2
        walk_at "rz"
        refine ⟨a, d, q0, ⟨t'.free, t'.held, qu⟩, h, n, rfl, tl3, k6.2 (h, n) (by rw [hq]; exact List.mem_cons_self), fun H4 f4 tl4 => ?_⟩
        have h4r := f4 r _ nra nrd nrq (m3.old h2 nrq)
        have ls := sd.length
        walk_at "rz"
        intro p5 H5 hp5 g5 h5
        have h5r := g5 _ _ h4r
        walk_at "rz"
        refine ⟨by omega, fun H6 m6 => ⟨qu.length, by rw [hq, List.length_cons]; omega, ?_⟩⟩
        have kt6 : ∀ c xs, H2 c = some (.tup xs) → H6 c = some (.tup xs) := fun c xs hc => m6.old (g5 _ _ (tl3.kt f4 c xs (kt3 c xs hc))) fun z => by rw [z, h2] at hc; cases hc
        have np5 : p5 ≠ r := (ne_of_none h4r hp5).symm
        obtain ⟨p1, p2, p3⟩ := putI_keys (h := h) (x := getI t'.held h + n) t'.held k5
        unfold StI
        refine ⟨sv ++ [.ref p5], dn ++ [(h, n)], outS ⟨t'.free, t'.held, qu⟩ h n, _, _, rfl, fun c u n1 n2 n3 hc => m6.old (g5 _ _ (f4 c u n1 n2 n3 (m3.old (f3 c u n1 n2 n3 hc) n3))) (ne_of_none hc hr1), m6.at_, (sd.mono kt6).snoc (m6.old h5 np5), tl4.grow fun c u hc e => m6.old (g5 _ _ e) (fun z => ?_), ?_, ?_, ?_, rfl⟩
        · rcases hc with rfl | rfl | rfl | ⟨xs, rfl⟩
          · exact nra z.symm
          · exact nrd z.symm
          · exact nrq z.symm
          · rw [z, h4r] at e; cases e
        · rw [← e1, hq, List.append_assoc]
          congr 1
          rw [srv_cons c]
          rfl
        · rw [← e2, hq, srv_cons c]
          rfl
        · show (dn ++ [(h, n)]).length + qu.length ≤ 100
          rw [List.length_append, List.length_singleton]; omega
  · intro σ H2 z
    unfold StZ at z
    obtain ⟨sv, v2, v3, rfl, f3, h2, sd, tl'⟩ := z
    clear h1
    walk_at "rz"
    try exact q r H2 sv hr1 f3 h2 sd tl'
end
end K60

set_option Elab.async false
set_option linter.all false
set_option maxRecDepth 100000
set_option maxHeartbeats 4000000
namespace K60
open PySem L2
theorem take_snoc {α : Type} {xs : List α} {i : Nat} {x : α} (h : xs[i]? = some x) : xs.take (i + 1) = xs.take i ++ [x] := by
  obtain ⟨h1, h2⟩ := List.getElem?_eq_some_iff.mp h
  rw [← List.take_append_getElem h1, h2]
theorem hk_at {held : List (Int × Int)} {i : Nat} {k : Key} {x : V} (h : (hk held)[i]? = some (k, x)) : ∃ a n, k = Sum.inl a ∧ x = .int n ∧ held[i]? = some (a, n) := by
  unfold hk at h
  rw [List.getElem?_map] at h
  cases e : held[i]? with
  | none => rw [e] at h; cases h
  | some p => rw [e] at h; cases h; exact ⟨p.1, p.2, rfl, rfl, rfl⟩
theorem same_kt {H H' : Hp} (g : Same H H') : ∀ c xs, H c = some (.tup xs) → H' c = some (.tup xs) := fun _ _ h => g _ _ h
def Told (H0 H : Hp) (v : V) (t : TS) (hd : List (Int × Int)) : Prop := ∃ (p ph pq : Addr) (hs qs : List V), v = .ref p ∧ H p = some (.tup [.int t.free, .ref ph, .ref pq]) ∧ H ph = some (.lst hs) ∧ Prs H hs hd ∧ H pq = some (.lst qs) ∧ Prs H qs t.que ∧ H0 ph = none ∧ H0 pq = none
theorem Prs.perm {H : Hp} {ys zs : List V} (p : zs.Perm ys) : ∀ {ps : List (Int × Int)}, Prs H ys ps → ∃ qs, Prs H zs qs ∧ qs.Perm ps := by
  induction p with
  | nil => exact fun {ps} h => ⟨ps, h, List.Perm.refl _⟩
  | cons x _ ih =>
    intro ps h
    cases h with
    | cons hp r =>
      obtain ⟨qs, h1, h2⟩ := ih r
      exact ⟨_ :: qs, .cons hp h1, h2.cons _⟩
  | swap x y l =>
    intro ps h
    cases h with
    | cons h1 r =>
    cases r with
    | cons h2 r => exact ⟨_, .cons h2 (.cons h1 r), List.Perm.swap _ _ _⟩
  | trans _ _ ih1 ih2 =>
    intro ps h
    obtain ⟨q1, a1, b1⟩ := ih2 h
    obtain ⟨q2, a2, b2⟩ := ih1 a1
    exact ⟨q2, a2, b2.trans b1⟩
theorem Prs.mem {H : Hp} : ∀ {vs : List V} {ps : List (Int × Int)}, Prs H vs ps → ∀ v ∈ vs, ∃ a i j, v = .ref a ∧ H a = some (.tup [.int i, .int j])
  | _, _, .nil, v, h => absurd h List.not_mem_nil
  | _, _, .cons hp r, v, h => by
    rcases List.mem_cons.mp h with rfl | h
    · exact ⟨_, _, _, rfl, hp⟩
    · exact r.mem v h
section
variable {P : Program} {w : World} {K : PySem.W.Frag} {mg : Str → Option Value} {base : Heap}
def HtP (held : List (Int × Int)) (i : Nat) (ys : List V) (σ1 : St) (H' : Hp) : Prop := Prs H' ys ((held.take i).filter fun p => decide (0 < p.2)) ∧ ∃ v0 v1, σ1 = [v0, v1]
def spTold (C : Addr) : Sp := fun vs H Q _ => ∃ (a d q : Addr) (t : TS), vs = [.ref a] ∧ TlO C H a d q t ∧ ∀ (v : V) (H' : Hp) (hd : List (Int × Int)), Same H H' → Told H H' v t hd → hd.Perm (t.held.filter fun p => decide (0 < p.2)) → Q v H'
theorem ok_told {C : Addr} (D : DefAt K mg "told_tool" s_told_tool ["tool"]) (CL_Tool : Cls K C) (N_Tool_free : NoAttr K C "free") (N_Tool_held : NoAttr K C "held") (N_Tool_queue : NoAttr K C "queue") (hsorted : mg "sorted" = none) (hlist : mg "list" = none) : OkD P w K mg base 1 "told_tool" ["tool"] (spTold C) := by
  refine D.ok sc_told_tool (fun vs H Q E h => ?_) (fun f cdv A outer s H vs Q E hr h => ?_)
  · obtain ⟨_, _, _, _, rfl, _⟩ := h; rfl
  obtain ⟨a, d, q0, t, rfl, ⟨dx, qs, k1, k2, k3, k4, k5, k6', k7⟩, q⟩ := h
  have k6 := held_len k5 k6'
  have big : 100000 ≤ sizeLine := by unfold sizeLine; decide
  have lh : (hk t.held).length = t.held.length := by unfold hk; rw [List.length_map]
  refine ⟨_, (pss_one (ps_ret (pe_tupG (pa_c (pe_fldG CL_Tool N_Tool_free (pv 0)) (pa_c (pe_cB (call_sortedT rfl) rfl hsorted (by decide +kernel) (pa_c (pe_unf (pe_compN (comp_scopeN 2 (N := ["hand", "n"]) (cap := []) rfl rfl rfl rfl (by decide +kernel) rfl rfl rfl) rfl (pi_items (pe_fldG CL_Tool N_Tool_held (pv 0))) (fun _ _ _ _ => (pg_tupG 2 rfl (pgs_cons (pg_name (i := 0) (show List.Nodup (α := Str) ["hand", "n"] by decide +kernel) rfl (Or.inl (lookup_relabel_local rfl)) (Or.inr (lookup_relabel_local rfl))) (pgs_cons (pg_name (i := 1) (show List.Nodup (α := Str) ["hand", "n"] by decide +kernel) rfl (Or.inl (lookup_relabel_local rfl)) (Or.inr (lookup_relabel_local rfl))) pgs_nil)))) (fun _ _ _ _ => (pts_one (pt_cmpR op_gt (pv 1) pe_int (nomark _)))) (fun _ _ _ _ => (pe_tupG (pa_c (pv 0) (pa_c (pv 1) pa_nil)))))) pa_nil)) (pa_c (pe_cTy call_listG rfl hlist (by decide +kernel) (pa_c (pe_fldG CL_Tool N_Tool_queue (pv 0)) pa_nil)) pa_nil)))))), ?_⟩
  walk_at "rd"
  refine tcomp_in ?_
  simp only [iItems]
  walk_at "rd"
  intro o nf
  refine compJ_items upd_same (by omega) (fun _ => HtP t.held) (fun D H' _ _ _ => by unfold HtP; exact ⟨.nil, _, _, rfl⟩) ?_ ?_
  · rintro D i k x ys σ1 H1 p H2 hx at1 pv hp g2 h2
    unfold HtP at pv
    obtain ⟨pr, v0, v1, rfl⟩ := pv
    obtain ⟨h, n, rfl, rfl, eh⟩ := hk_at hx
    have h2 : H2 p = some (.tup [.int h, .int n]) := h2
    walk_at "rd"
    refine ite2 (fun c p3 H3 hp3 g3 h3 => at1.put (g2.trans g3) fun H4 mu => ?_) fun c => at1.skip g2 ?_
    · unfold HtP
      refine ⟨?_, _, _, rfl⟩
      rw [take_snoc eh, List.filter_append, List.filter_cons, if_pos (by simpa using c), List.filter_nil]
      have nD : p3 ≠ D := (ne_of_none (g2 _ _ at1.lst) hp3).symm
      exact (pr.mono fun c xs hc => mu.old (g3 _ _ (g2 _ _ hc)) fun z => (by rw [z, at1.lst] at hc; cases hc)).snoc (mu.old h3 nD)
    · unfold HtP
      refine ⟨?_, _, _, rfl⟩
      rw [take_snoc eh, List.filter_append, List.filter_cons, if_neg (by simpa using c), List.filter_nil, List.append_nil]
      exact pr.mono fun c xs hc => g2 _ _ hc
  · rintro D ys σ1 H1 hD g1 hy hle pv
    unfold HtP at pv
    obtain ⟨pr, _⟩ := pv
    rw [List.take_of_length_le (by omega)] at pr
    have nDd : D ≠ d := fun z => by rw [z, upd_same] at hD; cases hD
    have SH : Same H (upd H1 d (.dK (hk t.held))) := fun c u hc => by
      by_cases z : c = d
      · rw [z, upd_same]; rw [z, k2] at hc; exact hc
      · rw [upd_ne z]
        exact g1 _ _ (by rw [upd_ne z]; exact hc)
    have d1 : H1 d = some (.frz o (.dK (hk t.held))) := g1 _ _ upd_same
    have pr1 : Prs (upd H1 d (.dK (hk t.held))) ys (t.held.filter fun p => decide (0 < p.2)) := pr.mono fun c xs hc => by
      rw [upd_ne (fun z => by rw [z, d1] at hc; cases hc)]; exact hc
    have lf := pr.length
    have lf2 := List.length_filter_le (fun p : Int × Int => decide (0 < p.2)) t.held
    refine ⟨d, nf, o, _, d1, D, rfl, ys, by rw [upd_ne nDd]; exact hy, fun y hm => ?_, by omega, fun DS H2 zs hDS g2 h2 pz => ?_⟩
    · obtain ⟨b, i, j, e, hb⟩ := pr1.mem y hm
      exact ⟨b, e, i, j, hb⟩
    · obtain ⟨hd, pz2, pm⟩ := pr1.perm pz
      have S2 := SH.trans g2
      have a2 := S2 _ _ k1
      have q2 := S2 _ _ k3
      clear k1 k3
      walk_at "rd"
      intro l3 H3 hl3 g3 h3 p4 H4 hp4 g4 h4
      exact q (.ref p4) H4 hd ((S2.trans g3).trans g4) ⟨p4, DS, l3, zs, qs, rfl, h4, g4 _ _ (g3 _ _ h2), pz2.mono fun c xs hc => g4 _ _ (g3 _ _ (g2 _ _ hc)), g4 _ _ h3, k4.mono fun c xs hc => g4 _ _ (g3 _ _ (S2 _ _ hc)), SH.free hDS, S2.free hl3⟩ pm
end
end K60

set_option Elab.async false
set_option linter.all false
set_option maxRecDepth 100000
set_option maxHeartbeats 4000000
namespace K60
open PySem L2
/-- a tool and its name, by the places where its parts lie -/
structure Ent where
  name : Str
  a : Addr
  d : Addr
  q : Addr
  c : Int
  t : TS
def kvE (es : List Ent) : List (Key × V) := es.map fun e => (Sum.inr e.name, V.ref e.a)
inductive PrN (H : Hp) : List V → List (Str × Int) → Prop
  | nil : PrN H [] []
  | cons {p : Addr} {s : Str} {n : Int} {vs : List V} {ps : List (Str × Int)} : H p = some (.tup [.str s, .int n]) → PrN H vs ps → PrN H (.ref p :: vs) ((s, n) :: ps)
theorem PrN.get {H : Hp} : ∀ {vs : List V} {ps : List (Str × Int)}, PrN H vs ps → ∀ {i : Nat} {v : V}, vs[i]? = some v → ∃ p s n, v = .ref p ∧ ps[i]? = some (s, n) ∧ H p = some (.tup [.str s, .int n])
  | _, _, .nil, i, v, e => by simp at e
  | _, _, .cons hp r, i, v, e => by
    cases i with
    | zero => simp at e; exact ⟨_, _, _, e.symm, rfl, hp⟩
    | succ i => simpa using r.get (i := i) (v := v) (by simpa using e)
theorem PrN.length {H : Hp} : ∀ {vs : List V} {ps : List (Str × Int)}, PrN H vs ps → vs.length = ps.length
  | _, _, .nil => rfl
  | _, _, .cons _ r => by rw [List.length_cons, List.length_cons, r.length]
inductive PrT (C : Addr) (H : Hp) : List V → List Ent → Prop
  | nil : PrT C H [] []
  | cons {p : Addr} {e : Ent} {vs : List V} {es : List Ent} : H p = some (.tup [.str e.name, .ref e.a]) → TlO C H e.a e.d e.q e.t → PrT C H vs es → PrT C H (.ref p :: vs) (e :: es)
theorem TlO.same {C : Addr} {H H' : Hp} {a d q : Addr} {t : TS} (g : Same H H') (h : TlO C H a d q t) : TlO C H' a d q t := h.grow fun c u _ e => g _ _ e
theorem PrT.mono {C : Addr} {H H' : Hp} (g : Same H H') : ∀ {vs : List V} {es : List Ent}, PrT C H vs es → PrT C H' vs es
  | _, _, .nil => .nil
  | _, _, .cons h t r => .cons (g _ _ h) (t.same g) (r.mono g)
theorem PrT.snoc {C : Addr} {H : Hp} {p : Addr} {e : Ent} (hp : H p = some (.tup [.str e.name, .ref e.a])) (ht : TlO C H e.a e.d e.q e.t) : ∀ {vs : List V} {es : List Ent}, PrT C H vs es → PrT C H (vs ++ [.ref p]) (es ++ [e])
  | _, _, .nil => .cons hp ht .nil
  | _, _, .cons h t r => .cons h t (r.snoc hp ht)
theorem PrT.prk {C : Addr} {H : Hp} : ∀ {vs : List V} {es : List Ent}, PrT C H vs es → PrK H vs (kvE es)
  | _, _, .nil => .nil
  | _, _, .cons h _ r => .cons h r.prk
theorem PrT.at {C : Addr} {H : Hp} : ∀ {vs : List V} {es : List Ent}, PrT C H vs es → ∀ e ∈ es, TlO C H e.a e.d e.q e.t
  | _, _, .nil, e, h => absurd h List.not_mem_nil
  | _, _, .cons _ t r, e, h => by
    rcases List.mem_cons.mp h with rfl | h
    · exact t
    · exact r.at e h
theorem putAll_nd : ∀ (ps : List (Key × V)) (c : List (Key × V)), ((c ++ ps).map (·.1)).Nodup → ps.foldl (fun c p => putK c p.1 p.2) c = c ++ ps
  | [], c, _ => (List.append_nil c).symm
  | p :: ps, c, nd => by
    have no : ¬ (c.any fun kv => decide (kv.1 = p.1)) = true := fun z => by
      obtain ⟨x, hx, e⟩ := List.any_eq_true.mp z
      rw [List.map_append, List.nodup_append] at nd
      exact nd.2.2 x.1 (List.mem_map_of_mem hx) p.1 (by simp) (of_decide_eq_true e)
    have e : putK c p.1 p.2 = c ++ [p] := by unfold putK; rw [if_neg no]
    rw [List.foldl_cons, e, putAll_nd ps (c ++ [p]) (by rw [List.append_assoc]; exact nd), List.append_assoc]; rfl
theorem nd_map {xs : List Str} (h : xs.Nodup) : (xs.map (Sum.inr : Str → Key)).Nodup := by
  induction xs with
  | nil => exact .nil
  | cons x r ih =>
    rw [List.nodup_cons] at h
    rw [List.map_cons, List.nodup_cons]
    refine ⟨fun z => ?_, ih h.2⟩
    obtain ⟨y, hy, e⟩ := List.mem_map.mp z
    cases e
    exact h.1 hy
def adE (es : List Ent) : List Addr := es.flatMap fun e => [e.a, e.d, e.q]
theorem adE_mem {c : Addr} {es : List Ent} (h : c ∈ adE es) : ∃ e ∈ es, c = e.a ∨ c = e.d ∨ c = e.q := by
  obtain ⟨e, he, hc⟩ := List.mem_flatMap.mp h
  simp at hc
  exact ⟨e, he, hc⟩
theorem TlO.has {C : Addr} {H : Hp} {a d q : Addr} {t : TS} (h : TlO C H a d q t) : (∃ u, H a = some u) ∧ (∃ u, H d = some u) ∧ ∃ u, H q = some u := by
  obtain ⟨_, _, k1, k2, k3, _⟩ := h
  exact ⟨⟨_, k1⟩, ⟨_, k2⟩, ⟨_, k3⟩⟩
theorem TlO.nd {C : Addr} {H : Hp} {a d q : Addr} {t : TS} (h : TlO C H a d q t) : [a, d, q].Nodup := by
  obtain ⟨_, _, k1, k2, k3, _⟩ := h
  have n1 : a ≠ d := fun z => by rw [z, k2] at k1; cases k1
  have n2 : a ≠ q := fun z => by rw [z, k3] at k1; cases k1
  have n3 : d ≠ q := fun z => by rw [z, k3] at k2; cases k2
  simp [n1, n2, n3]
theorem adE_has {C : Addr} {H : Hp} {es : List Ent} (h : ∀ e ∈ es, TlO C H e.a e.d e.q e.t) : ∀ c ∈ adE es, ∃ u, H c = some u := fun c hc => by
  obtain ⟨e, he, z⟩ := adE_mem hc
  obtain ⟨h1, h2, h3⟩ := (h e he).has
  rcases z with rfl | rfl | rfl
  · exact h1
  · exact h2
  · exact h3
section
variable {P : Program} {w : World} {K : PySem.W.Frag} {mg : Str → Option Value} {base : Heap}
def ToP (C : Addr) (H : Hp) (pr : List (Str × Int)) (D : Addr) (i : Nat) (ys : List V) (σ1 : St) (H' : Hp) : Prop := ∃ (es : List Ent) (v0 v1 : Option V), σ1 = [v0, v1] ∧ PrT C (hide D H') ys es ∧ es.map (fun e => (e.name, e.c, e.t)) = (pr.take i).map (fun p => (p.1, p.2, ⟨p.2, [], []⟩)) ∧ (adE es).Nodup ∧ ∀ c ∈ adE es, H c = none
def spToolsOf (C : Addr) : Sp := fun vs H Q _ => ∃ (pp p0 : Addr) (x1 x2 x3 : V) (ys : List V) (pr : List (Str × Int)), vs = [.ref pp] ∧ H pp = some (.tup [.ref p0, x1, x2, x3]) ∧ H p0 = some (.lst ys) ∧ PrN H ys pr ∧ pr.length ≤ 10 ∧ (pr.map (·.1)).Nodup ∧
  ∀ (d : Addr) (H' : Hp) (es : List Ent), H d = none → Same H H' → H' d = some (.dK (kvE es)) → (∀ e ∈ es, TlO C H' e.a e.d e.q e.t) → es.map (fun e => (e.name, e.c, e.t)) = pr.map (fun p => (p.1, p.2, ⟨p.2, [], []⟩)) → (d :: adE es).Nodup → (∀ c ∈ adE es, H c = none) → Q (.ref d) H'
theorem ok_toolsOf {C : Addr} (D : DefAt K mg "tools_of" s_tools_of ["program"]) (G_Tool : OkC P w K mg base 1 "Tool" C ["self", "count"] (spToolI C)) (hdict : mg "dict" = none) : OkD P w K mg base 3 "tools_of" ["program"] (spToolsOf C) := by
  refine D.ok sc_tools_of (fun vs H Q E h => ?_) (fun f cdv A outer s H vs Q E hr h => ?_)
  · obtain ⟨_, _, _, _, _, _, _, rfl, _⟩ := h; rfl
  obtain ⟨pp, p0, x1, x2, x3, ys, pr, rfl, h1, h2, h3, h4, hnd, q⟩ := h
  have big : 100000 ≤ sizeLine := by unfold sizeLine; decide
  have ly := h3.length
  refine ⟨_, (pss_one (ps_ret (pe_cTy call_dictP rfl hdict (by decide +kernel) (pa_c (pe_compN (comp_scopeN 2 (N := ["name", "count"]) (cap := []) rfl rfl rfl rfl (by decide +kernel) rfl rfl rfl) rfl (pi_list (pe_ix ix_g (pv 0) pe_int (fun _ _ => rfl))) (fun _ _ _ _ => (pg_tupG 2 rfl (pgs_cons (pg_name (i := 0) (show List.Nodup (α := Str) ["name", "count"] by decide +kernel) rfl (Or.inl (lookup_relabel_local rfl)) (Or.inr (lookup_relabel_local rfl))) (pgs_cons (pg_name (i := 1) (show List.Nodup (α := Str) ["name", "count"] by decide +kernel) rfl (Or.inl (lookup_relabel_local rfl)) (Or.inr (lookup_relabel_local rfl))) pgs_nil)))) (fun _ _ _ _ => pts_nil) (fun _ _ _ _ => (pe_tupG (pa_c (pv 0) (pa_c (pe_makeG G_Tool hr rfl (pa_c (pv 1) pa_nil)) pa_nil))))) pa_nil)))), ?_⟩
  walk_at "rd"
  refine tcomp_in ?_
  simp only [iList]
  walk_at "rd"
  refine ⟨⟨_, SqL.of h2⟩, compJD_list h2 (by omega) (ToP C H pr) (fun D H' _ _ _ => by unfold ToP; exact ⟨[], _, _, rfl, .nil, rfl, .nil, fun e he => absurd he List.not_mem_nil⟩) ?_ ?_⟩
  · rintro D i x zs σ1 H1 hx at1 pv
    unfold ToP at pv
    obtain ⟨es, v0, v1, rfl, pt, em, na, fr⟩ := pv
    obtain ⟨p, nm, n, rfl, en, hp⟩ := h3.get hx
    have hp1 := at1.same _ _ hp
    walk_at "rd"
    intro x dx H2 hx0 hdx g2 hx2 hdx2
    refine ⟨x, dx, n, rfl, hx2, fun d0 q0 H3 hd0 hq0 k3 tl3 => ⟨rfl, fun p4 H4 hp4 g4 h4 => ?_⟩⟩
    have nxD : ∀ {c u}, H1 c = some u → c ≠ x := fun hc => ne_of_none hc hx0
    have S13 : Same H1 H3 := fun c u hc => k3 c u (nxD hc) (g2 _ _ hc)
    have hD1 := at1.lst
    refine at1.put (S13.trans g4) fun H5 mu => ?_
    unfold ToP
    have SD : Same (hide D H1) (hide D H5) := (hide_same (S13.trans g4)).trans (hide_mu mu)
    have nD : ∀ {c}, H1 c = none → c ≠ D := fun hc => (ne_of_none hD1 hc).symm
    have hd1 : H1 d0 = none := g2.free hd0
    have hq1 : H1 q0 = none := g2.free hq0
    have hp1' : H1 p4 = none := S13.free hp4
    refine ⟨es ++ [⟨nm, x, d0, q0, n, ⟨n, [], []⟩⟩], _, _, rfl, (pt.mono SD).snoc (hide_of (nD hp1') (mu.old h4 (nD hp1'))) (tl3.grow fun c u hc e => ?_), by rw [List.map_append, em, take_snoc en, List.map_append]; rfl, ?_, fun c hc => ?_⟩
    · have nc : c ≠ D := by
        rcases hc with rfl | rfl | rfl | ⟨xs, rfl⟩
        · exact nD hx0
        · exact nD hd1
        · exact nD hq1
        · exact fun z => by rw [z, S13 _ _ hD1] at e; cases e
      exact hide_of nc (mu.old (g4 _ _ e) nc)
    · have ea : adE (es ++ [⟨nm, x, d0, q0, n, ⟨n, [], []⟩⟩]) = adE es ++ [x, d0, q0] := by unfold adE; rw [List.flatMap_append]; rfl
      rw [ea, List.nodup_append]
      refine ⟨na, tl3.nd, fun c hc y hy z => ?_⟩
      obtain ⟨u, hu⟩ := adE_has (pt.mono hide_le).at c hc
      rw [z] at hu
      simp at hy
      rcases hy with rfl | rfl | rfl
      · rw [hx0] at hu; cases hu
      · rw [hd1] at hu; cases hu
      · rw [hq1] at hu; cases hu
    · have ea : adE (es ++ [⟨nm, x, d0, q0, n, ⟨n, [], []⟩⟩]) = adE es ++ [x, d0, q0] := by unfold adE; rw [List.flatMap_append]; rfl
      rw [ea] at hc
      rcases List.mem_append.mp hc with hc | hc
      · exact fr c hc
      · simp at hc
        rcases hc with rfl | rfl | rfl
        · exact at1.same.free hx0
        · exact at1.same.free hd1
        · exact at1.same.free hq1
  · rintro D zs σ1 H1 hD g1 hy hle pv
    unfold ToP at pv
    obtain ⟨es, v0, v1, rfl, pt, em, na, fr⟩ := pv
    rw [List.take_of_length_le (by omega)] at em
    have le : es.length = pr.length := by have := congrArg List.length em; rw [List.length_map, List.length_map] at this; exact this
    walk_at "rd"
    refine ⟨kvE es, (pt.mono hide_le).prk, by unfold kvE; rw [List.length_map]; omega, fun l H2 hl g2 h2' => ?_⟩
    have nn : ((kvE es).map (·.1)).Nodup := by
      have e1 : (kvE es).map (·.1) = (pr.map (·.1)).map Sum.inr := by
        have := congrArg (List.map (fun x : Str × Int × TS => (Sum.inr x.1 : Key))) em
        rw [List.map_map, List.map_map] at this
        unfold kvE
        rw [List.map_map, List.map_map]
        exact this
      rw [e1]
      exact nd_map hnd
    have ep : putAll (kvE es) = kvE es := putAll_nd _ [] nn
    rw [ep] at h2'
    have nl : l ∉ adE es := fun z => by
      obtain ⟨u, hu⟩ := adE_has (pt.mono hide_le).at l z
      rw [hl] at hu; cases hu
    exact q l H2 es (g1.free hl) (g1.trans g2) h2' (fun e he => ((pt.mono hide_le).mono g2).at e he) em (List.nodup_cons.mpr ⟨nl, na⟩) fr
end
end K60

set_option Elab.async false
set_option linter.all false
set_option maxRecDepth 100000
set_option maxHeartbeats 4000000
namespace K60
open PySem L2
/-! ### a store -/
structure SS where
  level : Int
  most : Int
  gets : List (Int × Int)
  puts : List (Int × Int)
def stpP (s : SS) : Option ((Int × Bool × Int) × SS) := match s.puts with
  | [] => none
  | (h, n) :: p => if s.level + n ≤ s.most then some ((h, false, n), ⟨s.level + n, s.most, s.gets, p⟩) else none
def stp (s : SS) : Option ((Int × Bool × Int) × SS) := match s.gets with
  | [] => stpP s
  | (h, n) :: g => if n ≤ s.level then some ((h, true, n), ⟨s.level - n, s.most, g, s.puts⟩) else stpP s
inductive Sbt : SS → List (Int × Bool × Int) → SS → Prop
  | done {s : SS} : stp s = none → Sbt s [] s
  | step {s s1 s' : SS} {it : Int × Bool × Int} {its : List (Int × Bool × Int)} : stp s = some (it, s1) → Sbt s1 its s' → Sbt s (it :: its) s'
def wordOf (b : Bool) : Str := if b = true then "gets" else "puts"
inductive Sv3 (H : Hp) : List V → List (Int × Bool × Int) → Prop
  | nil : Sv3 H [] []
  | cons {p : Addr} {h n : Int} {b : Bool} {vs : List V} {ps : List (Int × Bool × Int)} : H p = some (.tup [.int h, .str (wordOf b), .int n]) → Sv3 H vs ps → Sv3 H (.ref p :: vs) ((h, b, n) :: ps)
theorem Sv3.mono {H H' : Hp} (g : ∀ c xs, H c = some (.tup xs) → H' c = some (.tup xs)) : ∀ {vs : List V} {ps : List (Int × Bool × Int)}, Sv3 H vs ps → Sv3 H' vs ps
  | _, _, .nil => .nil
  | _, _, .cons h r => .cons (g _ _ h) (r.mono g)
theorem Sv3.length {H : Hp} : ∀ {vs : List V} {ps : List (Int × Bool × Int)}, Sv3 H vs ps → vs.length = ps.length
  | _, _, .nil => rfl
  | _, _, .cons _ r => by rw [List.length_cons, List.length_cons, r.length]
theorem Sv3.snoc {H : Hp} {p : Addr} {h n : Int} {b : Bool} (hp : H p = some (.tup [.int h, .str (wordOf b), .int n])) : ∀ {vs : List V} {ps : List (Int × Bool × Int)}, Sv3 H vs ps → Sv3 H (vs ++ [.ref p]) (ps ++ [(h, b, n)])
  | _, _, .nil => .cons hp .nil
  | _, _, .cons h r => .cons h (r.snoc hp)
def StO (C : Addr) (H : Hp) (a g p : Addr) (s : SS) : Prop := ∃ dx gs ps, H a = some (.ins C dx [("level", .int s.level), ("most", .int s.most), ("getters", .ref g), ("putters", .ref p)]) ∧ H g = some (.lst gs) ∧ Prs H gs s.gets ∧ H p = some (.lst ps) ∧ Prs H ps s.puts ∧ g ≠ p ∧ s.gets.length ≤ 100 ∧ s.puts.length ≤ 100
theorem StO.grow {C : Addr} {H H' : Hp} {a g p : Addr} {s : SS} (h : StO C H a g p s) (k : ∀ c u, (c = a ∨ c = g ∨ c = p ∨ ∃ xs, u = HO.tup xs) → H c = some u → H' c = some u) : StO C H' a g p s := by
  obtain ⟨dx, gs, ps, k1, k2, k3, k4, k5, k6⟩ := h
  exact ⟨dx, gs, ps, k _ _ (.inl rfl) k1, k _ _ (.inr (.inl rfl)) k2, k3.mono fun c xs hc => k _ _ (.inr (.inr (.inr ⟨xs, rfl⟩))) hc, k _ _ (.inr (.inr (.inl rfl))) k4, k5.mono fun c xs hc => k _ _ (.inr (.inr (.inr ⟨xs, rfl⟩))) hc, k6⟩
theorem StO.same {C : Addr} {H H' : Hp} {a g p : Addr} {s : SS} (k : Same H H') (h : StO C H a g p s) : StO C H' a g p s := h.grow fun _ _ _ e => k _ _ e
theorem StO.ne {C : Addr} {H : Hp} {a g p : Addr} {s : SS} (h : StO C H a g p s) : ∀ c xs, H c = some (.tup xs) → c ≠ a ∧ c ≠ g ∧ c ≠ p := by
  obtain ⟨dx, gs, ps, k1, k2, k3, k4, _⟩ := h
  intro c xs hc
  refine ⟨fun z => ?_, fun z => ?_, fun z => ?_⟩
  · rw [z, k1] at hc; cases hc
  · rw [z, k2] at hc; cases hc
  · rw [z, k4] at hc; cases hc
section
variable {P : Program} {w : World} {K : PySem.W.Frag} {mg : Str → Option Value} {base : Heap}
def spStoreI (C : Addr) : Sp := fun vs H Q _ => ∃ (a dx : Addr) (l m : Int), vs = [.ref a, .int l, .int m] ∧ H a = some (.ins C dx []) ∧ ∀ (g p : Addr) (H' : Hp), H g = none → H p = none → (∀ c u, c ≠ a → H c = some u → H' c = some u) → StO C H' a g p ⟨l, m, [], []⟩ → Q .non H'
theorem ok_Store {C : Addr} (D : MakeAt K mg "Store" C "Store.__init__" s_Store___init__ ["self", "level", "most"]) (CL_Store : Cls K C) (N_Store_level : NoAttr K C "level") (N_Store_most : NoAttr K C "most") (N_Store_getters : NoAttr K C "getters") (N_Store_putters : NoAttr K C "putters") : OkC P w K mg base 1 "Store" C ["self", "level", "most"] (spStoreI C) := by
  refine D.ok sc_Store___init__ (fun vs H Q E h => ?_) (fun f cdv A outer s H vs Q E hr h => ?_)
  · obtain ⟨_, _, _, _, rfl, _⟩ := h; rfl
  obtain ⟨a, dx, l, m, rfl, ha, q⟩ := h
  refine ⟨_, (pss_cons (ps_fldG CL_Store N_Store_level (pv 0) (pv 1))
  (pss_cons (ps_fldG CL_Store N_Store_most (pv 0) (pv 2))
  (pss_cons (ps_fldG CL_Store N_Store_getters (pv 0) (pe_lstG pa_nil))
  (pss_one (ps_fldG CL_Store N_Store_putters (pv 0) (pe_lstG pa_nil)))))), ?_⟩
  walk_at "rd"
  intro H1 m1
  have a1 := m1.at_
  walk_at "rd"
  intro H2 m2 g0 H3 hg g3 h3
  have a3 := g3 _ _ m2.at_
  clear a1
  walk_at "rd"
  intro H4 m4 p0 H5 hp g5 h5
  have a5 := g5 _ _ m4.at_
  clear a3
  walk_at "rd"
  intro H6 m6
  have ng : g0 ≠ a := (ne_of_none m2.at_ hg).symm
  have np : p0 ≠ a := (ne_of_none m4.at_ hp).symm
  have hg4 := m4.old h3 ng
  have hg0 : H g0 = none := by rw [← m1.else_ g0 ng, ← m2.else_ g0 ng]; exact hg
  have hp3 : H3 p0 = none := by rw [← m4.else_ p0 np]; exact hp
  have hp0 : H p0 = none := by rw [← m1.else_ p0 np, ← m2.else_ p0 np]; exact g3.free hp3
  refine q g0 p0 H6 hg0 hp0 (fun c u nc hc => m6.old (g5 _ _ (m4.old (g3 _ _ (m2.old (m1.old hc nc) nc)) nc)) nc) ⟨dx, [], [], m6.at_, m6.old (g5 _ _ hg4) ng, .nil, m6.old h5 np, .nil, ne_of_none hg4 hp, by simp, by simp⟩
/-- a store told: its level, and who awaits -/
def ToldS (H0 H : Hp) (v : V) (s : SS) : Prop := ∃ (r pg pp : Addr) (gs ps : List V), v = .ref r ∧ H r = some (.tup [.int s.level, .ref pg, .ref pp]) ∧ H pg = some (.lst gs) ∧ Prs H gs s.gets ∧ H pp = some (.lst ps) ∧ Prs H ps s.puts ∧ H0 pg = none ∧ H0 pp = none
def spToldS (C : Addr) : Sp := fun vs H Q _ => ∃ (a g p : Addr) (s : SS), vs = [.ref a] ∧ StO C H a g p s ∧ ∀ (v : V) (H' : Hp), Same H H' → ToldS H H' v s → Q v H'
theorem ok_toldS {C : Addr} (D : DefAt K mg "told_store" s_told_store ["store"]) (CL_Store : Cls K C) (N_Store_level : NoAttr K C "level") (N_Store_getters : NoAttr K C "getters") (N_Store_putters : NoAttr K C "putters") (hlist : mg "list" = none) : OkD P w K mg base 1 "told_store" ["store"] (spToldS C) := by
  refine D.ok sc_told_store (fun vs H Q E h => ?_) (fun f cdv A outer s H vs Q E hr h => ?_)
  · obtain ⟨_, _, _, _, rfl, _⟩ := h; rfl
  obtain ⟨a, g, p, ss, rfl, ⟨dx, gs, ps, k1, k2, k3, k4, k5, k6, k7, k8⟩, q⟩ := h
  refine ⟨_, (pss_one (ps_ret (pe_tupG (pa_c (pe_fldG CL_Store N_Store_level (pv 0)) (pa_c (pe_cTy call_listG rfl hlist (by decide +kernel) (pa_c (pe_fldG CL_Store N_Store_getters (pv 0)) pa_nil)) (pa_c (pe_cTy call_listG rfl hlist (by decide +kernel) (pa_c (pe_fldG CL_Store N_Store_putters (pv 0)) pa_nil)) pa_nil)))))), ?_⟩
  walk_at "rd"
  intro l1 H1 hl1 g1 h1
  have a1 := g1 _ _ k1
  have p1 := g1 _ _ k4
  clear k1 k4
  walk_at "rd"
  intro l2 H2 hl2 g2 h2 r3 H3 hr3 g3 h3
  exact q (.ref r3) H3 ((g1.trans g2).trans g3) ⟨r3, l1, l2, gs, ps, rfl, h3, g3 _ _ (g2 _ _ h1), k3.mono fun c xs hc => g3 _ _ (g2 _ _ (g1 _ _ hc)), g3 _ _ h2, k5.mono fun c xs hc => g3 _ _ (g2 _ _ (g1 _ _ hc)), hl1, g1.free hl2⟩
end
end K60

set_option Elab.async false
set_option linter.all false
set_option maxRecDepth 100000
set_option maxHeartbeats 4000000
namespace K60
open PySem L2
structure EntS where
  name : Str
  a : Addr
  g : Addr
  p : Addr
  s : SS
def kvS (es : List EntS) : List (Key × V) := es.map fun e => (Sum.inr e.name, V.ref e.a)
inductive PrM (H : Hp) : List V → List (Str × Int × Int) → Prop
  | nil : PrM H [] []
  | cons {p : Addr} {s : Str} {n m : Int} {vs : List V} {ps : List (Str × Int × Int)} : H p = some (.tup [.str s, .int n, .int m]) → PrM H vs ps → PrM H (.ref p :: vs) ((s, n, m) :: ps)
theorem PrM.get {H : Hp} : ∀ {vs : List V} {ps : List (Str × Int × Int)}, PrM H vs ps → ∀ {i : Nat} {v : V}, vs[i]? = some v → ∃ p s n m, v = .ref p ∧ ps[i]? = some (s, n, m) ∧ H p = some (.tup [.str s, .int n, .int m])
  | _, _, .nil, i, v, e => by simp at e
  | _, _, .cons hp r, i, v, e => by
    cases i with
    | zero => simp at e; exact ⟨_, _, _, _, e.symm, rfl, hp⟩
    | succ i => simpa using r.get (i := i) (v := v) (by simpa using e)
theorem PrM.length {H : Hp} : ∀ {vs : List V} {ps : List (Str × Int × Int)}, PrM H vs ps → vs.length = ps.length
  | _, _, .nil => rfl
  | _, _, .cons _ r => by rw [List.length_cons, List.length_cons, r.length]
inductive PrS (C : Addr) (H : Hp) : List V → List EntS → Prop
  | nil : PrS C H [] []
  | cons {p : Addr} {e : EntS} {vs : List V} {es : List EntS} : H p = some (.tup [.str e.name, .ref e.a]) → StO C H e.a e.g e.p e.s → PrS C H vs es → PrS C H (.ref p :: vs) (e :: es)
theorem PrS.mono {C : Addr} {H H' : Hp} (g : Same H H') : ∀ {vs : List V} {es : List EntS}, PrS C H vs es → PrS C H' vs es
  | _, _, .nil => .nil
  | _, _, .cons h t r => .cons (g _ _ h) (t.same g) (r.mono g)
theorem PrS.snoc {C : Addr} {H : Hp} {p : Addr} {e : EntS} (hp : H p = some (.tup [.str e.name, .ref e.a])) (ht : StO C H e.a e.g e.p e.s) : ∀ {vs : List V} {es : List EntS}, PrS C H vs es → PrS C H (vs ++ [.ref p]) (es ++ [e])
  | _, _, .nil => .cons hp ht .nil
  | _, _, .cons h t r => .cons h t (r.snoc hp ht)
theorem PrS.prk {C : Addr} {H : Hp} : ∀ {vs : List V} {es : List EntS}, PrS C H vs es → PrK H vs (kvS es)
  | _, _, .nil => .nil
  | _, _, .cons h _ r => .cons h r.prk
theorem PrS.at {C : Addr} {H : Hp} : ∀ {vs : List V} {es : List EntS}, PrS C H vs es → ∀ e ∈ es, StO C H e.a e.g e.p e.s
  | _, _, .nil, e, h => absurd h List.not_mem_nil
  | _, _, .cons _ t r, e, h => by
    rcases List.mem_cons.mp h with rfl | h
    · exact t
    · exact r.at e h
def adS (es : List EntS) : List Addr := es.flatMap fun e => [e.a, e.g, e.p]
theorem adS_mem {c : Addr} {es : List EntS} (h : c ∈ adS es) : ∃ e ∈ es, c = e.a ∨ c = e.g ∨ c = e.p := by
  obtain ⟨e, he, hc⟩ := List.mem_flatMap.mp h
  simp at hc
  exact ⟨e, he, hc⟩
theorem StO.has {C : Addr} {H : Hp} {a d q : Addr} {t : SS} (h : StO C H a d q t) : (∃ u, H a = some u) ∧ (∃ u, H d = some u) ∧ ∃ u, H q = some u := by
  obtain ⟨_, _, _, k1, k2, _, k3, _⟩ := h
  exact ⟨⟨_, k1⟩, ⟨_, k2⟩, ⟨_, k3⟩⟩
theorem StO.nd {C : Addr} {H : Hp} {a d q : Addr} {t : SS} (h : StO C H a d q t) : [a, d, q].Nodup := by
  obtain ⟨_, _, _, k1, k2, _, k3, _, n3, _⟩ := h
  have n1 : a ≠ d := fun z => by rw [z, k2] at k1; cases k1
  have n2 : a ≠ q := fun z => by rw [z, k3] at k1; cases k1
  simp [n1, n2, n3]
theorem adS_has {C : Addr} {H : Hp} {es : List EntS} (h : ∀ e ∈ es, StO C H e.a e.g e.p e.s) : ∀ c ∈ adS es, ∃ u, H c = some u := fun c hc => by
  obtain ⟨e, he, z⟩ := adS_mem hc
  obtain ⟨h1, h2, h3⟩ := (h e he).has
  rcases z with rfl | rfl | rfl
  · exact h1
  · exact h2
  · exact h3
section
variable {P : Program} {w : World} {K : PySem.W.Frag} {mg : Str → Option Value} {base : Heap}
def SoP (C : Addr) (H : Hp) (pr : List (Str × Int × Int)) (D : Addr) (i : Nat) (ys : List V) (σ1 : St) (H' : Hp) : Prop := ∃ (es : List EntS) (v0 v1 v2 : Option V), σ1 = [v0, v1, v2] ∧ PrS C (hide D H') ys es ∧ es.map (fun e => (e.name, e.s)) = (pr.take i).map (fun p => (p.1, ⟨p.2.1, p.2.2, [], []⟩)) ∧ (adS es).Nodup ∧ ∀ c ∈ adS es, H c = none
def spStoresOf (C : Addr) : Sp := fun vs H Q _ => ∃ (pp p1 : Addr) (x0 x2 x3 : V) (ys : List V) (pr : List (Str × Int × Int)), vs = [.ref pp] ∧ H pp = some (.tup [x0, .ref p1, x2, x3]) ∧ H p1 = some (.lst ys) ∧ PrM H ys pr ∧ pr.length ≤ 10 ∧ (pr.map (·.1)).Nodup ∧
  ∀ (d : Addr) (H' : Hp) (es : List EntS), H d = none → Same H H' → H' d = some (.dK (kvS es)) → (∀ e ∈ es, StO C H' e.a e.g e.p e.s) → es.map (fun e => (e.name, e.s)) = pr.map (fun p => (p.1, ⟨p.2.1, p.2.2, [], []⟩)) → (d :: adS es).Nodup → (∀ c ∈ adS es, H c = none) → Q (.ref d) H'
theorem ok_storesOf {C : Addr} (D : DefAt K mg "stores_of" s_stores_of ["program"]) (G_Store : OkC P w K mg base 1 "Store" C ["self", "level", "most"] (spStoreI C)) (hdict : mg "dict" = none) : OkD P w K mg base 3 "stores_of" ["program"] (spStoresOf C) := by
  refine D.ok sc_stores_of (fun vs H Q E h => ?_) (fun f cdv A outer s H vs Q E hr h => ?_)
  · obtain ⟨_, _, _, _, _, _, _, rfl, _⟩ := h; rfl
  obtain ⟨pp, p1, x0, x2, x3, ys, pr, rfl, h1, h2, h3, h4, hnd, q⟩ := h
  have big : 100000 ≤ sizeLine := by unfold sizeLine; decide
  have ly := h3.length
  refine ⟨_, (pss_one (ps_ret (pe_cTy call_dictP rfl hdict (by decide +kernel) (pa_c (pe_compN (comp_scopeN 3 (N := ["name", "level", "most"]) (cap := []) rfl rfl rfl rfl (by decide +kernel) rfl rfl rfl) rfl (pi_list (pe_ix ix_g (pv 0) pe_int (fun _ _ => rfl))) (fun _ _ _ _ => (pg_tupG 3 rfl (pgs_cons (pg_name (i := 0) (show List.Nodup (α := Str) ["name", "level", "most"] by decide +kernel) rfl (Or.inl (lookup_relabel_local rfl)) (Or.inr (lookup_relabel_local rfl))) (pgs_cons (pg_name (i := 1) (show List.Nodup (α := Str) ["name", "level", "most"] by decide +kernel) rfl (Or.inl (lookup_relabel_local rfl)) (Or.inr (lookup_relabel_local rfl))) (pgs_cons (pg_name (i := 2) (show List.Nodup (α := Str) ["name", "level", "most"] by decide +kernel) rfl (Or.inl (lookup_relabel_local rfl)) (Or.inr (lookup_relabel_local rfl))) pgs_nil))))) (fun _ _ _ _ => pts_nil) (fun _ _ _ _ => (pe_tupG (pa_c (pv 0) (pa_c (pe_makeG G_Store hr rfl (pa_c (pv 1) (pa_c (pv 2) pa_nil))) pa_nil))))) pa_nil)))), ?_⟩
  walk_at "rz"
  refine tcomp_in ?_
  simp only [iList]
  walk_at "rz"
  refine ⟨⟨_, SqL.of h2⟩, compJD_list h2 (by omega) (SoP C H pr) (fun D H' _ _ _ => by unfold SoP; exact ⟨[], _, _, _, rfl, .nil, rfl, .nil, fun e he => absurd he List.not_mem_nil⟩) ?_ ?_⟩
  · rintro D i x zs σ1 H1 hx at1 pv
    unfold SoP at pv
    obtain ⟨es, v0, v1, v2, rfl, pt, em, na, fr⟩ := pv
    obtain ⟨p, nm, n, m, rfl, en, hp⟩ := h3.get hx
    have hp1 := at1.same _ _ hp
    walk_at "rz"
    intro x dx H2 hx0 hdx g2 hx2 hdx2
    refine ⟨x, dx, n, m, rfl, hx2, fun d0 q0 H3 hd0 hq0 k3 tl3 => ?_⟩
    walk_at "rz"
    intro p4 H4 hp4 g4 h4
    have nxD : ∀ {c u}, H1 c = some u → c ≠ x := fun hc => ne_of_none hc hx0
    have S13 : Same H1 H3 := fun c u hc => k3 c u (nxD hc) (g2 _ _ hc)
    have hD1 := at1.lst
    refine at1.put (S13.trans g4) fun H5 mu => ?_
    unfold SoP
    have SD : Same (hide D H1) (hide D H5) := (hide_same (S13.trans g4)).trans (hide_mu mu)
    have nD : ∀ {c}, H1 c = none → c ≠ D := fun hc => (ne_of_none hD1 hc).symm
    have hd1 : H1 d0 = none := g2.free hd0
    have hq1 : H1 q0 = none := g2.free hq0
    have hp1' : H1 p4 = none := S13.free hp4
    refine ⟨es ++ [⟨nm, x, d0, q0, ⟨n, m, [], []⟩⟩], _, _, _, rfl, (pt.mono SD).snoc (hide_of (nD hp1') (mu.old h4 (nD hp1'))) (tl3.grow fun c u hc e => ?_), by rw [List.map_append, em, take_snoc en, List.map_append]; rfl, ?_, fun c hc => ?_⟩
    · have nc : c ≠ D := by
        rcases hc with rfl | rfl | rfl | ⟨xs, rfl⟩
        · exact nD hx0
        · exact nD hd1
        · exact nD hq1
        · exact fun z => by rw [z, S13 _ _ hD1] at e; cases e
      exact hide_of nc (mu.old (g4 _ _ e) nc)
    · have ea : adS (es ++ [⟨nm, x, d0, q0, ⟨n, m, [], []⟩⟩]) = adS es ++ [x, d0, q0] := by unfold adS; rw [List.flatMap_append]; rfl
      rw [ea, List.nodup_append]
      refine ⟨na, tl3.nd, fun c hc y hy z => ?_⟩
      obtain ⟨u, hu⟩ := adS_has (pt.mono hide_le).at c hc
      rw [z] at hu
      simp at hy
      rcases hy with rfl | rfl | rfl
      · rw [hx0] at hu; cases hu
      · rw [hd1] at hu; cases hu
      · rw [hq1] at hu; cases hu
    · have ea : adS (es ++ [⟨nm, x, d0, q0, ⟨n, m, [], []⟩⟩]) = adS es ++ [x, d0, q0] := by unfold adS; rw [List.flatMap_append]; rfl
      rw [ea] at hc
      rcases List.mem_append.mp hc with hc | hc
      · exact fr c hc
      · simp at hc
        rcases hc with rfl | rfl | rfl
        · exact at1.same.free hx0
        · exact at1.same.free hd1
        · exact at1.same.free hq1
  · rintro D zs σ1 H1 hD g1 hy hle pv
    unfold SoP at pv
    obtain ⟨es, v0, v1, v2, rfl, pt, em, na, fr⟩ := pv
    rw [List.take_of_length_le (by omega)] at em
    have le : es.length = pr.length := by have := congrArg List.length em; rw [List.length_map, List.length_map] at this; exact this
    walk_at "rz"
    refine ⟨kvS es, (pt.mono hide_le).prk, by unfold kvS; rw [List.length_map]; omega, fun l H2 hl g2 h2' => ?_⟩
    have nn : ((kvS es).map (·.1)).Nodup := by
      have e1 : (kvS es).map (·.1) = (pr.map (·.1)).map Sum.inr := by
        have := congrArg (List.map (fun x : Str × SS => (Sum.inr x.1 : Key))) em
        rw [List.map_map, List.map_map] at this
        unfold kvS
        rw [List.map_map, List.map_map]
        exact this
      rw [e1]
      exact nd_map hnd
    have ep : putAll (kvS es) = kvS es := putAll_nd _ [] nn
    rw [ep] at h2'
    have nl : l ∉ adS es := fun z => by
      obtain ⟨u, hu⟩ := adS_has (pt.mono hide_le).at l z
      rw [hl] at hu; cases hu
    exact q l H2 es (g1.free hl) (g1.trans g2) h2' (fun e he => ((pt.mono hide_le).mono g2).at e he) em (List.nodup_cons.mpr ⟨nl, na⟩) fr
def TbI (C a g p r : Addr) (s : SS) (H : Hp) (m : Nat) (σ : St) (H' : Hp) : Prop := ∃ (sv : List V) (dn : List (Int × Bool × Int)) (s' : SS) (v2 v3 : Option V), σ = [some (.ref a), some (.ref r), v2, v3] ∧ Fr3 a g p H H' ∧ H' r = some (.lst sv) ∧ Sv3 H' sv dn ∧ StO C H' a g p s' ∧ (∀ its z, Sbt s' its z → Sbt s (dn ++ its) z) ∧ dn.length + s'.gets.length + s'.puts.length ≤ 200 ∧ m = s'.gets.length + s'.puts.length
def spTurns (C : Addr) : Sp := fun vs H Q _ => ∃ (a g p : Addr) (s : SS), vs = [.ref a] ∧ StO C H a g p s ∧
  ∀ (r : Addr) (H' : Hp) (sv : List V) (its : List (Int × Bool × Int)) (s' : SS), H r = none → Fr3 a g p H H' → H' r = some (.lst sv) → Sv3 H' sv its → StO C H' a g p s' → Sbt s its s' → Q (.ref r) H'
end
end K60

set_option Elab.async false
set_option linter.all false
set_option maxRecDepth 100000
set_option maxHeartbeats 4000000
namespace K60
open PySem L2
def takeS (t : TS) (h n : Int) : Bool × TS := if t.que ≠ [] ∨ t.free < n then (false, ⟨t.free, t.held, t.que ++ [(h, n)]⟩) else (true, outS t h n)
def giv (t : TS) (h n : Int) : Int := if getI t.held h < n then getI t.held h else n
def giveS (t : TS) (h n : Int) : List (Int × Int) × TS := srv t.que (outS t h (-(giv t h n)))
def PutR (s : SS) (h n : Int) (b : Bool) (its : List (Int × Bool × Int)) (s' : SS) : Prop := if s.puts ≠ [] ∨ s.most < s.level + n then b = false ∧ its = [] ∧ s' = ⟨s.level, s.most, s.gets, s.puts ++ [(h, n)]⟩ else b = true ∧ Sbt ⟨s.level + n, s.most, s.gets, s.puts⟩ its s'
def GetR (s : SS) (h n : Int) (b : Bool) (its : List (Int × Bool × Int)) (s' : SS) : Prop := if s.gets ≠ [] ∨ s.level < n then b = false ∧ its = [] ∧ s' = ⟨s.level, s.most, s.gets ++ [(h, n)], s.puts⟩ else b = true ∧ Sbt ⟨s.level - n, s.most, s.gets, s.puts⟩ its s'
section
variable {P : Program} {w : World} {K : PySem.W.Frag} {mg : Str → Option Value} {base : Heap}
def spTake (CG CT : Addr) : Sp := fun vs H Q _ => ∃ (g dx dt a d q : Addr) (x : V) (kv : List (Key × V)) (nm : Str) (h n : Int) (t : TS), vs = [.ref g, .int h, .str nm, .int n] ∧ H g = some (.ins CG dx [("by_tool", .ref dt), ("by_store", x)]) ∧ H dt = some (.dK kv) ∧ valV kv (Sum.inr nm) = some (.ref a) ∧ TlO CT H a d q t ∧ h ∈ hs ∧ t.que.length < 100 ∧
  ∀ (H' : Hp), Fr3 a d q H H' → TlO CT H' a d q (takeS t h n).2 → Q (.bl (takeS t h n).1) H'
theorem ok_take {CG CT : Addr} (D : MethAt K CG "take" "Goods.take" s_Goods_take ["self", "hand", "name", "n"]) (CL_Goods : Cls K CG) (N_Goods_by_tool : NoAttr K CG "by_tool") (CL_Tool : Cls K CT) (N_Tool_free : NoAttr K CT "free") (N_Tool_queue : NoAttr K CT "queue") (G_hand_out : OkD P w K mg base 1 "hand_out" ["tool", "hand", "n"] (spOut CT)) : OkM P w K mg base 2 CG "take" ["self", "hand", "name", "n"] (spTake CG CT) := by
  refine D.ok CL_Goods sc_Goods_take (fun vs H Q E h => ?_) (fun f cdv A outer s H vs Q E hr h => ?_)
  · obtain ⟨_, _, _, _, _, _, _, _, _, _, _, _, rfl, _⟩ := h; rfl
  obtain ⟨g, dx, dt, a, d, q0, x, kv, nm, h, n, t, rfl, e1, e2, e3, tl, b1, b2, q⟩ := h
  have hu := hu_of hr
  have big : 100000 ≤ sizeLine := by unfold sizeLine; decide
  obtain ⟨dx', qs, k1, k2, k3, k4, k5, k6, k7⟩ := id tl
  have lq := k4.length
  refine ⟨_, (pss_cons (ps_set (i := 4) sc_Goods_take.nd rfl (Or.inl rfl) (pe_dgetG hu (pe_fldG CL_Goods N_Goods_by_tool (pv 0)) (pv 2) (fun _ _ => rfl)))
  (pss_cons (ps_if (PW.pt (pw_or (pt_truth (pe_fldG CL_Tool N_Tool_queue (pv 4)) (fun _ => rfl)) (pw_or1 (pt_cmpR op_lt (pe_fldG CL_Tool N_Tool_free (pv 4)) (pv 3) (nomark _)))))
  (pss_cons (ps_expr (pe_appG (pe_fldG CL_Tool N_Tool_queue (pv 4)) (pe_tupG (pa_c (pv 1) (pa_c (pv 3) pa_nil)))))
  (pss_one (ps_ret pe_bl)))
  pss_nil)
  (pss_cons (ps_expr (pe_def G_hand_out hr rfl (pa_c (pv 4) (pa_c (pv 1) (pa_c (pv 3) pa_nil)))))
  (pss_one (ps_ret pe_bl))))), ?_⟩
  walk_at "rd"
  have wait : (t.que ≠ [] ∨ t.free < n) → ∀ (p : Addr) (H1 : Hp), H p = none → Same H H1 → H1 p = some (.tup [.int h, .int n]) → ∃ ys, H1 q0 = some (.lst ys) ∧ ys.length < sizeLine ∧ ∀ H3, Mu H1 q0 (.lst (ys ++ [.ref p])) H3 → Q (.bl false) H3 := fun c p H1 hp g1 h1 => by
    refine ⟨qs, g1 _ _ k3, by omega, fun H3 m3 => ?_⟩
    have et : takeS t h n = (false, ⟨t.free, t.held, t.que ++ [(h, n)]⟩) := by unfold takeS; rw [if_pos c]
    rw [et] at q
    have nq : ∀ c u, c ≠ q0 → H c = some u → H3 c = some u := fun c u nc hc => m3.old (g1 _ _ hc) nc
    have naq : a ≠ q0 := fun z => by rw [z, k3] at k1; cases k1
    have ndq : d ≠ q0 := fun z => by rw [z, k3] at k2; cases k2
    have npq : p ≠ q0 := (ne_of_none k3 hp).symm
    refine q H3 (fun c u _ _ n3 hc => nq c u n3 hc) ⟨dx', qs ++ [.ref p], nq _ _ naq k1, nq _ _ ndq k2, m3.at_, (k4.mono fun c xs hc => nq c _ (tl.ne c xs hc).2.2 hc).snoc (m3.old h1 npq), k5, ⟨k6.1, fun p hp => (List.mem_append.mp hp).elim (k6.2 p) (fun z => by rw [List.mem_singleton.mp z]; exact b1)⟩, ?_⟩
    show (t.que ++ [(h, n)]).length ≤ 100
    rw [List.length_append, List.length_singleton]; omega
  refine ⟨!qs.isEmpty, tru_lst k3, ?_⟩
  cases hq : qs with
  | cons v0 qs' =>
    have nq : t.que ≠ [] := fun z => by rw [z] at lq; rw [hq] at lq; cases lq
    exact iteT (wait (.inl nq))
  | nil =>
    have nq : t.que = [] := by
      rw [hq] at lq
      exact List.eq_nil_of_length_eq_zero lq.symm
    refine iteF (ite2 (fun c => ?_) fun c => ?_)
    · exact wait (.inr c)
    · have et : takeS t h n = (true, outS t h n) := by unfold takeS; rw [if_neg (fun z => z.elim (fun z => z nq) c)]
      rw [et] at q
      exact ⟨a, d, q0, t, h, n, rfl, tl, b1, fun H1 f1 t1 => q H1 f1 t1⟩
def spGive (CG CT : Addr) : Sp := fun vs H Q _ => ∃ (g dx dt a d q : Addr) (x : V) (kv : List (Key × V)) (nm : Str) (h n : Int) (t : TS), vs = [.ref g, .int h, .str nm, .int n] ∧ H g = some (.ins CG dx [("by_tool", .ref dt), ("by_store", x)]) ∧ H dt = some (.dK kv) ∧ valV kv (Sum.inr nm) = some (.ref a) ∧ TlO CT H a d q t ∧ h ∈ hs ∧
  ∀ (H' : Hp) (p r : Addr) (sv : List V), Fr3 a d q H H' → H r = none → H' p = some (.tup [.int (giv t h n), .ref r]) → H' r = some (.lst sv) → Svd "takes" H' sv (giveS t h n).1 → TlO CT H' a d q (giveS t h n).2 → Q (.ref p) H'
theorem ok_give {CG CT : Addr} (D : MethAt K CG "give" "Goods.give" s_Goods_give ["self", "hand", "name", "n"]) (CL_Goods : Cls K CG) (N_Goods_by_tool : NoAttr K CG "by_tool") (CL_Tool : Cls K CT) (N_Tool_held : NoAttr K CT "held") (G_hand_in : OkD P w K mg base 2 "hand_in" ["tool", "hand", "n"] (spIn CT)) (G_serve_takers : OkD P w K mg base 2 "serve_takers" ["tool"] (spServe CT)) (hmin : mg "min" = none) : OkM P w K mg base 3 CG "give" ["self", "hand", "name", "n"] (spGive CG CT) := by
  refine D.ok CL_Goods sc_Goods_give (fun vs H Q E h => ?_) (fun f cdv A outer s H vs Q E hr h => ?_)
  · obtain ⟨_, _, _, _, _, _, _, _, _, _, _, _, rfl, _⟩ := h; rfl
  obtain ⟨g, dx, dt, a, d, q0, x, kv, nm, h, n, t, rfl, e1, e2, e3, tl, b1, q⟩ := h
  have hu := hu_of hr
  obtain ⟨dx', qs, k1, k2, k3, k4, k5, k6, k7⟩ := id tl
  refine ⟨_, (pss_cons (ps_set (i := 4) sc_Goods_give.nd rfl (Or.inl rfl) (pe_dgetG hu (pe_fldG CL_Goods N_Goods_by_tool (pv 0)) (pv 2) (fun _ _ => rfl)))
  (pss_cons (ps_set (i := 5) sc_Goods_give.nd rfl (Or.inl rfl) (pe_cB (call_min2 rfl) rfl hmin (by decide +kernel) (pa_c (pv 3) (pa_c (pe_dgetDG hu (pe_fldG CL_Tool N_Tool_held (pv 4)) (pv 1) pe_int ⟨rfl, rfl, rfl, rfl⟩) pa_nil))))
  (pss_cons (ps_expr (pe_def G_hand_in hr rfl (pa_c (pv 4) (pa_c (pv 1) (pa_c (pv 5) pa_nil)))))
  (pss_one (ps_ret (pe_tupG (pa_c (pv 5) (pa_c (pe_def G_serve_takers hr rfl (pa_c (pv 4) pa_nil)) pa_nil)))))))), ?_⟩
  walk_at "rd"
  refine ⟨⟨_, rfl⟩, _, hk_get _, ?_⟩
  obtain ⟨p1, p2, p3⟩ := putI_keys (h := h) (x := getI t.held h + -(giv t h n)) t.held k5
  refine ⟨a, d, q0, t, h, giv t h n, rfl, tl, b1, fun H1 f1 t1 => ?_⟩
  refine ⟨a, d, q0, outS t h (-(giv t h n)), rfl, t1, fun r H2 sv hr2 f2 h2 sd t2 => ?_⟩
  intro p H3 hp g3 h3
  have hr0 : H r = none := by
    cases z : H r with
    | none => rfl
    | some u =>
      obtain ⟨dx1, qs1, j1, j2, j3, _⟩ := t1
      have := f1 r u (fun e => by rw [e, j1] at hr2; cases hr2) (fun e => by rw [e, j2] at hr2; cases hr2) (fun e => by rw [e, j3] at hr2; cases hr2) z
      rw [this] at hr2; cases hr2
  exact q H3 p r sv ((f1.trans f2).trans fun c u _ _ _ hc => g3 _ _ hc) hr0 h3 (g3 _ _ h2) (sd.mono fun c xs hc => g3 _ _ hc) (t2.same g3)
def spPut (CG CS : Addr) : Sp := fun vs H Q _ => ∃ (g dx ds a gg pp : Addr) (x : V) (kv : List (Key × V)) (nm : Str) (h n : Int) (s : SS), vs = [.ref g, .int h, .str nm, .int n] ∧ H g = some (.ins CG dx [("by_tool", x), ("by_store", .ref ds)]) ∧ H ds = some (.dK kv) ∧ valV kv (Sum.inr nm) = some (.ref a) ∧ StO CS H a gg pp s ∧ s.gets.length < 100 ∧ s.puts.length < 100 ∧
  ∀ (H' : Hp) (p r : Addr) (sv : List V) (b : Bool) (its : List (Int × Bool × Int)) (s' : SS), Fr3 a gg pp H H' → H r = none → H' p = some (.tup [.bl b, .ref r]) → H' r = some (.lst sv) → Sv3 H' sv its → StO CS H' a gg pp s' → PutR s h n b its s' → Q (.ref p) H'
def spGet (CG CS : Addr) : Sp := fun vs H Q _ => ∃ (g dx ds a gg pp : Addr) (x : V) (kv : List (Key × V)) (nm : Str) (h n : Int) (s : SS), vs = [.ref g, .int h, .str nm, .int n] ∧ H g = some (.ins CG dx [("by_tool", x), ("by_store", .ref ds)]) ∧ H ds = some (.dK kv) ∧ valV kv (Sum.inr nm) = some (.ref a) ∧ StO CS H a gg pp s ∧ s.gets.length < 100 ∧ s.puts.length < 100 ∧
  ∀ (H' : Hp) (p r : Addr) (sv : List V) (b : Bool) (its : List (Int × Bool × Int)) (s' : SS), Fr3 a gg pp H H' → H r = none → H' p = some (.tup [.bl b, .ref r]) → H' r = some (.lst sv) → Sv3 H' sv its → StO CS H' a gg pp s' → GetR s h n b its s' → Q (.ref p) H'
end
end K60

set_option Elab.async false
set_option linter.all false
set_option maxRecDepth 100000
set_option maxHeartbeats 4000000
namespace K60
open PySem L2
inductive TlL (H0 H : Hp) : List V → List TS → Prop
  | nil : TlL H0 H [] []
  | cons {v : V} {t : TS} {hd : List (Int × Int)} {vs : List V} {ts : List TS} : Told H0 H v t hd → hd.Perm (t.held.filter fun p => decide (0 < p.2)) → TlL H0 H vs ts → TlL H0 H (v :: vs) (t :: ts)
inductive SlL (H0 H : Hp) : List V → List SS → Prop
  | nil : SlL H0 H [] []
  | cons {v : V} {s : SS} {vs : List V} {ts : List SS} : ToldS H0 H v s → SlL H0 H vs ts → SlL H0 H (v :: vs) (s :: ts)
theorem Told.mono {H0 H H' : Hp} {v : V} {t : TS} {hd : List (Int × Int)} (g : Same H H') (h : Told H0 H v t hd) : Told H0 H' v t hd := by
  obtain ⟨p, ph, pq, hs, qs, e, h1, h2, h3, h4, h5⟩ := h
  exact ⟨p, ph, pq, hs, qs, e, g _ _ h1, g _ _ h2, h3.mono fun _ _ hc => g _ _ hc, g _ _ h4, h5.1.mono fun _ _ hc => g _ _ hc, h5.2⟩
theorem ToldS.mono {H0 H H' : Hp} {v : V} {s : SS} (g : Same H H') (h : ToldS H0 H v s) : ToldS H0 H' v s := by
  obtain ⟨p, ph, pq, hs, qs, e, h1, h2, h3, h4, h5⟩ := h
  exact ⟨p, ph, pq, hs, qs, e, g _ _ h1, g _ _ h2, h3.mono fun _ _ hc => g _ _ hc, g _ _ h4, h5.1.mono fun _ _ hc => g _ _ hc, h5.2⟩
theorem Told.hid {H0 H1 H : Hp} {v : V} {t : TS} {hd : List (Int × Int)} {D : Addr} {xs : List V} (h : Told H1 H v t hd) (hD1 : H1 D = some (.lst xs)) (hD : H D = some (.lst xs)) (k : ∀ c, H1 c = none → H0 c = none) : Told H0 (hide D H) v t hd := by
  obtain ⟨p, ph, pq, hs, qs, e, h1, h2, h3, h4, h5, h6, h7⟩ := h
  have nt : ∀ c ys, H c = some (.tup ys) → hide D H c = some (.tup ys) := fun c ys hc => hide_of (fun z => by rw [z, hD] at hc; cases hc) hc
  exact ⟨p, ph, pq, hs, qs, e, nt _ _ h1, hide_of (ne_of_none hD1 h6).symm h2, h3.mono nt, hide_of (ne_of_none hD1 h7).symm h4, h5.mono nt, k _ h6, k _ h7⟩
theorem ToldS.hid {H0 H1 H : Hp} {v : V} {t : SS} {D : Addr} {xs : List V} (h : ToldS H1 H v t) (hD1 : H1 D = some (.lst xs)) (hD : H D = some (.lst xs)) (k : ∀ c, H1 c = none → H0 c = none) : ToldS H0 (hide D H) v t := by
  obtain ⟨p, ph, pq, hs, qs, e, h1, h2, h3, h4, h5, h6, h7⟩ := h
  have nt : ∀ c ys, H c = some (.tup ys) → hide D H c = some (.tup ys) := fun c ys hc => hide_of (fun z => by rw [z, hD] at hc; cases hc) hc
  exact ⟨p, ph, pq, hs, qs, e, nt _ _ h1, hide_of (ne_of_none hD1 h6).symm h2, h3.mono nt, hide_of (ne_of_none hD1 h7).symm h4, h5.mono nt, k _ h6, k _ h7⟩
theorem TlL.mono {H0 H H' : Hp} (g : Same H H') : ∀ {vs : List V} {ts : List TS}, TlL H0 H vs ts → TlL H0 H' vs ts
  | _, _, .nil => .nil
  | _, _, .cons h p r => .cons (h.mono g) p (r.mono g)
theorem TlL.snoc {H0 H : Hp} {v : V} {t : TS} {hd : List (Int × Int)} (h : Told H0 H v t hd) (pm : hd.Perm (t.held.filter fun p => decide (0 < p.2))) : ∀ {vs : List V} {ts : List TS}, TlL H0 H vs ts → TlL H0 H (vs ++ [v]) (ts ++ [t])
  | _, _, .nil => .cons h pm .nil
  | _, _, .cons h' p' r => .cons h' p' (r.snoc h pm)
theorem SlL.mono {H0 H H' : Hp} (g : Same H H') : ∀ {vs : List V} {ts : List SS}, SlL H0 H vs ts → SlL H0 H' vs ts
  | _, _, .nil => .nil
  | _, _, .cons h r => .cons (h.mono g) (r.mono g)
theorem SlL.snoc {H0 H : Hp} {v : V} {t : SS} (h : ToldS H0 H v t) : ∀ {vs : List V} {ts : List SS}, SlL H0 H vs ts → SlL H0 H (vs ++ [v]) (ts ++ [t])
  | _, _, .nil => .cons h .nil
  | _, _, .cons h' r => .cons h' (r.snoc h)
theorem Told.mono2 {H0 H H' : Hp} {v : V} {t : TS} {hd : List (Int × Int)} (g : ∀ c u, (∃ xs, u = HO.tup xs ∨ u = HO.lst xs) → H c = some u → H' c = some u) (h : Told H0 H v t hd) : Told H0 H' v t hd := by
  obtain ⟨p, ph, pq, hs, qs, e, h1, h2, h3, h4, h5⟩ := h
  exact ⟨p, ph, pq, hs, qs, e, g _ _ ⟨_, .inl rfl⟩ h1, g _ _ ⟨_, .inr rfl⟩ h2, h3.mono fun _ xs hc => g _ _ ⟨xs, .inl rfl⟩ hc, g _ _ ⟨_, .inr rfl⟩ h4, h5.1.mono fun _ xs hc => g _ _ ⟨xs, .inl rfl⟩ hc, h5.2⟩
theorem ToldS.mono2 {H0 H H' : Hp} {v : V} {t : SS} (g : ∀ c u, (∃ xs, u = HO.tup xs ∨ u = HO.lst xs) → H c = some u → H' c = some u) (h : ToldS H0 H v t) : ToldS H0 H' v t := by
  obtain ⟨p, ph, pq, hs, qs, e, h1, h2, h3, h4, h5⟩ := h
  exact ⟨p, ph, pq, hs, qs, e, g _ _ ⟨_, .inl rfl⟩ h1, g _ _ ⟨_, .inr rfl⟩ h2, h3.mono fun _ xs hc => g _ _ ⟨xs, .inl rfl⟩ hc, g _ _ ⟨_, .inr rfl⟩ h4, h5.1.mono fun _ xs hc => g _ _ ⟨xs, .inl rfl⟩ hc, h5.2⟩
theorem TlL.mono2 {H0 H H' : Hp} (g : ∀ c u, (∃ xs, u = HO.tup xs ∨ u = HO.lst xs) → H c = some u → H' c = some u) : ∀ {vs : List V} {ts : List TS}, TlL H0 H vs ts → TlL H0 H' vs ts
  | _, _, .nil => .nil
  | _, _, .cons h p r => .cons (h.mono2 g) p (r.mono2 g)
theorem SlL.mono2 {H0 H H' : Hp} (g : ∀ c u, (∃ xs, u = HO.tup xs ∨ u = HO.lst xs) → H c = some u → H' c = some u) : ∀ {vs : List V} {ts : List SS}, SlL H0 H vs ts → SlL H0 H' vs ts
  | _, _, .nil => .nil
  | _, _, .cons h r => .cons (h.mono2 g) (r.mono2 g)
theorem kv_int {held : List (Int × Int)} {i : Nat} {nm : Str} {v : V} : (hk held)[i]? ≠ some (Sum.inr nm, v) := fun h => by
  obtain ⟨a, n, e, _⟩ := hk_at h
  cases e
theorem unfz {H H1 : Hp} {d : Addr} {o : Obj} {kv : List (Key × V)} (hd : H d = some (.dK kv)) (g1 : Same (upd H d (.frz o (.dK kv))) H1) : Same H (upd H1 d (.dK kv)) := fun c u hc => by
  by_cases z : c = d
  · rw [z, upd_same]; rw [z, hd] at hc; exact hc
  · rw [upd_ne z]
    exact g1 _ _ (by rw [upd_ne z]; exact hc)
section
variable {P : Program} {w : World} {K : PySem.W.Frag} {mg : Str → Option Value} {base : Heap}
def GoA (CG CT CS : Addr) (H : Hp) (g dt ds : Addr) (es : List Ent) (ss : List EntS) : Prop := (∃ dx, H g = some (.ins CG dx [("by_tool", .ref dt), ("by_store", .ref ds)])) ∧ H dt = some (.dK (kvE es)) ∧ H ds = some (.dK (kvS ss)) ∧ (∀ e ∈ es, TlO CT H e.a e.d e.q e.t) ∧ (∀ e ∈ ss, StO CS H e.a e.g e.p e.s) ∧ (g :: dt :: ds :: (adE es ++ adS ss)).Nodup ∧ (es.map (·.name)).Nodup ∧ (ss.map (·.name)).Nodup
def spGoodsI (CG CT CS : Addr) : Sp := fun vs H Q _ => ∃ (g dx pp p0 p1 : Addr) (x2 x3 : V) (ys0 ys1 : List V) (pr0 : List (Str × Int)) (pr1 : List (Str × Int × Int)), vs = [.ref g, .ref pp] ∧ H g = some (.ins CG dx []) ∧ H pp = some (.tup [.ref p0, .ref p1, x2, x3]) ∧ H p0 = some (.lst ys0) ∧ PrN H ys0 pr0 ∧ (pr0.length ≤ 10 ∧ (pr0.map (·.1)).Nodup) ∧ H p1 = some (.lst ys1) ∧ PrM H ys1 pr1 ∧ (pr1.length ≤ 10 ∧ (pr1.map (·.1)).Nodup) ∧
  ∀ (H' : Hp) (dt ds : Addr) (es : List Ent) (ss : List EntS), (∀ c u, c ≠ g → H c = some u → H' c = some u) → GoA CG CT CS H' g dt ds es ss →
    es.map (fun e => (e.name, e.c, e.t)) = pr0.map (fun p => (p.1, p.2, ⟨p.2, [], []⟩)) → ss.map (fun e => (e.name, e.s)) = pr1.map (fun p => (p.1, ⟨p.2.1, p.2.2, [], []⟩)) → (∀ c ∈ dt :: ds :: (adE es ++ adS ss), H c = none) → Q .non H'
theorem PrN.mono {H H' : Hp} (g : Same H H') : ∀ {vs : List V} {ps : List (Str × Int)}, PrN H vs ps → PrN H' vs ps
  | _, _, .nil => .nil
  | _, _, .cons h r => .cons (g _ _ h) (r.mono g)
theorem PrM.keep {H H' : Hp} (g : ∀ c xs, H c = some (.tup xs) → H' c = some (.tup xs)) : ∀ {vs : List V} {ps : List (Str × Int × Int)}, PrM H vs ps → PrM H' vs ps
  | _, _, .nil => .nil
  | _, _, .cons h r => .cons (g _ _ h) (r.keep g)
theorem ok_Goods {CG CT CS : Addr} (D : MakeAt K mg "Goods" CG "Goods.__init__" s_Goods___init__ ["self", "program"]) (CL_Goods : Cls K CG) (N_Goods_by_tool : NoAttr K CG "by_tool") (N_Goods_by_store : NoAttr K CG "by_store") (G_tools_of : OkD P w K mg base 3 "tools_of" ["program"] (spToolsOf CT)) (G_stores_of : OkD P w K mg base 3 "stores_of" ["program"] (spStoresOf CS)) : OkC P w K mg base 4 "Goods" CG ["self", "program"] (spGoodsI CG CT CS) := by
  refine D.ok sc_Goods___init__ (fun vs H Q E h => ?_) (fun f cdv A outer s H vs Q E hr h => ?_)
  · obtain ⟨_, _, _, _, _, _, _, _, _, _, _, rfl, _⟩ := h; rfl
  obtain ⟨g, dx, pp, p0, p1, x2, x3, ys0, ys1, pr0, pr1, rfl, hg, h1, h2, h3, h4, h5, h6, h7, q⟩ := h
  refine ⟨_, (pss_cons (ps_fldG CL_Goods N_Goods_by_tool (pv 0) (pe_def G_tools_of hr rfl (pa_c (pv 1) pa_nil)))
  (pss_one (ps_fldG CL_Goods N_Goods_by_store (pv 0) (pe_def G_stores_of hr rfl (pa_c (pv 1) pa_nil))))), ?_⟩
  walk_at "rd"
  refine ⟨pp, p0, _, _, _, ys0, pr0, rfl, h1, h2, h3, h4.1, h4.2, fun dt H1 es hdt g1 e1 t1 m1 n1 f1 => ?_⟩
  have hg1 := g1 _ _ hg
  have npp : pp ≠ g := fun z => by rw [z, hg] at h1; cases h1
  have np1 : p1 ≠ g := fun z => by rw [z, hg] at h5; cases h5
  have hgs := hg
  clear hg
  walk_at "rd"
  intro H2 mu2
  have hg2 := mu2.at_
  refine ⟨pp, p1, _, _, _, ys1, pr1, rfl, mu2.old (g1 _ _ h1) npp, mu2.old (g1 _ _ h5) np1, h6.keep (fun c xs hc => mu2.old (g1 _ _ hc) (fun z => by rw [z, hgs] at hc; cases hc)), h7.1, h7.2, fun ds H3 ss hds g3 e3 t3 m3 n3 f3 => ?_⟩
  have hg3 := g3 _ _ hg2
  clear hg1 hg2
  walk_at "rd"
  intro H4 mu4
  have ndt : dt ≠ g := (ne_of_none hgs hdt).symm
  have nds : ds ≠ g := (ne_of_none mu2.at_ hds).symm
  have k24 : ∀ c u, c ≠ g → H1 c = some u → H4 c = some u := fun c u nc hc => mu4.old (g3 _ _ (mu2.old hc nc)) nc
  have ne1 : ∀ c ∈ adE es, c ≠ g := fun c hc => (ne_of_none hgs (f1 c hc)).symm
  have ne3 : ∀ c ∈ adS ss, c ≠ g := fun c hc => (ne_of_none mu2.at_ (f3 c hc)).symm
  have back : ∀ c, H2 c = none → c ≠ g → H c = none := fun c hc nc => g1.free (by rw [← mu2.else_ c nc]; exact hc)
  have in1 : ∀ c ∈ dt :: adE es, ∃ u, H2 c = some u := fun c hc => by
    rcases List.mem_cons.mp hc with rfl | hc
    · exact ⟨_, mu2.old e1 ndt⟩
    · obtain ⟨u, hu⟩ := adE_has t1 c hc
      exact ⟨u, mu2.old hu (ne1 c hc)⟩
  have out3 : ∀ c ∈ ds :: adS ss, H2 c = none := fun c hc => by
    rcases List.mem_cons.mp hc with rfl | hc
    · exact hds
    · exact f3 c hc
  have dj : ∀ c ∈ dt :: adE es, ∀ c' ∈ ds :: adS ss, c ≠ c' := fun c hc c' hc' z => by
    obtain ⟨u, hu⟩ := in1 c hc
    rw [z, out3 c' hc'] at hu; cases hu
  have mE : ∀ {c}, c ∈ adE es → c ∈ dt :: adE es := fun h => List.mem_cons_of_mem _ h
  have mS : ∀ {c}, c ∈ adS ss → c ∈ ds :: adS ss := fun h => List.mem_cons_of_mem _ h
  rw [List.nodup_cons] at n1 n3
  refine q H4 dt ds es ss (fun c u nc hc => k24 c u nc (g1 _ _ hc)) ⟨⟨_, mu4.at_⟩, k24 _ _ ndt e1, mu4.old e3 nds, fun e he => (t1 e he).grow fun c u hc hu => k24 c u (fun z => ?_) hu, fun e he => (t3 e he).grow fun c u hc hu => mu4.old hu (fun z => ?_), ?_, ?_, ?_⟩ m1 m3 (fun c hc => ?_)
  · rcases hc with rfl | rfl | rfl | ⟨xs, rfl⟩
    · exact ne1 e.a (List.mem_flatMap.mpr ⟨e, he, by simp⟩) z
    · exact ne1 e.d (List.mem_flatMap.mpr ⟨e, he, by simp⟩) z
    · exact ne1 e.q (List.mem_flatMap.mpr ⟨e, he, by simp⟩) z
    · rw [z, g1 _ _ hgs] at hu; cases hu
  · rcases hc with rfl | rfl | rfl | ⟨xs, rfl⟩
    · exact ne3 e.a (List.mem_flatMap.mpr ⟨e, he, by simp⟩) z
    · exact ne3 e.g (List.mem_flatMap.mpr ⟨e, he, by simp⟩) z
    · exact ne3 e.p (List.mem_flatMap.mpr ⟨e, he, by simp⟩) z
    · rw [z, hg3] at hu; cases hu
  · refine List.nodup_cons.mpr ⟨fun z => ?_, List.nodup_cons.mpr ⟨fun z => ?_, List.nodup_cons.mpr ⟨fun z => ?_, List.nodup_append.mpr ⟨n1.2, n3.2, fun c hc c' hc' => dj c (mE hc) c' (mS hc')⟩⟩⟩⟩
    · rcases List.mem_cons.mp z with z | z
      · exact ndt z.symm
      · rcases List.mem_cons.mp z with z | z
        · exact nds z.symm
        · rcases List.mem_append.mp z with z | z
          · exact ne1 _ z rfl
          · exact ne3 _ z rfl
    · rcases List.mem_cons.mp z with z | z
      · exact dj dt List.mem_cons_self ds List.mem_cons_self z
      · rcases List.mem_append.mp z with z | z
        · exact n1.1 z
        · exact dj dt List.mem_cons_self dt (mS z) rfl
    · rcases List.mem_append.mp z with z | z
      · exact dj ds (mE z) ds List.mem_cons_self rfl
      · exact n3.1 z
  · have e := congrArg (List.map (fun x : Str × Int × TS => x.1)) m1
    rw [List.map_map, List.map_map] at e
    have e : es.map (·.name) = pr0.map (·.1) := e
    rw [e]; exact h4.2
  · have e := congrArg (List.map (fun x : Str × SS => x.1)) m3
    rw [List.map_map, List.map_map] at e
    have e : ss.map (·.name) = pr1.map (·.1) := e
    rw [e]; exact h7.2
  · rcases List.mem_cons.mp hc with rfl | hc
    · exact hdt
    · rcases List.mem_cons.mp hc with rfl | hc
      · exact back _ hds nds
      · rcases List.mem_append.mp hc with hc | hc
        · exact f1 _ hc
        · exact back _ (f3 _ hc) (ne3 _ hc)
def TsP (H : Hp) (es : List Ent) (D : Addr) (i : Nat) (ys : List V) (σ1 : St) (H' : Hp) : Prop := TlL H (hide D H') ys ((es.take i).map (·.t)) ∧ ∃ v0, σ1 = [v0]
def spTools (CG CT : Addr) : Sp := fun vs H Q _ => ∃ (g dx dt : Addr) (x : V) (es : List Ent), vs = [.ref g] ∧ H g = some (.ins CG dx [("by_tool", .ref dt), ("by_store", x)]) ∧ H dt = some (.dK (kvE es)) ∧ (∀ e ∈ es, TlO CT H e.a e.d e.q e.t) ∧ es.length ≤ 100 ∧
  ∀ (r : Addr) (H' : Hp) (vs : List V), H r = none → Same H H' → H' r = some (.lst vs) → TlL H H' vs (es.map (·.t)) → Q (.ref r) H'
theorem ok_tools {CG CT : Addr} (D : MethAt K CG "tools" "Goods.tools" s_Goods_tools ["self"]) (CL_Goods : Cls K CG) (N_Goods_by_tool : NoAttr K CG "by_tool") (G_told_tool : OkD P w K mg base 1 "told_tool" ["tool"] (spTold CT)) : OkM P w K mg base 2 CG "tools" ["self"] (spTools CG CT) := by
  refine D.ok CL_Goods sc_Goods_tools (fun vs H Q E h => ?_) (fun f cdv A outer s H vs Q E hr h => ?_)
  · obtain ⟨_, _, _, _, _, rfl, _⟩ := h; rfl
  obtain ⟨g, dx, dt, x, es, rfl, e1, e2, e3, b1, q⟩ := h
  have big : 100000 ≤ sizeLine := by unfold sizeLine; decide
  have le : (kvE es).length = es.length := by unfold kvE; rw [List.length_map]
  refine ⟨_, (pss_one (ps_ret (pe_unf (pe_compN (comp_scopeN 1 (N := ["tool"]) (cap := []) rfl rfl rfl rfl (by decide +kernel) rfl rfl rfl) rfl (pi_vals (pe_fldG CL_Goods N_Goods_by_tool (pv 0))) (fun _ _ _ _ => (pg_name (i := 0) (show List.Nodup (α := Str) ["tool"] by decide +kernel) rfl (Or.inl (lookup_relabel_local rfl)) (Or.inr (lookup_relabel_local rfl)))) (fun _ _ _ _ => pts_nil) (fun _ _ _ _ => (pe_def G_told_tool hr rfl (pa_c (pv 0) pa_nil))))))), ?_⟩
  walk_at "rz"
  refine tcomp_in ?_
  simp only [iVals]
  walk_at "rz"
  intro o nf
  refine compJD over_vals (fun H g => g _ _ upd_same) (by rw [List.length_map]; omega) (TsP H es) (fun D H' _ _ _ => by unfold TsP; exact ⟨.nil, _, rfl⟩) ?_ ?_
  · rintro D i x ys σ1 H1 hx at1 pv
    unfold TsP at pv
    obtain ⟨tl, v0, rfl⟩ := pv
    obtain ⟨e, he, rfl⟩ : ∃ e, es[i]? = some e ∧ V.ref e.a = x := by
      unfold kvE at hx
      rw [List.map_map, List.getElem?_map] at hx
      cases z : es[i]? with
      | none => rw [z] at hx; cases hx
      | some e => rw [z] at hx; cases hx; exact ⟨e, rfl, rfl⟩
    walk_at "rd"
    have t0 := e3 e (List.mem_of_getElem? he)
    have t1 : TlO CT H1 e.a e.d e.q e.t := t0.grow fun c u hc hu => at1.same _ _ (by
      rw [upd_ne (fun z => ?_)]
      · exact hu
      · obtain ⟨dx1, qs1, j1, j2, j3, _⟩ := t0
        rcases hc with rfl | rfl | rfl | ⟨xs, rfl⟩
        · rw [z, e2] at j1; cases j1
        · rw [z, e2] at j2
          have j4 : kvE es = hk e.t.held := HO.dK.inj (Option.some.inj j2)
          refine kv_int (held := e.t.held) (i := i) (nm := e.name) (v := .ref e.a) ?_
          rw [← j4]
          unfold kvE
          rw [List.getElem?_map, he]; rfl
        · rw [z, e2] at j3; cases j3
        · rw [z, e2] at hu; cases hu)
    refine ⟨e.a, e.d, e.q, e.t, rfl, t1, fun v H2 hd g2 td pm => at1.put g2 fun H3 mu => ?_⟩
    unfold TsP
    rw [take_snoc he, List.map_append]
    have fre : ∀ c, H1 c = none → H c = none := fun c hc => by
      have := at1.same.free hc
      by_cases z : c = dt
      · rw [z, upd_same] at this; cases this
      · rw [upd_ne z] at this; exact this
    exact ⟨(tl.mono ((hide_same g2).trans (hide_mu mu))).snoc ((td.hid at1.lst (g2 _ _ at1.lst) fre).mono (hide_mu mu)) pm, _, rfl⟩
  · rintro D ys σ1 H1 hD g1 hy hle pv
    unfold TsP at pv
    obtain ⟨tl, _⟩ := pv
    rw [List.length_map, le, List.take_of_length_le (Nat.le_refl _)] at tl
    have d1 : H1 dt = some (.frz o (.dK (kvE es))) := g1 _ _ upd_same
    have nDd : D ≠ dt := fun z => by rw [z, upd_same] at hD; cases hD
    have hD0 : H D = none := by rw [upd_ne nDd] at hD; exact hD
    refine ⟨dt, nf, o, _, d1, ?_⟩
    refine q D _ ys hD0 (unfz e2 g1) (by rw [upd_ne nDd]; exact hy) (tl.mono2 fun c u ⟨xs, hx⟩ hc => ?_)
    have hc := hide_le _ _ hc
    have nc : c ≠ dt := fun z => by
      rw [z, d1] at hc
      rcases hx with rfl | rfl <;> cases hc
    rw [upd_ne nc]
    exact hc
def SsP (H : Hp) (es : List EntS) (D : Addr) (i : Nat) (ys : List V) (σ1 : St) (H' : Hp) : Prop := SlL H (hide D H') ys ((es.take i).map (·.s)) ∧ ∃ v0, σ1 = [v0]
def spStores (CG CS : Addr) : Sp := fun vs H Q _ => ∃ (g dx dt : Addr) (x : V) (es : List EntS), vs = [.ref g] ∧ H g = some (.ins CG dx [("by_tool", x), ("by_store", .ref dt)]) ∧ H dt = some (.dK (kvS es)) ∧ (∀ e ∈ es, StO CS H e.a e.g e.p e.s) ∧ es.length ≤ 100 ∧
  ∀ (r : Addr) (H' : Hp) (vs : List V), H r = none → Same H H' → H' r = some (.lst vs) → SlL H H' vs (es.map (·.s)) → Q (.ref r) H'
theorem ok_stores {CG CS : Addr} (D : MethAt K CG "stores" "Goods.stores" s_Goods_stores ["self"]) (CL_Goods : Cls K CG) (N_Goods_by_store : NoAttr K CG "by_store") (G_told_store : OkD P w K mg base 1 "told_store" ["store"] (spToldS CS)) : OkM P w K mg base 2 CG "stores" ["self"] (spStores CG CS) := by
  refine D.ok CL_Goods sc_Goods_stores (fun vs H Q E h => ?_) (fun f cdv A outer s H vs Q E hr h => ?_)
  · obtain ⟨_, _, _, _, _, rfl, _⟩ := h; rfl
  obtain ⟨g, dx, dt, x, es, rfl, e1, e2, e3, b1, q⟩ := h
  have big : 100000 ≤ sizeLine := by unfold sizeLine; decide
  have le : (kvS es).length = es.length := by unfold kvS; rw [List.length_map]
  refine ⟨_, (pss_one (ps_ret (pe_unf (pe_compN (comp_scopeN 1 (N := ["store"]) (cap := []) rfl rfl rfl rfl (by decide +kernel) rfl rfl rfl) rfl (pi_vals (pe_fldG CL_Goods N_Goods_by_store (pv 0))) (fun _ _ _ _ => (pg_name (i := 0) (show List.Nodup (α := Str) ["store"] by decide +kernel) rfl (Or.inl (lookup_relabel_local rfl)) (Or.inr (lookup_relabel_local rfl)))) (fun _ _ _ _ => pts_nil) (fun _ _ _ _ => (pe_def G_told_store hr rfl (pa_c (pv 0) pa_nil))))))), ?_⟩
  walk_at "rz"
  refine tcomp_in ?_
  simp only [iVals]
  walk_at "rz"
  intro o nf
  refine compJD over_vals (fun H g => g _ _ upd_same) (by rw [List.length_map]; omega) (SsP H es) (fun D H' _ _ _ => by unfold SsP; exact ⟨.nil, _, rfl⟩) ?_ ?_
  · rintro D i x ys σ1 H1 hx at1 pv
    unfold SsP at pv
    obtain ⟨tl, v0, rfl⟩ := pv
    obtain ⟨e, he, rfl⟩ : ∃ e, es[i]? = some e ∧ V.ref e.a = x := by
      unfold kvS at hx
      rw [List.map_map, List.getElem?_map] at hx
      cases z : es[i]? with
      | none => rw [z] at hx; cases hx
      | some e => rw [z] at hx; cases hx; exact ⟨e, rfl, rfl⟩
    walk_at "rd"
    have t0 := e3 e (List.mem_of_getElem? he)
    have t1 : StO CS H1 e.a e.g e.p e.s := t0.grow fun c u hc hu => at1.same _ _ (by
      rw [upd_ne (fun z => ?_)]
      · exact hu
      · obtain ⟨dx1, gs1, ps1, j1, j2, _, j3, _⟩ := t0
        rcases hc with rfl | rfl | rfl | ⟨xs, rfl⟩
        · rw [z, e2] at j1; cases j1
        · rw [z, e2] at j2; cases j2
        · rw [z, e2] at j3; cases j3
        · rw [z, e2] at hu; cases hu)
    refine ⟨e.a, e.g, e.p, e.s, rfl, t1, fun v H2 g2 td => at1.put g2 fun H3 mu => ?_⟩
    unfold SsP
    rw [take_snoc he, List.map_append]
    have fre : ∀ c, H1 c = none → H c = none := fun c hc => by
      have := at1.same.free hc
      by_cases z : c = dt
      · rw [z, upd_same] at this; cases this
      · rw [upd_ne z] at this; exact this
    exact ⟨(tl.mono ((hide_same g2).trans (hide_mu mu))).snoc ((td.hid at1.lst (g2 _ _ at1.lst) fre).mono (hide_mu mu)), _, rfl⟩
  · rintro D ys σ1 H1 hD g1 hy hle pv
    unfold SsP at pv
    obtain ⟨tl, _⟩ := pv
    rw [List.length_map, le, List.take_of_length_le (Nat.le_refl _)] at tl
    have d1 : H1 dt = some (.frz o (.dK (kvS es))) := g1 _ _ upd_same
    have nDd : D ≠ dt := fun z => by rw [z, upd_same] at hD; cases hD
    have hD0 : H D = none := by rw [upd_ne nDd] at hD; exact hD
    refine ⟨dt, nf, o, _, d1, ?_⟩
    refine q D _ ys hD0 (unfz e2 g1) (by rw [upd_ne nDd]; exact hy) (tl.mono2 fun c u ⟨xs, hx⟩ hc => ?_)
    have hc := hide_le _ _ hc
    have nc : c ≠ dt := fun z => by
      rw [z, d1] at hc
      rcases hx with rfl | rfl <;> cases hc
    rw [upd_ne nc]
    exact hc
end
end K60

set_option Elab.async false
set_option linter.all false
set_option maxRecDepth 100000
set_option maxHeartbeats 4000000
namespace K60
open PySem L2
theorem nd_mid {α : Type} {A B C : List α} (nd : (A ++ (B ++ C)).Nodup) : ∀ x, x ∈ A ++ C → x ∉ B := fun x hx hb => by
  rw [List.nodup_append] at nd
  obtain ⟨_, n2, n3⟩ := nd
  rcases List.mem_append.mp hx with hx | hx
  · exact n3 x hx x (List.mem_append_left _ hb) rfl
  · rw [List.nodup_append] at n2
    exact n2.2.2 x hb x hx rfl
def FrG (cs : List Addr) (H H' : Hp) : Prop := ∀ c u, c ∉ cs → H c = some u → H' c = some u
theorem FrG.refl {cs : List Addr} {H : Hp} : FrG cs H H := fun _ _ _ h => h
theorem FrG.trans {cs : List Addr} {H H' H'' : Hp} (f : FrG cs H H') (f' : FrG cs H' H'') : FrG cs H H'' := fun c u n h => f' c u n (f c u n h)
theorem FrG.same {cs : List Addr} {H H' H'' : Hp} (f : FrG cs H H') (f' : Same H' H'') : FrG cs H H'' := fun c u n h => f' c u (f c u n h)
theorem Fr3.g {cs : List Addr} {a d q : Addr} {H H' : Hp} (f : Fr3 a d q H H') (h1 : a ∈ cs) (h2 : d ∈ cs) (h3 : q ∈ cs) : FrG cs H H' := fun c u n h => f c u (fun z => n (z ▸ h1)) (fun z => n (z ▸ h2)) (fun z => n (z ▸ h3)) h
theorem GoA.same {CG CT CS : Addr} {H H' : Hp} {g dt ds : Addr} {es : List Ent} {ss : List EntS} (k : Same H H') (G : GoA CG CT CS H g dt ds es ss) : GoA CG CT CS H' g dt ds es ss := by
  obtain ⟨⟨dx, h1⟩, h2, h3, h4, h5, h6⟩ := G
  exact ⟨⟨dx, k _ _ h1⟩, k _ _ h2, k _ _ h3, fun e he => (h4 e he).same k, fun e he => (h5 e he).same k, h6⟩
theorem adE_mid {l1 l2 : List Ent} {e : Ent} : adE (l1 ++ e :: l2) = adE l1 ++ ([e.a, e.d, e.q] ++ adE l2) := by
  unfold adE
  rw [List.flatMap_append, List.flatMap_cons]
theorem adS_mid {l1 l2 : List EntS} {e : EntS} : adS (l1 ++ e :: l2) = adS l1 ++ ([e.a, e.g, e.p] ++ adS l2) := by
  unfold adS
  rw [List.flatMap_append, List.flatMap_cons]
theorem in_adE {es : List Ent} {e : Ent} (h : e ∈ es) : e.a ∈ adE es ∧ e.d ∈ adE es ∧ e.q ∈ adE es := ⟨List.mem_flatMap.mpr ⟨e, h, by simp⟩, List.mem_flatMap.mpr ⟨e, h, by simp⟩, List.mem_flatMap.mpr ⟨e, h, by simp⟩⟩
theorem in_adS {es : List EntS} {e : EntS} (h : e ∈ es) : e.a ∈ adS es ∧ e.g ∈ adS es ∧ e.p ∈ adS es := ⟨List.mem_flatMap.mpr ⟨e, h, by simp⟩, List.mem_flatMap.mpr ⟨e, h, by simp⟩, List.mem_flatMap.mpr ⟨e, h, by simp⟩⟩
/-- one tool is another now -/
theorem GoA.tool {CG CT CS : Addr} {H H' : Hp} {g dt ds : Addr} {l1 l2 : List Ent} {e : Ent} {ss : List EntS} {t : TS} (G : GoA CG CT CS H g dt ds (l1 ++ e :: l2) ss) (f : Fr3 e.a e.d e.q H H') (h : TlO CT H' e.a e.d e.q t) : GoA CG CT CS H' g dt ds (l1 ++ { e with t := t } :: l2) ss := by
  obtain ⟨⟨dx, h1⟩, h2, h3, h4, h5, nd, n1, n2⟩ := G
  have tl := h4 e (List.mem_append_right _ List.mem_cons_self)
  have nd0 := nd
  rw [adE_mid] at nd
  have nd' : ((g :: dt :: ds :: adE l1) ++ ([e.a, e.d, e.q] ++ (adE l2 ++ adS ss))).Nodup := by
    have e1 : (g :: dt :: ds :: adE l1) ++ ([e.a, e.d, e.q] ++ (adE l2 ++ adS ss)) = g :: dt :: ds :: ((adE l1 ++ ([e.a, e.d, e.q] ++ adE l2)) ++ adS ss) := by simp [List.append_assoc]
    rw [e1]; exact nd
  have keep : ∀ c u, c ∈ (g :: dt :: ds :: adE l1) ++ (adE l2 ++ adS ss) → H c = some u → H' c = some u := fun c u hc hu => by
    have n := nd_mid nd' c hc
    exact f c u (fun z => n (by rw [z]; simp)) (fun z => n (by rw [z]; simp)) (fun z => n (by rw [z]; simp)) hu
  have kt := tl.kt f
  have mE : ∀ c, c ∈ adE l1 ∨ c ∈ adE l2 ∨ c ∈ adS ss → c ∈ (g :: dt :: ds :: adE l1) ++ (adE l2 ++ adS ss) := fun c hc => by
    rcases hc with hc | hc | hc
    · exact List.mem_append_left _ (List.mem_cons_of_mem _ (List.mem_cons_of_mem _ (List.mem_cons_of_mem _ hc)))
    · exact List.mem_append_right _ (List.mem_append_left _ hc)
    · exact List.mem_append_right _ (List.mem_append_right _ hc)
  have other : ∀ e' : Ent, (∀ c, c = e'.a ∨ c = e'.d ∨ c = e'.q → c ∈ (g :: dt :: ds :: adE l1) ++ (adE l2 ++ adS ss)) → TlO CT H e'.a e'.d e'.q e'.t → TlO CT H' e'.a e'.d e'.q e'.t := fun e' hm tl' => tl'.grow fun c u hc hu => by
    rcases hc with hc | hc | hc | ⟨xs, rfl⟩
    · exact keep c u (hm c (.inl hc)) hu
    · exact keep c u (hm c (.inr (.inl hc))) hu
    · exact keep c u (hm c (.inr (.inr hc))) hu
    · exact kt c xs hu
  have ek : kvE (l1 ++ { e with t := t } :: l2) = kvE (l1 ++ e :: l2) := by unfold kvE; rw [List.map_append, List.map_append, List.map_cons, List.map_cons]
  refine ⟨⟨dx, keep g _ (by simp) h1⟩, by rw [ek]; exact keep dt _ (by simp) h2, keep ds _ (by simp) h3, fun e' he' => ?_, fun e' he' => ?_, ?_, ?_, n2⟩
  · rcases List.mem_append.mp he' with hm | hm
    · have i1 := in_adE hm
      refine other e' (fun c hc => mE c (.inl ?_)) (h4 e' (List.mem_append_left _ hm))
      rcases hc with rfl | rfl | rfl
      · exact i1.1
      · exact i1.2.1
      · exact i1.2.2
    · rcases List.mem_cons.mp hm with rfl | hm
      · exact h
      · have i1 := in_adE hm
        refine other e' (fun c hc => mE c (.inr (.inl ?_))) (h4 e' (List.mem_append_right _ (List.mem_cons_of_mem _ hm)))
        rcases hc with rfl | rfl | rfl
        · exact i1.1
        · exact i1.2.1
        · exact i1.2.2
  · have i1 := in_adS he'
    refine (h5 e' he').grow fun c u hc hu => ?_
    rcases hc with rfl | rfl | rfl | ⟨xs, rfl⟩
    · exact keep _ u (mE _ (.inr (.inr i1.1))) hu
    · exact keep _ u (mE _ (.inr (.inr i1.2.1))) hu
    · exact keep _ u (mE _ (.inr (.inr i1.2.2))) hu
    · exact kt c xs hu
  · rw [adE_mid]; exact nd
  · rw [List.map_append, List.map_cons] at n1 ⊢; exact n1
/-- one store is another now -/
theorem GoA.store {CG CT CS : Addr} {H H' : Hp} {g dt ds : Addr} {es : List Ent} {l1 l2 : List EntS} {e : EntS} {s : SS} (G : GoA CG CT CS H g dt ds es (l1 ++ e :: l2)) (f : Fr3 e.a e.g e.p H H') (h : StO CS H' e.a e.g e.p s) : GoA CG CT CS H' g dt ds es (l1 ++ { e with s := s } :: l2) := by
  obtain ⟨⟨dx, h1⟩, h2, h3, h4, h5, nd, n1, n2⟩ := G
  have tl := h5 e (List.mem_append_right _ List.mem_cons_self)
  rw [adS_mid] at nd
  have nd' : ((g :: dt :: ds :: (adE es ++ adS l1)) ++ ([e.a, e.g, e.p] ++ adS l2)).Nodup := by
    have e1 : (g :: dt :: ds :: (adE es ++ adS l1)) ++ ([e.a, e.g, e.p] ++ adS l2) = g :: dt :: ds :: (adE es ++ (adS l1 ++ ([e.a, e.g, e.p] ++ adS l2))) := by simp [List.append_assoc]
    rw [e1]; exact nd
  have keep : ∀ c u, c ∈ (g :: dt :: ds :: (adE es ++ adS l1)) ++ adS l2 → H c = some u → H' c = some u := fun c u hc hu => by
    have n := nd_mid nd' c hc
    exact f c u (fun z => n (by rw [z]; simp)) (fun z => n (by rw [z]; simp)) (fun z => n (by rw [z]; simp)) hu
  have kt : ∀ c xs, H c = some (.tup xs) → H' c = some (.tup xs) := fun c xs hc => f c _ (tl.ne c xs hc).1 (tl.ne c xs hc).2.1 (tl.ne c xs hc).2.2 hc
  have mE : ∀ c, c ∈ adE es ∨ c ∈ adS l1 ∨ c ∈ adS l2 → c ∈ (g :: dt :: ds :: (adE es ++ adS l1)) ++ adS l2 := fun c hc => by
    rcases hc with hc | hc | hc
    · exact List.mem_append_left _ (List.mem_cons_of_mem _ (List.mem_cons_of_mem _ (List.mem_cons_of_mem _ (List.mem_append_left _ hc))))
    · exact List.mem_append_left _ (List.mem_cons_of_mem _ (List.mem_cons_of_mem _ (List.mem_cons_of_mem _ (List.mem_append_right _ hc))))
    · exact List.mem_append_right _ hc
  have other : ∀ e' : EntS, (∀ c, c = e'.a ∨ c = e'.g ∨ c = e'.p → c ∈ (g :: dt :: ds :: (adE es ++ adS l1)) ++ adS l2) → StO CS H e'.a e'.g e'.p e'.s → StO CS H' e'.a e'.g e'.p e'.s := fun e' hm tl' => tl'.grow fun c u hc hu => by
    rcases hc with hc | hc | hc | ⟨xs, rfl⟩
    · exact keep c u (hm c (.inl hc)) hu
    · exact keep c u (hm c (.inr (.inl hc))) hu
    · exact keep c u (hm c (.inr (.inr hc))) hu
    · exact kt c xs hu
  have ek : kvS (l1 ++ { e with s := s } :: l2) = kvS (l1 ++ e :: l2) := by unfold kvS; rw [List.map_append, List.map_append, List.map_cons, List.map_cons]
  refine ⟨⟨dx, keep g _ (by simp) h1⟩, keep dt _ (by simp) h2, by rw [ek]; exact keep ds _ (by simp) h3, fun e' he' => ?_, fun e' he' => ?_, ?_, n1, ?_⟩
  · have i1 := in_adE he'
    refine (h4 e' he').grow fun c u hc hu => ?_
    rcases hc with rfl | rfl | rfl | ⟨xs, rfl⟩
    · exact keep _ u (mE _ (.inl i1.1)) hu
    · exact keep _ u (mE _ (.inl i1.2.1)) hu
    · exact keep _ u (mE _ (.inl i1.2.2)) hu
    · exact kt c xs hu
  · rcases List.mem_append.mp he' with hm | hm
    · have i1 := in_adS hm
      refine other e' (fun c hc => mE c (.inr (.inl ?_))) (h5 e' (List.mem_append_left _ hm))
      rcases hc with rfl | rfl | rfl
      · exact i1.1
      · exact i1.2.1
      · exact i1.2.2
    · rcases List.mem_cons.mp hm with rfl | hm
      · exact h
      · have i1 := in_adS hm
        refine other e' (fun c hc => mE c (.inr (.inr ?_))) (h5 e' (List.mem_append_right _ (List.mem_cons_of_mem _ hm)))
        rcases hc with rfl | rfl | rfl
        · exact i1.1
        · exact i1.2.1
        · exact i1.2.2
  · rw [adS_mid]; exact nd
  · rw [List.map_append, List.map_cons] at n2 ⊢; exact n2
theorem val_kvE : ∀ {l1 l2 : List Ent} {e : Ent}, ((l1 ++ e :: l2).map (·.name)).Nodup → valV (kvE (l1 ++ e :: l2)) (Sum.inr e.name) = some (.ref e.a)
  | [], l2, e, _ => valV_pos rfl
  | x :: l1, l2, e, nd => by
    rw [List.cons_append, List.map_cons, List.nodup_cons] at nd
    have ne : x.name ≠ e.name := fun z => nd.1 (z ▸ List.mem_map_of_mem (List.mem_append_right _ List.mem_cons_self))
    unfold kvE
    rw [List.cons_append, List.map_cons, valV_neg (fun z => ne (Sum.inr.inj z))]
    exact val_kvE nd.2
theorem val_kvS : ∀ {l1 l2 : List EntS} {e : EntS}, ((l1 ++ e :: l2).map (·.name)).Nodup → valV (kvS (l1 ++ e :: l2)) (Sum.inr e.name) = some (.ref e.a)
  | [], l2, e, _ => valV_pos rfl
  | x :: l1, l2, e, nd => by
    rw [List.cons_append, List.map_cons, List.nodup_cons] at nd
    have ne : x.name ≠ e.name := fun z => nd.1 (z ▸ List.mem_map_of_mem (List.mem_append_right _ List.mem_cons_self))
    unfold kvS
    rw [List.cons_append, List.map_cons, valV_neg (fun z => ne (Sum.inr.inj z))]
    exact val_kvS nd.2
/-! ### deeds at goods -/
theorem go_take {CG CT CS : Addr} {H : Hp} {g dt ds : Addr} {l1 l2 : List Ent} {e : Ent} {ss : List EntS} {h n : Int} {Kx : VK} {E : XK} (G : GoA CG CT CS H g dt ds (l1 ++ e :: l2) ss) (hh : h ∈ hs) (hq : e.t.que.length < 100) (k : ∀ H', FrG (adE (l1 ++ e :: l2)) H H' → GoA CG CT CS H' g dt ds (l1 ++ { e with t := (takeS e.t h n).2 } :: l2) ss → Kx (.bl (takeS e.t h n).1) H') : spTake CG CT [.ref g, .int h, .str e.name, .int n] H Kx E := by
  obtain ⟨⟨dx, h1⟩, h2, h3, h4, h5, nd, n1, n2⟩ := id G
  have me : e ∈ l1 ++ e :: l2 := List.mem_append_right _ List.mem_cons_self
  have i1 := in_adE me
  exact ⟨g, dx, dt, e.a, e.d, e.q, _, _, e.name, h, n, e.t, rfl, h1, h2, val_kvE n1, h4 e me, hh, hq, fun H' f t' => k H' (f.g i1.1 i1.2.1 i1.2.2) (G.tool f t')⟩
theorem go_give {CG CT CS : Addr} {H : Hp} {g dt ds : Addr} {l1 l2 : List Ent} {e : Ent} {ss : List EntS} {h n : Int} {Kx : VK} {E : XK} (G : GoA CG CT CS H g dt ds (l1 ++ e :: l2) ss) (hh : h ∈ hs) (k : ∀ H' p r sv, FrG (adE (l1 ++ e :: l2)) H H' → H r = none → H' p = some (.tup [.int (giv e.t h n), .ref r]) → H' r = some (.lst sv) → Svd "takes" H' sv (giveS e.t h n).1 → GoA CG CT CS H' g dt ds (l1 ++ { e with t := (giveS e.t h n).2 } :: l2) ss → Kx (.ref p) H') : spGive CG CT [.ref g, .int h, .str e.name, .int n] H Kx E := by
  obtain ⟨⟨dx, h1⟩, h2, h3, h4, h5, nd, n1, n2⟩ := id G
  have me : e ∈ l1 ++ e :: l2 := List.mem_append_right _ List.mem_cons_self
  have i1 := in_adE me
  exact ⟨g, dx, dt, e.a, e.d, e.q, _, _, e.name, h, n, e.t, rfl, h1, h2, val_kvE n1, h4 e me, hh, fun H' p r sv f hr hp hl sd t' => k H' p r sv (f.g i1.1 i1.2.1 i1.2.2) hr hp hl sd (G.tool f t')⟩
theorem go_put {CG CT CS : Addr} {H : Hp} {g dt ds : Addr} {es : List Ent} {l1 l2 : List EntS} {e : EntS} {h n : Int} {Kx : VK} {E : XK} (G : GoA CG CT CS H g dt ds es (l1 ++ e :: l2)) (hg : e.s.gets.length < 100) (hp : e.s.puts.length < 100) (k : ∀ H' p r sv b its s', FrG (adS (l1 ++ e :: l2)) H H' → H r = none → H' p = some (.tup [.bl b, .ref r]) → H' r = some (.lst sv) → Sv3 H' sv its → GoA CG CT CS H' g dt ds es (l1 ++ { e with s := s' } :: l2) → PutR e.s h n b its s' → Kx (.ref p) H') : spPut CG CS [.ref g, .int h, .str e.name, .int n] H Kx E := by
  obtain ⟨⟨dx, h1⟩, h2, h3, h4, h5, nd, n1, n2⟩ := id G
  have me : e ∈ l1 ++ e :: l2 := List.mem_append_right _ List.mem_cons_self
  have i1 := in_adS me
  exact ⟨g, dx, ds, e.a, e.g, e.p, _, _, e.name, h, n, e.s, rfl, h1, h3, val_kvS n2, h5 e me, hg, hp, fun H' p r sv b its s' f hr hp hl sd t' pr => k H' p r sv b its s' (f.g i1.1 i1.2.1 i1.2.2) hr hp hl sd (G.store f t') pr⟩
theorem go_get {CG CT CS : Addr} {H : Hp} {g dt ds : Addr} {es : List Ent} {l1 l2 : List EntS} {e : EntS} {h n : Int} {Kx : VK} {E : XK} (G : GoA CG CT CS H g dt ds es (l1 ++ e :: l2)) (hg : e.s.gets.length < 100) (hp : e.s.puts.length < 100) (k : ∀ H' p r sv b its s', FrG (adS (l1 ++ e :: l2)) H H' → H r = none → H' p = some (.tup [.bl b, .ref r]) → H' r = some (.lst sv) → Sv3 H' sv its → GoA CG CT CS H' g dt ds es (l1 ++ { e with s := s' } :: l2) → GetR e.s h n b its s' → Kx (.ref p) H') : spGet CG CS [.ref g, .int h, .str e.name, .int n] H Kx E := by
  obtain ⟨⟨dx, h1⟩, h2, h3, h4, h5, nd, n1, n2⟩ := id G
  have me : e ∈ l1 ++ e :: l2 := List.mem_append_right _ List.mem_cons_self
  have i1 := in_adS me
  exact ⟨g, dx, ds, e.a, e.g, e.p, _, _, e.name, h, n, e.s, rfl, h1, h3, val_kvS n2, h5 e me, hg, hp, fun H' p r sv b its s' f hr hp hl sd t' pr => k H' p r sv b its s' (f.g i1.1 i1.2.1 i1.2.2) hr hp hl sd (G.store f t') pr⟩
section
variable {P : Program} {w : World} {K : PySem.W.Frag} {mg : Str → Option Value} {base : Heap}
def spBring (CG CS : Addr) : Sp := fun vs H Q _ => ∃ (g dx ds a gg pp : Addr) (x : V) (kv : List (Key × V)) (nm : Str) (n : Int) (s : SS), vs = [.ref g, .str nm, .int n] ∧ H g = some (.ins CG dx [("by_tool", x), ("by_store", .ref ds)]) ∧ H ds = some (.dK kv) ∧ valV kv (Sum.inr nm) = some (.ref a) ∧ StO CS H a gg pp s ∧
  ∀ (H' : Hp) (p r : Addr) (sv : List V) (b : Int) (its : List (Int × Bool × Int)) (s' : SS), Fr3 a gg pp H H' → H r = none → H' p = some (.tup [.int b, .ref r]) → H' r = some (.lst sv) → Sv3 H' sv its → StO CS H' a gg pp s' → 0 ≤ b → (b ≤ n ∨ b = 0) → (b ≤ s.most - s.level ∨ b = 0) → Sbt ⟨s.level + b, s.most, s.gets, s.puts⟩ its s' → Q (.ref p) H'
theorem go_bring {CG CT CS : Addr} {H : Hp} {g dt ds : Addr} {es : List Ent} {l1 l2 : List EntS} {e : EntS} {n : Int} {Kx : VK} {E : XK} (G : GoA CG CT CS H g dt ds es (l1 ++ e :: l2)) (k : ∀ H' p r sv b its s', FrG (adS (l1 ++ e :: l2)) H H' → H r = none → H' p = some (.tup [.int b, .ref r]) → H' r = some (.lst sv) → Sv3 H' sv its → GoA CG CT CS H' g dt ds es (l1 ++ { e with s := s' } :: l2) → 0 ≤ b → (b ≤ n ∨ b = 0) → (b ≤ e.s.most - e.s.level ∨ b = 0) → Sbt ⟨e.s.level + b, e.s.most, e.s.gets, e.s.puts⟩ its s' → Kx (.ref p) H') : spBring CG CS [.ref g, .str e.name, .int n] H Kx E := by
  obtain ⟨⟨dx, h1⟩, h2, h3, h4, h5, nd, n1, n2⟩ := id G
  have me : e ∈ l1 ++ e :: l2 := List.mem_append_right _ List.mem_cons_self
  have i1 := in_adS me
  exact ⟨g, dx, ds, e.a, e.g, e.p, _, _, e.name, n, e.s, rfl, h1, h3, val_kvS n2, h5 e me, fun H' p r sv b its s' f hr hp hl sd t' b0 b1 b2 pr => k H' p r sv b its s' (f.g i1.1 i1.2.1 i1.2.2) hr hp hl sd (G.store f t') b0 b1 b2 pr⟩
end
end K60

set_option Elab.async false
set_option linter.all false
set_option maxRecDepth 100000
set_option maxHeartbeats 4000000
namespace K60
open PySem L2
/-! ### one leaves -/
def lv1 (h : Int) (e : Ent) : Ent := if 0 < getI e.t.held h then { e with t := (giveS e.t h (getI e.t.held h)).2 } else e
def lvI (h : Int) (e : Ent) : Option (Str × Int × List (Int × Int)) := if 0 < getI e.t.held h then some (e.name, getI e.t.held h, (giveS e.t h (getI e.t.held h)).1) else none
theorem lv1_name {h : Int} {e : Ent} : (lv1 h e).name = e.name ∧ (lv1 h e).a = e.a ∧ (lv1 h e).d = e.d ∧ (lv1 h e).q = e.q ∧ (lv1 h e).c = e.c := by
  unfold lv1
  split <;> exact ⟨rfl, rfl, rfl, rfl, rfl⟩
theorem giv_self {t : TS} {h : Int} : giv t h (getI t.held h) = getI t.held h := by unfold giv; split <;> rfl
/-- what is told of it: b are the places that may change -/
inductive LvL (bad : List Addr) (H : Hp) : List V → List (Str × Int × List (Int × Int)) → Prop
  | nil : LvL bad H [] []
  | cons {p r : Addr} {nm : Str} {b : Int} {sv vs : List V} {its : List (Int × Int)} {l : List (Str × Int × List (Int × Int))} : H p = some (.tup [.str nm, .int b, .ref r]) → H r = some (.lst sv) → r ∉ bad → Svd "takes" H sv its → LvL bad H vs l → LvL bad H (.ref p :: vs) ((nm, b, its) :: l)
theorem LvL.mono {bad : List Addr} {H H' : Hp} (g : ∀ c xs, H c = some (.tup xs) → H' c = some (.tup xs)) (g2 : ∀ c xs, c ∉ bad → H c = some (.lst xs) → H' c = some (.lst xs)) : ∀ {vs : List V} {l : List (Str × Int × List (Int × Int))}, LvL bad H vs l → LvL bad H' vs l
  | _, _, .nil => .nil
  | _, _, .cons h1 h2 h3 h4 r => .cons (g _ _ h1) (g2 _ _ h3 h2) h3 (h4.mono g) (r.mono g g2)
theorem LvL.snoc {bad : List Addr} {H : Hp} {p r : Addr} {nm : Str} {b : Int} {sv : List V} {its : List (Int × Int)} (h1 : H p = some (.tup [.str nm, .int b, .ref r])) (h2 : H r = some (.lst sv)) (h3 : r ∉ bad) (h4 : Svd "takes" H sv its) : ∀ {vs : List V} {l : List (Str × Int × List (Int × Int))}, LvL bad H vs l → LvL bad H (vs ++ [.ref p]) (l ++ [(nm, b, its)])
  | _, _, .nil => .cons h1 h2 h3 h4 .nil
  | _, _, .cons k1 k2 k3 k4 r => .cons k1 k2 k3 k4 (r.snoc h1 h2 h3 h4)
theorem LvL.length {bad : List Addr} {H : Hp} : ∀ {vs : List V} {l : List (Str × Int × List (Int × Int))}, LvL bad H vs l → vs.length = l.length
  | _, _, .nil => rfl
  | _, _, .cons _ _ _ _ r => by rw [List.length_cons, List.length_cons, r.length]
theorem GoA.kt {CG CT CS : Addr} {H H' : Hp} {g dt ds : Addr} {es : List Ent} {ss : List EntS} (G : GoA CG CT CS H g dt ds es ss) (f : FrG (adE es) H H') : ∀ c xs, H c = some (.tup xs) → H' c = some (.tup xs) := fun c xs hc => f c _ (fun z => by
  obtain ⟨_, _, _, h4, _⟩ := G
  obtain ⟨e, he, z⟩ := adE_mem z
  have := (h4 e he).ne c xs hc
  rcases z with rfl | rfl | rfl
  · exact this.1 rfl
  · exact this.2.1 rfl
  · exact this.2.2 rfl) hc
theorem GoA.has {CG CT CS : Addr} {H : Hp} {g dt ds : Addr} {es : List Ent} {ss : List EntS} (G : GoA CG CT CS H g dt ds es ss) : ∀ c ∈ g :: dt :: ds :: (adE es ++ adS ss), ∃ u, H c = some u := fun c hc => by
  obtain ⟨⟨dx, h1⟩, h2, h3, h4, h5, _⟩ := G
  rcases List.mem_cons.mp hc with rfl | hc
  · exact ⟨_, h1⟩
  rcases List.mem_cons.mp hc with rfl | hc
  · exact ⟨_, h2⟩
  rcases List.mem_cons.mp hc with rfl | hc
  · exact ⟨_, h3⟩
  rcases List.mem_append.mp hc with hc | hc
  · exact adE_has h4 c hc
  · exact adS_has h5 c hc
theorem GoA.grow {CG CT CS : Addr} {H H' : Hp} {g dt ds : Addr} {es : List Ent} {ss : List EntS} (G : GoA CG CT CS H g dt ds es ss) (k : ∀ c u, (c ∈ g :: dt :: ds :: (adE es ++ adS ss) ∨ ∃ xs, u = HO.tup xs) → H c = some u → H' c = some u) : GoA CG CT CS H' g dt ds es ss := by
  obtain ⟨⟨dx, h1⟩, h2, h3, h4, h5, h6⟩ := G
  have mE : ∀ {c}, c ∈ adE es → c ∈ g :: dt :: ds :: (adE es ++ adS ss) := fun h => List.mem_cons_of_mem _ (List.mem_cons_of_mem _ (List.mem_cons_of_mem _ (List.mem_append_left _ h)))
  have mS : ∀ {c}, c ∈ adS ss → c ∈ g :: dt :: ds :: (adE es ++ adS ss) := fun h => List.mem_cons_of_mem _ (List.mem_cons_of_mem _ (List.mem_cons_of_mem _ (List.mem_append_right _ h)))
  refine ⟨⟨dx, k _ _ (.inl (by simp)) h1⟩, k _ _ (.inl (by simp)) h2, k _ _ (.inl (by simp)) h3, fun e he => (h4 e he).grow fun c u hc hu => k c u ?_ hu, fun e he => (h5 e he).grow fun c u hc hu => k c u ?_ hu, h6⟩
  · have i1 := in_adE he
    rcases hc with rfl | rfl | rfl | hc
    · exact .inl (mE i1.1)
    · exact .inl (mE i1.2.1)
    · exact .inl (mE i1.2.2)
    · exact .inr hc
  · have i1 := in_adS he
    rcases hc with rfl | rfl | rfl | hc
    · exact .inl (mS i1.1)
    · exact .inl (mS i1.2.1)
    · exact .inl (mS i1.2.2)
    · exact .inr hc
theorem adE_map {h : Int} : ∀ es : List Ent, adE (es.map (lv1 h)) = adE es
  | [] => rfl
  | e :: es => by
    obtain ⟨_, h1, h2, h3, _⟩ := lv1_name (h := h) (e := e)
    have := adE_map (h := h) es
    unfold adE at this ⊢
    rw [List.map_cons, List.flatMap_cons, List.flatMap_cons, this, h1, h2, h3]
theorem adE_app {l1 l2 : List Ent} : adE (l1 ++ l2) = adE l1 ++ adE l2 := by unfold adE; rw [List.flatMap_append]
section
variable {P : Program} {w : World} {K : PySem.W.Frag} {mg : Str → Option Value} {base : Heap}
def LeI (CG CT CS g dt ds lf : Addr) (h : Int) (es : List Ent) (ss : List EntS) (H : Hp) (i : Nat) (σ : St) (H' : Hp) : Prop := ∃ (vs : List V) (v3 v4 v5 v6 : Option V), σ = [some (.ref g), some (.int h), some (.ref lf), v3, v4, v5, v6] ∧ FrG (adE es) H H' ∧ GoA CG CT CS H' g dt ds ((es.take i).map (lv1 h) ++ es.drop i) ss ∧ H' lf = some (.lst vs) ∧ LvL (lf :: adE es) H' vs ((es.take i).filterMap (lvI h))
def spLeave (CG CT CS : Addr) : Sp := fun vs H Q _ => ∃ (g dt ds : Addr) (es : List Ent) (ss : List EntS) (h : Int), vs = [.ref g, .int h] ∧ GoA CG CT CS H g dt ds es ss ∧ h ∈ hs ∧ es.length ≤ 10 ∧
  ∀ (H' : Hp) (lf : Addr) (vs : List V), FrG (adE es) H H' → H lf = none → GoA CG CT CS H' g dt ds (es.map (lv1 h)) ss → H' lf = some (.lst vs) → LvL (lf :: adE es) H' vs (es.filterMap (lvI h)) → Q (.ref lf) H'
theorem ok_leave {CG CT CS : Addr} (D : MethAt K CG "leave" "Goods.leave" s_Goods_leave ["self", "hand"]) (CL_Goods : Cls K CG) (N_Goods_by_tool : NoAttr K CG "by_tool") (CL_Tool : Cls K CT) (N_Tool_held : NoAttr K CT "held") (G_Goods_give : OkM P w K mg base 3 CG "give" ["self", "hand", "name", "n"] (spGive CG CT)) (hlist : mg "list" = none) : OkM P w K mg base 4 CG "leave" ["self", "hand"] (spLeave CG CT CS) := by
  refine D.ok CL_Goods sc_Goods_leave (fun vs H Q E h => ?_) (fun f cdv A outer s H vs Q E hr h => ?_)
  · obtain ⟨_, _, _, _, _, _, rfl, _⟩ := h; rfl
  obtain ⟨g, dt, ds, es, ss, h, rfl, G, hh, le, q⟩ := h
  have hu := hu_of hr
  have big : 100000 ≤ sizeLine := by unfold sizeLine; decide
  refine ⟨_, (pss_cons (ps_set (i := 2) sc_Goods_leave.nd rfl (Or.inl rfl) (pe_lstG pa_nil))
  (pss_cons (ps_for PassesOwn.never rfl (pi_list (pe_cTy call_listK rfl hlist (by decide +kernel) (pa_c (pe_fldG CL_Goods N_Goods_by_tool (pv 0)) pa_nil))) (pg_name (i := 3) sc_Goods_leave.nd rfl (Or.inl rfl))
  (pss_cons (ps_set (i := 4) sc_Goods_leave.nd rfl (Or.inl rfl) (pe_dgetDG hu (pe_fldG CL_Tool N_Tool_held (pe_dgetG hu (pe_fldG CL_Goods N_Goods_by_tool (pv 0)) (pv 3) (fun _ _ => rfl))) (pv 1) pe_int ⟨rfl, rfl, rfl, rfl⟩))
  (pss_one (ps_if (pt_cmpR op_gt (pv 4) pe_int (nomark _))
  (pss_cons (ps_asg (pe_methG G_Goods_give hr (pv 0) (pa_c (pv 1) (pa_c (pv 3) (pa_c (pv 4) pa_nil)))) (pg_tupG 2 rfl (pgs_cons (pg_name (i := 5) sc_Goods_leave.nd rfl (Or.inl rfl)) (pgs_cons (pg_name (i := 6) sc_Goods_leave.nd rfl (Or.inl rfl)) pgs_nil))))
  (pss_one (ps_expr (pe_appG (pv 2) (pe_tupG (pa_c (pv 3) (pa_c (pv 5) (pa_c (pv 6) pa_nil))))))))
  pss_nil))))
  (pss_one (ps_ret (pv 2))))), ?_⟩
  walk_at "rd"
  intro lf H1 hlf g1 h1
  have G1 := G.same g1
  obtain ⟨⟨dx, e1⟩, e2, _⟩ := id G1
  refine tfor_in ?_
  simp only [iList]
  walk_at "rd"
  have lk : (kvE es).length = es.length := by unfold kvE; rw [List.length_map]
  refine ⟨by omega, fun l H2 hl g2 h2 => ?_⟩
  have ek : (kvE es).map (fun kv => kV kv.1) = es.map (fun e => V.str e.name) := by
    unfold kvE
    rw [List.map_map]
    rfl
  rw [ek] at h2
  clear e1 e2
  refine ⟨⟨_, SqL.of h2⟩, ?_⟩
  have G2 := G1.same g2
  have nlE : ∀ {c : Addr}, H1 c = none → c ∉ adE es := fun {c} hc z => by
    obtain ⟨_, _, _, h4, _⟩ := G1
    obtain ⟨u, hu⟩ := adE_has h4 c z
    rw [hc] at hu; cases hu
  have nlfE : lf ∉ adE es := fun z => by
    obtain ⟨_, _, _, h4, _⟩ := G
    obtain ⟨u, hu⟩ := adE_has h4 lf z
    rw [hlf] at hu; cases hu
  have nll : l ≠ lf := (ne_of_none h1 hl).symm
  refine for_list (xs := es.map (fun e => V.str e.name)) (fun i σ H' => LeI CG CT CS g dt ds lf h es ss H i σ H' ∧ H' l = some (.lst (es.map fun e => V.str e.name))) ?_ ?_ ?_ ?_
  · refine ⟨?_, h2⟩
    unfold LeI
    exact ⟨[], _, _, _, _, rfl, fun c u _ hc => g2 _ _ (g1 _ _ hc), G2, g2 _ _ h1, .nil⟩
  · rintro i σ H3 hi ⟨_, h3⟩
    exact SqL.of h3
  · rintro i x σ H3 hx ⟨z, h3⟩
    unfold LeI at z
    obtain ⟨vs, v3, v4, v5, v6, rfl, f3, G3, hv3, lv3⟩ := z
    obtain ⟨e, he, rfl⟩ : ∃ e, es[i]? = some e ∧ V.str e.name = x := by
      rw [List.getElem?_map] at hx
      cases z : es[i]? with
      | none => rw [z] at hx; cases hx
      | some e => rw [z] at hx; cases hx; exact ⟨e, rfl, rfl⟩
    have hi : i < es.length := (List.getElem?_eq_some_iff.mp he).1
    have ed : es.drop i = e :: es.drop (i + 1) := by
      obtain ⟨l, e'⟩ := List.getElem?_eq_some_iff.mp he
      rw [← e']
      exact List.drop_eq_getElem_cons l
    rw [ed] at G3
    obtain ⟨⟨dx, e1⟩, e2, _, e4, _, _, n1, _⟩ := id G3
    have me : e ∈ (es.take i).map (lv1 h) ++ e :: es.drop (i + 1) := List.mem_append_right _ List.mem_cons_self
    have vE := val_kvE n1
    obtain ⟨dx', qs', k1, k2, k3, k4, k5, k6, k7⟩ := id (e4 e me)
    clear h1 h2
    walk_at "rd"
    rw [hk_get]
    have ea : adE ((es.take i).map (lv1 h) ++ e :: es.drop (i + 1)) = adE es := by
      rw [adE_app, adE_map, ← ed, ← adE_app, List.take_append_drop]
    have et : (es.take (i + 1)).map (lv1 h) ++ es.drop (i + 1) = (es.take i).map (lv1 h) ++ lv1 h e :: es.drop (i + 1) := by
      rw [take_snoc he, List.map_append, List.append_assoc]; rfl
    have ef : (es.take (i + 1)).filterMap (lvI h) = (es.take i).filterMap (lvI h) ++ (lvI h e).toList := by
      rw [take_snoc he, List.filterMap_append]
      congr 1
    refine ⟨⟨_, rfl⟩, _, rfl, ite2 (fun c => ?_) fun c => ?_⟩
    · refine go_give G3 hh fun H4 pr r sv f4 hr4 h4 hl4 sd4 G4 => ?_
      have kt4 := G3.kt f4
      rw [ea] at f4
      rw [giv_self] at h4
      have hv4 := f4 lf _ nlfE hv3
      have lv := lv3.length
      have lf2 := List.length_filterMap_le (lvI h) (es.take i)
      rw [List.length_take] at lf2
      refine ⟨pr, rfl, _, h4, rfl, _, _, rfl, _, _, rfl, rfl, vs, hv4, fun p5 H5 hp5 g5 h5 => ⟨vs, g5 _ _ hv4, by omega, fun H6 mu => ⟨?_, ?_⟩⟩⟩
      · unfold LeI
        have nr : r ∉ lf :: adE es := fun z => by
          rcases List.mem_cons.mp z with z | z
          · rw [z, hv3] at hr4; cases hr4
          · rw [← ea] at z
            obtain ⟨u, hu⟩ := adE_has e4 r z
            rw [hr4] at hu; cases hu
        have np5 : p5 ≠ lf := (ne_of_none hv4 hp5).symm
        have S35 : ∀ c xs, H3 c = some (.tup xs) → H5 c = some (.tup xs) := fun c xs hc => g5 _ _ (kt4 c xs hc)
        refine ⟨vs ++ [.ref p5], _, _, _, _, rfl, fun c u nc hc => mu.old (g5 _ _ (f4 c u nc (f3 c u nc hc))) (ne_of_none hc hlf), ?_, mu.at_, ?_⟩
        · rw [et]
          have e1 : lv1 h e = { e with t := (giveS e.t h (getI e.t.held h)).2 } := by unfold lv1; rw [if_pos c]
          rw [e1]
          refine (G4.same g5).grow fun c u hc hu => mu.old hu (fun z => ?_)
          rcases hc with hc | ⟨xs, rfl⟩
          · have ad : adE ((es.take i).map (lv1 h) ++ { e with t := (giveS e.t h (getI e.t.held h)).2 } :: es.drop (i + 1)) = adE es := by rw [adE_mid, ← ea, adE_mid]
            rw [ad] at hc
            obtain ⟨u0, hu0⟩ := G.has c hc
            rw [z, hlf] at hu0; cases hu0
          · rw [z, g5 _ _ hv4] at hu; cases hu
        · rw [ef]
          have e2 : lvI h e = some (e.name, getI e.t.held h, (giveS e.t h (getI e.t.held h)).1) := by unfold lvI; rw [if_pos c]
          rw [e2]
          refine LvL.mono (fun c xs hc => mu.old hc (fun z => by rw [z, g5 _ _ hv4] at hc; cases hc)) (fun c xs nc hc => mu.old hc (fun z => nc (by rw [z]; exact List.mem_cons_self))) (LvL.snoc h5 (g5 _ _ hl4) nr (sd4.mono fun c xs hc => g5 _ _ hc) (lv3.mono S35 fun c xs nc hc => g5 _ _ (f4 c _ (fun z => nc (List.mem_cons_of_mem _ z)) hc)))
      · exact mu.old (g5 _ _ (f4 l _ (nlE hl) h3)) nll
    · unfold LeI
      refine ⟨vs, _, _, _, _, rfl, f3, ?_, hv3, ?_⟩
      · rw [et]
        have e1 : lv1 h e = e := by unfold lv1; rw [if_neg c]
        rw [e1]
        exact G3
      · rw [ef]
        have e2 : lvI h e = none := by unfold lvI; rw [if_neg c]
        rw [e2]
        show LvL _ _ _ (_ ++ [])
        rw [List.append_nil]
        exact lv3
  · rintro σ H3 ⟨z, h3⟩
    unfold LeI at z
    obtain ⟨vs, v3, v4, v5, v6, rfl, f3, G3, hv3, lv3⟩ := z
    rw [List.length_map, List.take_of_length_le (Nat.le_refl _), List.drop_of_length_le (Nat.le_refl _), List.append_nil] at G3
    rw [List.length_map, List.take_of_length_le (Nat.le_refl _)] at lv3
    clear h1 h2
    walk_at "rd"
    try exact q H3 lf vs f3 hlf G3 hv3 lv3
end
end K60

set_option Elab.async false
set_option linter.all false
set_option maxRecDepth 100000
set_option maxHeartbeats 4000000
namespace K60.Dm
open PySem L2
/-! who is doomed: the one set that is left -/
structure Tool where
  free : Int
  hold : List (Int × Int)
  que : List (Int × Int)
def pcs (t : Tool) : Int := t.free + (t.hold.map (·.2)).sum
def lostN (t : Tool) (S : Int → Bool) : Int := ((t.hold.filter fun p => S p.1).map (·.2)).sum
def rm (S : Int → Bool) (h : Int) : Int → Bool := fun x => S x && !decide (x = h)
inductive Step (ts : List Tool) (S : Int → Bool) (h : Int) : Prop
  | mk (t : Tool) (pre : List (Int × Int)) (n : Int) (post : List (Int × Int)) : t ∈ ts → t.que = pre ++ (h, n) :: post → (∀ p ∈ pre, S p.1 = false) → S h = true → n ≤ pcs t - lostN t S → Step ts S h
def Stuck (ts : List Tool) (S : Int → Bool) : Prop := ∀ h, ¬ Step ts S h
inductive Reach (ts : List Tool) : (Int → Bool) → (Int → Bool) → Prop
  | refl (S : Int → Bool) : Reach ts S S
  | step {S S' : Int → Bool} {h : Int} : Step ts S h → Reach ts (rm S h) S' → Reach ts S S'
theorem Reach.trans {ts : List Tool} {A B C : Int → Bool} (h : Reach ts A B) (h' : Reach ts B C) : Reach ts A C := by
  induction h with
  | refl _ => exact h'
  | step s _ ih => exact .step s (ih h')
theorem Reach.sub {ts : List Tool} {A B : Int → Bool} (h : Reach ts A B) : ∀ x, B x = true → A x = true := by
  induction h with
  | refl _ => exact fun _ z => z
  | step s _ ih =>
    intro x hx
    have := ih x hx
    unfold rm at this
    rw [Bool.and_eq_true] at this
    exact this.1
theorem sum_sub {S T : Int → Bool} (h : ∀ x, T x = true → S x = true) : ∀ l : List (Int × Int), (∀ p ∈ l, 0 ≤ p.2) → ((l.filter fun p => T p.1).map (·.2)).sum ≤ ((l.filter fun p => S p.1).map (·.2)).sum
  | [], _ => by simp
  | p :: l, hp => by
    have ih := sum_sub h l fun q hq => hp q (List.mem_cons_of_mem _ hq)
    have h0 := hp p List.mem_cons_self
    rw [List.filter_cons, List.filter_cons]
    cases hT : T p.1 with
    | true =>
      rw [h _ hT]
      simp only [if_true, List.map_cons, List.sum_cons]
      omega
    | false =>
      simp only [Bool.false_eq_true, if_false]
      cases hS : S p.1 with
      | true => simp only [if_true, List.map_cons, List.sum_cons]; omega
      | false => simp only [Bool.false_eq_true, if_false]; exact ih
theorem stuck_sub {ts : List Tool} (pos : ∀ t ∈ ts, ∀ p ∈ t.hold, 0 ≤ p.2) {T : Int → Bool} (hT : Stuck ts T) {A B : Int → Bool} (h : Reach ts A B) : (∀ x, T x = true → A x = true) → ∀ x, T x = true → B x = true := by
  induction h with
  | refl _ => exact fun z => z
  | @step S S' h s _ ih =>
    intro sub
    refine ih fun x hx => ?_
    unfold rm
    rw [sub x hx, Bool.true_and]
    by_cases e : x = h
    · subst e
      obtain ⟨t, pre, n, post, ht, eq, hp, _, hn⟩ := s
      refine absurd (Step.mk t pre n post ht eq (fun p hp' => ?_) hx ?_) (hT x)
      · cases z : T p.1 with
        | false => rfl
        | true => exact absurd (sub _ z) (by rw [hp p hp']; exact Bool.false_ne_true)
      · have := sum_sub sub t.hold (pos t ht)
        unfold lostN at hn ⊢
        omega
    · rw [decide_eq_false e]; rfl
theorem stuck_eq {ts : List Tool} (pos : ∀ t ∈ ts, ∀ p ∈ t.hold, 0 ≤ p.2) {S A B : Int → Bool} (ha : Reach ts S A) (hb : Reach ts S B) (sa : Stuck ts A) (sb : Stuck ts B) : A = B := by
  funext x
  have h1 := stuck_sub pos sa hb ha.sub x
  have h2 := stuck_sub pos sb ha hb.sub x
  cases hA : A x with
  | true => rw [h1 hA]
  | false =>
    cases hB : B x with
    | false => rfl
    | true => rw [h2 hB] at hA; cases hA
/-! ### the program's way -/
def inL (L : List Int) : Int → Bool := fun x => decide (x ∈ L)
def cut (L : List Int) (h : Int) : List Int := L.filter fun x => !decide (x = h)
theorem cut_in {L : List Int} {h : Int} : inL (cut L h) = rm (inL L) h := by
  funext x
  unfold inL cut rm
  rw [Bool.eq_iff_iff, decide_eq_true_eq, List.mem_filter, Bool.and_eq_true, decide_eq_true_eq]
def fsGo (t : Tool) : List (Int × Int) → List Int → List Int
  | [], L => L
  | (h, n) :: q, L => if h ∈ L then (if n > pcs t - lostN t (inL L) then L else fsGo t q (cut L h)) else fsGo t q L
theorem fsGo_cons {t : Tool} {h n : Int} {q : List (Int × Int)} {L : List Int} : fsGo t ((h, n) :: q) L = if h ∈ L then (if n > pcs t - lostN t (inL L) then L else fsGo t q (cut L h)) else fsGo t q L := rfl
theorem fsGo_reach {ts : List Tool} {t : Tool} (ht : t ∈ ts) : ∀ (q pre : List (Int × Int)) (L : List Int), t.que = pre ++ q → (∀ p ∈ pre, inL L p.1 = false) → Reach ts (inL L) (inL (fsGo t q L))
  | [], pre, L, _, _ => .refl _
  | (h, n) :: q, pre, L, e, hp => by
    have e' : t.que = (pre ++ [(h, n)]) ++ q := by rw [e, List.append_assoc]; rfl
    unfold fsGo
    by_cases c : h ∈ L
    · rw [if_pos c]
      by_cases d : n > pcs t - lostN t (inL L)
      · rw [if_pos d]; exact .refl _
      · rw [if_neg d]
        have hin : inL L h = true := decide_eq_true c
        refine .step (h := h) (.mk t pre n q ht e hp hin (by omega)) ?_
        rw [← cut_in]
        refine fsGo_reach ht q (pre ++ [(h, n)]) (cut L h) e' fun p hp' => ?_
        rw [cut_in]
        unfold rm
        rcases List.mem_append.mp hp' with z | z
        · rw [hp p z]; rfl
        · rw [List.mem_singleton.mp z, decide_eq_true rfl, Bool.not_true, Bool.and_false]
    · rw [if_neg c]
      refine fsGo_reach ht q (pre ++ [(h, n)]) L e' fun p hp' => ?_
      rcases List.mem_append.mp hp' with z | z
      · exact hp p z
      · rw [List.mem_singleton.mp z]; exact decide_eq_false c
theorem cut_lt {L : List Int} {h : Int} (c : h ∈ L) : (cut L h).length < L.length := by
  unfold cut
  refine Nat.lt_of_le_of_ne (List.length_filter_le _ _) fun e => ?_
  have := List.length_filter_eq_length_iff.mp e h c
  simp at this
theorem fsGo_le (t : Tool) : ∀ (q : List (Int × Int)) (L : List Int), (fsGo t q L).length ≤ L.length
  | [], L => Nat.le_refl _
  | (h, n) :: q, L => by
    unfold fsGo
    by_cases c : h ∈ L
    · rw [if_pos c]
      by_cases d : n > pcs t - lostN t (inL L)
      · rw [if_pos d]; exact Nat.le_refl _
      · rw [if_neg d]
        exact Nat.le_trans (fsGo_le t q _) (Nat.le_of_lt (cut_lt c))
    · rw [if_neg c]; exact fsGo_le t q L
/-- a pass over one tool that changes nothing: no step by this tool -/
theorem fsGo_same {t : Tool} : ∀ (q : List (Int × Int)) (L : List Int), (fsGo t q L).length = L.length → fsGo t q L = L ∧ ∀ pre h n post, q = pre ++ (h, n) :: post → (∀ p ∈ pre, inL L p.1 = false) → inL L h = true → ¬ n ≤ pcs t - lostN t (inL L)
  | [], L, _ => ⟨rfl, fun pre h n post e => by cases pre <;> cases e⟩
  | (h, n) :: q, L, hl => by
    unfold fsGo at hl ⊢
    by_cases c : h ∈ L
    · rw [if_pos c] at hl ⊢
      by_cases d : n > pcs t - lostN t (inL L)
      · rw [if_pos d]
        refine ⟨rfl, fun pre h' n' post e hp hh => ?_⟩
        cases pre with
        | nil => cases e; omega
        | cons p pre =>
          cases e
          have := hp _ List.mem_cons_self
          rw [show inL L h = true from decide_eq_true c] at this
          cases this
      · rw [if_neg d] at hl
        have h1 := fsGo_le t q (cut L h)
        have h2 := cut_lt c
        omega
    · rw [if_neg c] at hl ⊢
      obtain ⟨e1, e2⟩ := fsGo_same q L hl
      refine ⟨e1, fun pre h' n' post e hp hh => ?_⟩
      cases pre with
      | nil =>
        cases e
        exact absurd (of_decide_eq_true hh) c
      | cons p pre =>
        cases e
        exact e2 pre h' n' post rfl (fun p hp' => hp p (List.mem_cons_of_mem _ hp')) hh
theorem fsGo_sub (t : Tool) : ∀ (q : List (Int × Int)) (L : List Int), (fsGo t q L).Sublist L
  | [], L => List.Sublist.refl _
  | (h, n) :: q, L => by
    unfold fsGo
    by_cases c : h ∈ L
    · rw [if_pos c]
      by_cases d : n > pcs t - lostN t (inL L)
      · rw [if_pos d]; exact List.Sublist.refl _
      · rw [if_neg d]
        exact (fsGo_sub t q _).trans (List.filter_sublist ..)
    · rw [if_neg c]; exact fsGo_sub t q L
def pass (ts : List Tool) (L : List Int) : List Int := ts.foldl (fun L t => fsGo t t.que L) L
theorem pass_reach {ts0 : List Tool} : ∀ (ts : List Tool) (L : List Int), (∀ t ∈ ts, t ∈ ts0) → Reach ts0 (inL L) (inL (pass ts L))
  | [], L, _ => .refl _
  | t :: ts, L, h => by
    refine (fsGo_reach (h t List.mem_cons_self) t.que [] L rfl fun p hp => absurd hp List.not_mem_nil).trans ?_
    exact pass_reach ts _ fun u hu => h u (List.mem_cons_of_mem _ hu)
theorem pass_le : ∀ (ts : List Tool) (L : List Int), (pass ts L).length ≤ L.length
  | [], L => Nat.le_refl _
  | t :: ts, L => Nat.le_trans (pass_le ts _) (fsGo_le t t.que L)
theorem pass_sub : ∀ (ts : List Tool) (L : List Int), (pass ts L).Sublist L
  | [], L => List.Sublist.refl _
  | t :: ts, L => (pass_sub ts _).trans (fsGo_sub t t.que L)
theorem pass_same : ∀ (ts : List Tool) (L : List Int), (pass ts L).length = L.length → pass ts L = L ∧ ∀ t ∈ ts, ∀ pre h n post, t.que = pre ++ (h, n) :: post → (∀ p ∈ pre, inL L p.1 = false) → inL L h = true → ¬ n ≤ pcs t - lostN t (inL L)
  | [], L, _ => ⟨rfl, fun t ht => absurd ht List.not_mem_nil⟩
  | t :: ts, L, hl => by
    have h1 : (pass ts (fsGo t t.que L)).length = L.length := hl
    have h2 := pass_le ts (fsGo t t.que L)
    have h3 := fsGo_le t t.que L
    obtain ⟨e1, e2⟩ := fsGo_same (t := t) t.que L (by omega)
    rw [e1] at h1
    obtain ⟨e3, e4⟩ := pass_same ts L h1
    refine ⟨?_, fun u hu => ?_⟩
    · show pass ts (fsGo t t.que L) = L
      rw [e1, e3]
    · rcases List.mem_cons.mp hu with rfl | hu
      · exact e2
      · exact e4 u hu
theorem pass_stuck {ts : List Tool} {L : List Int} (h : (pass ts L).length = L.length) : Stuck ts (inL L) := fun x s => by
  obtain ⟨t, pre, n, post, ht, e, hp, hh, hn⟩ := s
  exact (pass_same ts L h).2 t ht pre x n post e hp hh hn
/-! ### the law's way -/
def notIn (Q F : List Int) : Int → Bool := fun x => decide (x ∈ Q) && !decide (x ∈ F)
def dueOne (Q : List Int) (t : Tool) (F : List Int) : List Int := match t.que.filter fun p => !decide (p.1 ∈ F) with
  | [] => F
  | (h, n) :: _ => if n ≤ pcs t - lostN t (notIn Q F) then F ++ [h] else F
theorem filter_head {q : List (Int × Int)} {f : Int × Int → Bool} {p : Int × Int} {r : List (Int × Int)} (h : q.filter f = p :: r) : ∃ pre post, q = pre ++ p :: post ∧ (∀ x ∈ pre, f x = false) ∧ f p = true := by
  induction q with
  | nil => cases h
  | cons x q ih =>
    rw [List.filter_cons] at h
    cases hf : f x with
    | true =>
      rw [hf, if_pos rfl] at h
      cases h
      exact ⟨[], q, rfl, fun y hy => absurd hy List.not_mem_nil, hf⟩
    | false =>
      rw [hf, if_neg Bool.false_ne_true] at h
      obtain ⟨pre, post, rfl, h1, h2⟩ := ih h
      exact ⟨x :: pre, post, rfl, fun y hy => (List.mem_cons.mp hy).elim (fun e => e ▸ hf) (h1 y), h2⟩
theorem dueOne_cases {Q : List Int} {ts : List Tool} {t : Tool} {F : List Int} (ht : t ∈ ts) (hq : ∀ p ∈ t.que, p.1 ∈ Q) : (dueOne Q t F = F ∧ ∀ pre h n post, t.que = pre ++ (h, n) :: post → (∀ p ∈ pre, notIn Q F p.1 = false) → notIn Q F h = true → ¬ n ≤ pcs t - lostN t (notIn Q F)) ∨
    ∃ h, dueOne Q t F = F ++ [h] ∧ Step ts (notIn Q F) h ∧ h ∈ Q ∧ h ∉ F := by
  unfold dueOne
  cases hf : t.que.filter fun p => !decide (p.1 ∈ F) with
  | nil =>
    refine .inl ⟨rfl, fun pre h n post e hp hh hn => ?_⟩
    have hm : (h, n) ∈ t.que := by rw [e]; simp
    have := List.filter_eq_nil_iff.mp hf (h, n) hm
    unfold notIn at hh
    rw [Bool.and_eq_true] at hh
    exact this hh.2
  | cons p r =>
    obtain ⟨h, n⟩ := p
    obtain ⟨pre, post, e, hp, hx⟩ := filter_head hf
    have hm : (h, n) ∈ t.que := by rw [e]; simp
    have hQ := hq _ hm
    have hF : h ∉ F := by simpa using hx
    have hh : notIn Q F h = true := by unfold notIn; rw [decide_eq_true hQ, decide_eq_false hF]; rfl
    have hpre : ∀ x ∈ pre, notIn Q F x.1 = false := fun x hx => by
      have := hp x hx
      unfold notIn
      rw [Bool.not_eq_false', decide_eq_true_eq] at this
      rw [decide_eq_true this, Bool.not_true, Bool.and_false]
    by_cases c : n ≤ pcs t - lostN t (notIn Q F)
    · refine .inr ⟨h, by dsimp only; rw [if_pos c], .mk t pre n post ht e hpre hh c, hQ, hF⟩
    · refine .inl ⟨by dsimp only; rw [if_neg c], fun pre' h' n' post' e' hp' hh' hn' => ?_⟩
      rw [e] at e'
      have key : ∀ (a b : List (Int × Int)) (x y : Int × Int) (c d : List (Int × Int)), a ++ x :: c = b ++ y :: d → (∀ z ∈ a, notIn Q F z.1 = false) → (∀ z ∈ b, notIn Q F z.1 = false) → notIn Q F x.1 = true → notIn Q F y.1 = true → x = y := by
        intro a
        induction a with
        | nil =>
          intro b x y c d e h1 h2 h3 h4
          cases b with
          | nil => cases e; rfl
          | cons z b => cases e; rw [h2 _ List.mem_cons_self] at h3; cases h3
        | cons z a ih =>
          intro b x y c d e h1 h2 h3 h4
          cases b with
          | nil => cases e; rw [h1 _ List.mem_cons_self] at h4; cases h4
          | cons w b =>
            obtain ⟨e0, e1⟩ := List.cons.inj (show z :: (a ++ x :: c) = w :: (b ++ y :: d) from e)
            exact ih b x y c d e1 (fun z hz => h1 z (List.mem_cons_of_mem _ hz)) (fun z hz => h2 z (List.mem_cons_of_mem _ hz)) h3 h4
      have := key pre pre' (h, n) (h', n') post post' e' hpre hp' hh hh'
      cases this
      exact c hn'
theorem notIn_snoc {Q F : List Int} {h : Int} : notIn Q (F ++ [h]) = rm (notIn Q F) h := by
  funext x
  unfold notIn rm
  rw [Bool.eq_iff_iff]
  simp only [List.mem_append, List.mem_singleton, Bool.and_eq_true, decide_eq_true_eq, Bool.not_eq_true', decide_eq_false_iff_not, not_or]
  exact ⟨fun ⟨a, b, c⟩ => ⟨⟨a, b⟩, c⟩, fun ⟨⟨a, b⟩, c⟩ => ⟨a, b, c⟩⟩
/-! ### sorted -/
theorem sorted_eq : ∀ {a b : List Int}, a.Perm b → a.Pairwise (· ≤ ·) → b.Pairwise (· ≤ ·) → a = b
  | [], b, h, _, _ => h.nil_eq
  | x :: a, b, h, ha, hb => by
    cases b with
    | nil => exact absurd h.length_eq (by simp)
    | cons y b =>
      have hx := (List.pairwise_cons.mp ha).1
      have hy := (List.pairwise_cons.mp hb).1
      have e : x = y := by
        have m1 : y ∈ x :: a := h.mem_iff.mpr List.mem_cons_self
        have m2 : x ∈ y :: b := h.mem_iff.mp List.mem_cons_self
        have l1 : x ≤ y := (List.mem_cons.mp m1).elim (fun e => by omega) (hx y)
        have l2 : y ≤ x := (List.mem_cons.mp m2).elim (fun e => by omega) (hy x)
        omega
      subst e
      rw [sorted_eq (List.Perm.cons_inv h) (List.pairwise_cons.mp ha).2 (List.pairwise_cons.mp hb).2]
theorem perm_of {a b : List Int} (ha : a.Nodup) (hb : b.Nodup) (h : ∀ x, x ∈ a ↔ x ∈ b) : a.Perm b := by
  induction a generalizing b with
  | nil =>
    cases b with
    | nil => exact .nil
    | cons y b => exact absurd ((h y).mpr List.mem_cons_self) List.not_mem_nil
  | cons x a ih =>
    have hx : x ∈ b := (h x).mp List.mem_cons_self
    have hn := List.nodup_cons.mp ha
    have e := List.perm_cons_erase hx
    refine (List.Perm.cons x (ih hn.2 (hb.erase x) fun y => ?_)).trans e.symm
    rw [List.Nodup.mem_erase_iff hb]
    constructor
    · intro hy
      exact ⟨fun z => hn.1 (z ▸ hy), (h y).mp (List.mem_cons_of_mem _ hy)⟩
    · rintro ⟨h1, h2⟩
      exact ((List.mem_cons.mp ((h y).mpr h2))).resolve_left h1
/-- both ways, sorted: the same -/
theorem both {ts : List Tool} (pos : ∀ t ∈ ts, ∀ p ∈ t.hold, 0 ≤ p.2) {Q F L a b : List Int} (nd : Q.Nodup) (ndL : L.Nodup) (h1 : Reach ts (inL Q) (inL L)) (h2 : Stuck ts (inL L)) (h3 : Reach ts (inL Q) (notIn Q F)) (h4 : Stuck ts (notIn Q F))
    (pa : a.Perm L) (sa : a.Pairwise (· ≤ ·)) (pb : b.Perm (Q.filter fun x => !decide (x ∈ F))) (sb : b.Pairwise (· ≤ ·)) : a = b := by
  have e := stuck_eq pos h1 h3 h2 h4
  refine sorted_eq (pa.trans (List.Perm.trans ?_ pb.symm)) sa sb
  refine perm_of ndL (nd.sublist (List.filter_sublist ..)) fun x => ?_
  have := congrFun e x
  unfold inL notIn at this
  rw [List.mem_filter]
  rw [Bool.eq_iff_iff, Bool.and_eq_true, decide_eq_true_eq, decide_eq_true_eq] at this
  exact this
/-! ### all others let go, then each that is served -/
def giveT (h : Int) (t : Tool) : Tool := ⟨t.free + ((t.hold.filter fun p => decide (p.1 = h)).map (·.2)).sum, t.hold.filter fun p => !decide (p.1 = h), t.que⟩
/-- by S: who still holds -/
def gvS (S : Int → Bool) (t : Tool) : Tool := ⟨t.free + ((t.hold.filter fun p => !S p.1).map (·.2)).sum, t.hold.filter fun p => S p.1, t.que⟩
/-- by S: who still holds, and stands in a queue -/
def stT (S : Int → Bool) (t : Tool) : Tool := ⟨t.free + ((t.hold.filter fun p => !S p.1).map (·.2)).sum, t.hold.filter fun p => S p.1, t.que.filter fun p => S p.1⟩
theorem fil_rm {S : Int → Bool} {h : Int} : ∀ l : List (Int × Int), (l.filter fun p => S p.1).filter (fun p => !decide (p.1 = h)) = l.filter fun p => rm S h p.1 := fun l => by
  rw [List.filter_filter]
  refine List.filter_congr fun p _ => ?_
  unfold rm
  rw [Bool.and_comm]
theorem sum_rm {S : Int → Bool} {h : Int} : ∀ l : List (Int × Int), ((l.filter fun p => !S p.1).map (·.2)).sum + (((l.filter fun p => S p.1).filter fun p => decide (p.1 = h)).map (·.2)).sum = ((l.filter fun p => !rm S h p.1).map (·.2)).sum
  | [] => rfl
  | p :: l => by
    have ih := sum_rm (S := S) (h := h) l
    have e : rm S h p.1 = (S p.1 && !decide (p.1 = h)) := rfl
    simp only [List.filter_cons, e]
    cases hS : S p.1 with
    | false => simp only [Bool.not_false, Bool.false_and, if_true, Bool.false_eq_true, if_false, List.map_cons, List.sum_cons]; omega
    | true =>
      by_cases c : p.1 = h
      · simp only [Bool.not_true, Bool.true_and, if_true, Bool.false_eq_true, if_false, List.filter_cons, decide_eq_true c, Bool.not_false, List.map_cons, List.sum_cons]; omega
      · simp only [Bool.not_true, Bool.true_and, if_true, Bool.false_eq_true, if_false, List.filter_cons, decide_eq_false c, Bool.not_false]; omega
theorem give_gv {S : Int → Bool} {h : Int} {t : Tool} : giveT h (gvS S t) = gvS (rm S h) t := by
  unfold giveT gvS
  dsimp only
  rw [fil_rm, Int.add_assoc, sum_rm]
theorem gv_all {t : Tool} : gvS (fun _ => true) t = t := by
  have e1 : (t.hold.filter fun p => !(fun _ : Int => true) p.1) = [] := List.filter_eq_nil_iff.mpr fun p _ => by simp
  have e2 : (t.hold.filter fun p => (fun _ : Int => true) p.1) = t.hold := List.filter_eq_self.mpr fun p _ => rfl
  unfold gvS
  rw [e1, e2]
  simp
theorem gv_st {S T : Int → Bool} {t : Tool} (h : ∀ p ∈ t.hold, S p.1 = T p.1) (h' : ∀ p ∈ t.que, T p.1 = true) : gvS S t = stT T t := by
  unfold gvS stT
  have e1 : (t.hold.filter fun p => !S p.1) = t.hold.filter fun p => !T p.1 := List.filter_congr fun p hp => by rw [h p hp]
  have e2 : (t.hold.filter fun p => S p.1) = t.hold.filter fun p => T p.1 := List.filter_congr fun p hp => by rw [h p hp]
  have e3 : (t.que.filter fun p => T p.1) = t.que := List.filter_eq_self.mpr fun p hp => h' p hp
  rw [e1, e2, e3]
theorem st_free {S : Int → Bool} {t : Tool} : (stT S t).free = pcs t - lostN t S := by
  have key : ∀ l : List (Int × Int), ((l.filter fun p => !S p.1).map (·.2)).sum + ((l.filter fun p => S p.1).map (·.2)).sum = (l.map (·.2)).sum := fun l => by
    induction l with
    | nil => rfl
    | cons p l ih =>
      simp only [List.filter_cons]
      cases hS : S p.1 with
      | false => simp only [Bool.not_false, if_true, Bool.false_eq_true, if_false, List.map_cons, List.sum_cons]; omega
      | true => simp only [Bool.not_true, if_true, Bool.false_eq_true, if_false, List.map_cons, List.sum_cons]; omega
  have := key t.hold
  unfold stT pcs lostN
  dsimp only
  omega
def queued (ts : List Tool) : List Int := ts.flatMap fun t => t.que.map (·.1)
theorem queued_st {S : Int → Bool} : ∀ ts : List Tool, queued (ts.map (stT S)) = (queued ts).filter S
  | [] => rfl
  | t :: ts => by
    have ih := queued_st (S := S) ts
    unfold queued at ih ⊢
    rw [List.map_cons, List.flatMap_cons, List.flatMap_cons, ih, List.filter_append]
    congr 1
    show (t.que.filter fun p => S p.1).map (·.1) = _
    rw [List.filter_map]
    rfl
theorem queued_gv {S : Int → Bool} : ∀ ts : List Tool, queued (ts.map (gvS S)) = queued ts
  | [] => rfl
  | t :: ts => by
    have ih := queued_gv (S := S) ts
    unfold queued at ih ⊢
    rw [List.map_cons, List.flatMap_cons, List.flatMap_cons, ih]
    rfl
theorem queued_mem {ts : List Tool} {t : Tool} {p : Int × Int} (h : t ∈ ts) (hp : p ∈ t.que) : p.1 ∈ queued ts := by
  unfold queued
  exact List.mem_flatMap.mpr ⟨t, h, List.mem_map_of_mem hp⟩
theorem nodup_one {ts : List Tool} {t : Tool} (nd : (queued ts).Nodup) (h : t ∈ ts) : (t.que.map (·.1)).Nodup := by
  induction ts with
  | nil => cases h
  | cons u ts ih =>
    unfold queued at nd ih
    rw [List.flatMap_cons, List.nodup_append] at nd
    rcases List.mem_cons.mp h with rfl | h
    · exact nd.1
    · exact ih nd.2.1 h
theorem nodup_two {ts : List Tool} (nd : (queued ts).Nodup) : ∀ {i j : Nat} {t u : Tool} {p q : Int × Int}, i ≠ j → ts[i]? = some t → ts[j]? = some u → p ∈ t.que → q ∈ u.que → p.1 ≠ q.1 := by
  induction ts with
  | nil => intro i j t u p q _ h; simp at h
  | cons x ts ih =>
    have nd' := nd
    unfold queued at nd
    rw [List.flatMap_cons, List.nodup_append] at nd
    intro i j t u p q ne h1 h2 hp hq
    cases i with
    | zero =>
      cases j with
      | zero => exact absurd rfl ne
      | succ j =>
        simp at h1 h2
        subst h1
        exact nd.2.2 p.1 (List.mem_map_of_mem hp) q.1 (queued_mem (List.mem_of_getElem? h2) hq)
    | succ i =>
      cases j with
      | zero =>
        simp at h1 h2
        subst h2
        exact fun e => nd.2.2 q.1 (List.mem_map_of_mem hq) p.1 (queued_mem (List.mem_of_getElem? h1) hp) e.symm
      | succ j =>
        simp at h1 h2
        exact ih nd.2.1 (fun e => ne (by rw [e])) h1 h2 hp hq
theorem filter_tail {S : Int → Bool} {h n : Int} : ∀ {l r : List (Int × Int)}, (l.map (·.1)).Nodup → (l.filter fun p => S p.1) = (h, n) :: r → (l.filter fun p => rm S h p.1) = r
  | [], r, _, e => by cases e
  | p :: l, r, nd, e => by
    rw [List.map_cons, List.nodup_cons] at nd
    rw [List.filter_cons] at e ⊢
    have e1 : rm S h p.1 = (S p.1 && !decide (p.1 = h)) := rfl
    cases hS : S p.1 with
    | false =>
      rw [hS] at e
      rw [e1, hS]
      exact filter_tail nd.2 e
    | true =>
      rw [hS, if_pos rfl] at e
      obtain ⟨rfl, rfl⟩ := List.cons.inj e
      rw [e1, hS]
      have z : ¬ (true && !decide (h = h)) = true := by simp
      rw [if_neg z]
      refine List.filter_congr fun q hq => ?_
      unfold rm
      have : q.1 ≠ h := fun e => nd.1 (by rw [← e]; exact List.mem_map_of_mem (f := (·.1)) hq)
      rw [decide_eq_false this, Bool.not_false, Bool.and_true]
/-- one that is served: the next standing -/
theorem served_st {ts : List Tool} (nd : (queued ts).Nodup) {S : Int → Bool} {i : Nat} {t : Tool} {h n : Int} {r : List (Int × Int)} (ht : ts[i]? = some t) (hq : (stT S t).que = (h, n) :: r) :
    ((ts.map (stT S)).set i ⟨(stT S t).free, (stT S t).hold, r⟩).map (giveT h) = ts.map (stT (rm S h)) := by
  have hm : (h, n) ∈ t.que := by
    have : (h, n) ∈ (stT S t).que := by rw [hq]; exact List.mem_cons_self
    exact (List.mem_filter.mp this).1
  refine List.ext_getElem? fun j => ?_
  rw [List.getElem?_map, List.getElem?_map, List.getElem?_set, List.getElem?_map, List.length_map]
  have give : ∀ u : Tool, giveT h (gvS S u) = gvS (rm S h) u := fun u => give_gv
  by_cases c : i = j
  · subst c
    have hi : i < ts.length := (List.getElem?_eq_some_iff.mp ht).1
    rw [if_pos rfl, if_pos hi, ht, Option.map_some, Option.map_some]
    have g := give t
    unfold giveT gvS at g
    unfold giveT stT
    have e2 := filter_tail (nodup_one nd (List.mem_of_getElem? ht)) hq
    rw [e2]
    simp only [Tool.mk.injEq] at g
    simp only [Option.some.injEq, Tool.mk.injEq]
    exact ⟨g.1, g.2.1, trivial⟩
  · rw [if_neg c]
    cases hu : ts[j]? with
    | none => rfl
    | some u =>
      have g := give u
      unfold giveT gvS at g
      simp only [Tool.mk.injEq] at g
      simp only [Option.map_some, Option.some.injEq]
      unfold giveT stT
      simp only [Tool.mk.injEq]
      refine ⟨g.1, g.2.1, List.filter_congr fun p hp => ?_⟩
      have := nodup_two nd c ht hu hm hp
      unfold rm
      rw [decide_eq_false (fun e => this e.symm), Bool.not_false, Bool.and_true]
theorem st_step {ts : List Tool} {S : Int → Bool} {t : Tool} {h n : Int} {r : List (Int × Int)} (ht : t ∈ ts) (hq : (stT S t).que = (h, n) :: r) (le : n ≤ (stT S t).free) : Step ts S h := by
  obtain ⟨pre, post, e, hp, hx⟩ := filter_head hq
  rw [st_free] at le
  exact .mk t pre n post ht e hp hx le
theorem st_stuck {ts : List Tool} {S : Int → Bool} (h : ∀ t ∈ ts, ∀ h n r, (stT S t).que = (h, n) :: r → ¬ n ≤ (stT S t).free) : Stuck ts S := fun x s => by
  obtain ⟨t, pre, n, post, ht, e, hp, hh, hn⟩ := s
  refine h t ht x n (post.filter fun p => S p.1) ?_ (by rw [st_free]; exact hn)
  show (t.que.filter fun p => S p.1) = _
  rw [e, List.filter_append, List.filter_cons, hh, if_pos rfl]
  have : (pre.filter fun p => S p.1) = [] := List.filter_eq_nil_iff.mpr fun p hp' => by rw [hp p hp']; exact Bool.false_ne_true
  rw [this]
  rfl
theorem reach_in {ts : List Tool} {Q : List Int} {S : Int → Bool} (h : Reach ts (inL Q) S) : inL (Q.filter S) = S := by
  funext x
  unfold inL
  rw [Bool.eq_iff_iff, decide_eq_true_eq, List.mem_filter]
  exact ⟨fun z => z.2, fun z => ⟨of_decide_eq_true (h.sub x z), z⟩⟩
/-- where all are stuck: the later view is stuck from the start -/
theorem later_stuck {ts : List Tool} {Q : List Int} {S : Int → Bool} (rc : Reach ts (inL Q) S) (hq : ∀ t ∈ ts, ∀ p ∈ t.que, p.1 ∈ Q) (st : Stuck ts S) : Stuck (ts.map (stT S)) (inL (Q.filter S)) := fun x s => by
  obtain ⟨t', pre, n, post, ht, e, hp, hh, hn⟩ := s
  obtain ⟨t, ht0, rfl⟩ := List.mem_map.mp ht
  rw [reach_in rc] at hp hh hn
  have e0 : pre = [] := by
    cases pre with
    | nil => rfl
    | cons p pre =>
      have hm : p ∈ (stT S t).que := by rw [e]; exact List.mem_append_left _ List.mem_cons_self
      have h1 := (List.mem_filter.mp (show p ∈ t.que.filter fun p => S p.1 from hm)).2
      have h2 := hp p List.mem_cons_self
      rw [h2] at h1; cases h1
  subst e0
  have l1 : lostN (stT S t) S = ((stT S t).hold.map (·.2)).sum := by
    unfold lostN
    congr 2
    refine List.filter_eq_self.mpr fun p hp' => ?_
    exact (List.mem_filter.mp (show p ∈ t.hold.filter fun p => S p.1 from hp')).2
  refine st x (st_step ht0 e ?_)
  unfold pcs at hn
  omega
theorem stuck_refl {ts : List Tool} {A B : Int → Bool} (st : Stuck ts A) (h : Reach ts A B) : B = A := by
  cases h with
  | refl _ => rfl
  | step s _ => exact absurd s (st _)
/-- what is left here is what is left there, sorted -/
theorem left_eq {Q L a b : List Int} {S : Int → Bool} (nd : Q.Nodup) (ndL : L.Nodup) (e : inL L = inL (Q.filter S)) (pa : a.Perm L) (sa : a.Pairwise (· ≤ ·)) (pb : b.Perm (Q.filter S)) (sb : b.Pairwise (· ≤ ·)) : a = b := by
  refine sorted_eq (pa.trans (List.Perm.trans ?_ pb.symm)) sa sb
  refine perm_of ndL (nd.sublist List.filter_sublist) fun x => ?_
  have := congrFun e x
  unfold inL at this
  rw [Bool.eq_iff_iff, decide_eq_true_eq, decide_eq_true_eq] at this
  exact this
/-! ### how tools lie in a heap -/
inductive Prs (H : Hp) : List V → List (Int × Int) → Prop
  | nil : Prs H [] []
  | cons {p : Addr} {h n : Int} {vs : List V} {ps : List (Int × Int)} : H p = some (.tup [.int h, .int n]) → Prs H vs ps → Prs H (.ref p :: vs) ((h, n) :: ps)
theorem Prs.mono {H H' : Hp} (g : Same H H') : ∀ {vs : List V} {ps : List (Int × Int)}, Prs H vs ps → Prs H' vs ps
  | _, _, .nil => .nil
  | _, _, .cons h r => .cons (g _ _ h) (r.mono g)
/-- all but dicts is kept -/
def Kp (H H' : Hp) : Prop := ∀ c u, (∀ kvs, u ≠ HO.dK kvs) → H c = some u → H' c = some u
theorem Kp.of {H H' : Hp} (g : Same H H') : Kp H H' := fun c u _ h => g c u h
theorem Kp.trans {H H' H'' : Hp} (g : Kp H H') (g' : Kp H' H'') : Kp H H'' := fun c u n h => g' c u n (g c u n h)
theorem Prs.kp {H H' : Hp} (g : Kp H H') : ∀ {vs : List V} {ps : List (Int × Int)}, Prs H vs ps → Prs H' vs ps
  | _, _, .nil => .nil
  | _, _, .cons h r => .cons (g _ _ (fun _ z => by cases z) h) (r.kp g)
theorem Prs.length {H : Hp} : ∀ {vs : List V} {ps : List (Int × Int)}, Prs H vs ps → vs.length = ps.length
  | _, _, .nil => rfl
  | _, _, .cons _ r => by rw [List.length_cons, List.length_cons, r.length]
theorem Prs.get {H : Hp} : ∀ {vs : List V} {ps : List (Int × Int)}, Prs H vs ps → ∀ {i : Nat} {v : V}, vs[i]? = some v → ∃ p h n, v = .ref p ∧ ps[i]? = some (h, n) ∧ H p = some (.tup [.int h, .int n])
  | _, _, .nil, i, v, e => by simp at e
  | _, _, .cons hp r, i, v, e => by
    cases i with
    | zero => simp at e; exact ⟨_, _, _, e.symm, rfl, hp⟩
    | succ i => simpa using r.get (i := i) (v := v) (by simpa using e)
theorem Prs.snoc {H : Hp} {p : Addr} {h n : Int} (hp : H p = some (.tup [.int h, .int n])) : ∀ {vs : List V} {ps : List (Int × Int)}, Prs H vs ps → Prs H (vs ++ [.ref p]) (ps ++ [(h, n)])
  | _, _, .nil => .cons hp .nil
  | _, _, .cons h r => .cons h (r.snoc hp)
def pairD (p : Int × Int) : PyData := .tuple [.int p.1, .int p.2]
theorem Prs.rp {K : PySem.W.Frag} {H : Hp} : ∀ {vs : List V} {ps : List (Int × Int)}, Prs H vs ps → RpL K H vs (ps.map pairD)
  | _, _, .nil => .nil
  | _, _, .cons h r => .cons (.tup h (.cons (.int _) (.cons (.int _) .nil))) r.rp
def TlAt (H : Hp) (v : V) (t : Tool) : Prop := ∃ (a ph pq : Addr) (hs qs : List V), v = .ref a ∧ H a = some (.tup [.int t.free, .ref ph, .ref pq]) ∧ H ph = some (.lst hs) ∧ Prs H hs t.hold ∧ H pq = some (.lst qs) ∧ Prs H qs t.que ∧ t.hold.length ≤ 100 ∧ t.que.length ≤ 100
theorem TlAt.mono {H H' : Hp} {v : V} {t : Tool} (g : Same H H') (h : TlAt H v t) : TlAt H' v t := by
  obtain ⟨a, ph, pq, hs, qs, e, h1, h2, h3, h4, h5, h6⟩ := h
  exact ⟨a, ph, pq, hs, qs, e, g _ _ h1, g _ _ h2, h3.mono g, g _ _ h4, h5.mono g, h6⟩
theorem TlAt.kp {H H' : Hp} {v : V} {t : Tool} (g : Kp H H') (h : TlAt H v t) : TlAt H' v t := by
  obtain ⟨a, ph, pq, hs, qs, e, h1, h2, h3, h4, h5, h6⟩ := h
  exact ⟨a, ph, pq, hs, qs, e, g _ _ (fun _ z => by cases z) h1, g _ _ (fun _ z => by cases z) h2, h3.kp g, g _ _ (fun _ z => by cases z) h4, h5.kp g, h6⟩
inductive Tls (H : Hp) : List V → List Tool → Prop
  | nil : Tls H [] []
  | cons {v : V} {t : Tool} {vs : List V} {ts : List Tool} : TlAt H v t → Tls H vs ts → Tls H (v :: vs) (t :: ts)
theorem Tls.mono {H H' : Hp} (g : Same H H') : ∀ {vs : List V} {ts : List Tool}, Tls H vs ts → Tls H' vs ts
  | _, _, .nil => .nil
  | _, _, .cons h r => .cons (h.mono g) (r.mono g)
theorem Tls.kp {H H' : Hp} (g : Kp H H') : ∀ {vs : List V} {ts : List Tool}, Tls H vs ts → Tls H' vs ts
  | _, _, .nil => .nil
  | _, _, .cons h r => .cons (h.kp g) (r.kp g)
theorem Tls.length {H : Hp} : ∀ {vs : List V} {ts : List Tool}, Tls H vs ts → vs.length = ts.length
  | _, _, .nil => rfl
  | _, _, .cons _ r => by rw [List.length_cons, List.length_cons, r.length]
theorem Tls.get {H : Hp} : ∀ {vs : List V} {ts : List Tool}, Tls H vs ts → ∀ {i : Nat} {v : V}, vs[i]? = some v → ∃ t, ts[i]? = some t ∧ TlAt H v t
  | _, _, .nil, i, v, e => by simp at e
  | _, _, .cons hp r, i, v, e => by
    cases i with
    | zero => simp at e; exact ⟨_, rfl, e ▸ hp⟩
    | succ i => simpa using r.get (i := i) (v := v) (by simpa using e)
theorem Tls.snoc {H : Hp} {v : V} {t : Tool} (hp : TlAt H v t) : ∀ {vs : List V} {ts : List Tool}, Tls H vs ts → Tls H (vs ++ [v]) (ts ++ [t])
  | _, _, .nil => .cons hp .nil
  | _, _, .cons h r => .cons h (r.snoc hp)
/-- the sum of a comprehension over pairs -/
theorem take_snoc {α : Type} {xs : List α} {i : Nat} {x : α} (h : xs[i]? = some x) : xs.take (i + 1) = xs.take i ++ [x] := by
  obtain ⟨h1, h2⟩ := List.getElem?_eq_some_iff.mp h
  rw [← List.take_append_getElem h1, h2]
section
variable {P : Program} {w : World} {K : PySem.W.Frag} {mg : Str → Option Value} {base : Heap}
def spPcs : Sp := fun vs H Q _ => ∃ (v : V) (t : Tool), vs = [v] ∧ TlAt H v t ∧ ∀ H', Same H H' → Q (.int (pcs t)) H'
theorem ok_pcs (D : DefAt K mg "pieces_of" s_pieces_of ["tool"]) (hsum : mg "sum" = none) : OkD P w K mg base 1 "pieces_of" ["tool"] spPcs := by
  refine D.ok sc_pieces_of (fun vs H Q E h => ?_) (fun f cdv A outer s H vs Q E hr h => ?_)
  · obtain ⟨_, _, rfl, _⟩ := h; rfl
  obtain ⟨v, t, rfl, ⟨a, ph, pq, hs, qs, rfl, h1, h2, h3, h4, h5, h6, h7⟩, q⟩ := h
  have hu := hu_of hr
  refine ⟨_, (pss_one (ps_ret (pe_op op_add (pe_ix ix_g (pv 0) pe_int (fun _ _ => rfl)) (pe_cB (call_sum rfl) rfl hsum (by decide +kernel) (pa_c (pe_compN (comp_scopeN 2 (N := ["hand", "n"]) (cap := []) rfl rfl rfl rfl (by decide +kernel) rfl rfl rfl) rfl (pi_list (pe_ix ix_g (pv 0) pe_int (fun _ _ => rfl))) (fun _ _ _ _ => (pg_tupG 2 rfl (pgs_cons (pg_name (i := 0) (show List.Nodup (α := Str) ["hand", "n"] by decide +kernel) rfl (Or.inl (lookup_relabel_local rfl)) (Or.inr (lookup_relabel_local rfl))) (pgs_cons (pg_name (i := 1) (show List.Nodup (α := Str) ["hand", "n"] by decide +kernel) rfl (Or.inl (lookup_relabel_local rfl)) (Or.inr (lookup_relabel_local rfl))) pgs_nil)))) (fun _ _ _ _ => pts_nil) (fun _ _ _ _ => (pv 1))) pa_nil))))), ?_⟩
  walk_at "rd"
  refine tcomp_in ?_
  simp only [iList]
  walk_at "rd"
  refine ⟨⟨_, SqL.of h2⟩, ?_⟩
  have big : 100000 ≤ sizeLine := by unfold sizeLine; decide
  have hl := h3.length
  refine compJ_list h2 (by omega) (fun i ys σ1 H' => ys = ((t.hold.take i).map (·.2)).map V.int ∧ ∃ v0 v1, σ1 = [v0, v1]) (fun H' _ => ⟨rfl, _, _, rfl⟩) ?_ ?_
  · rintro D i x ys σ1 H' hx at1 ⟨rfl, v0, v1, rfl⟩
    obtain ⟨p, h, n, rfl, e, hp⟩ := h3.get hx
    have hp' := at1.same _ _ hp
    walk_at "rd"
    exact at1.put (Same.refl _) fun H5 mu => ⟨by rw [take_snoc e]; simp, _, _, rfl⟩
  · rintro D ys σ1 H' hD g hy hle ⟨rfl, _⟩
    refine ⟨D, rfl, _, hy, ?_⟩
    have e : t.hold.take hs.length = t.hold := List.take_of_length_le (by omega)
    rw [e]
    exact q _ g
def dk (L : List Int) : List (Key × V) := L.map fun h => (Sum.inl h, V.bl true)
theorem dk_val : ∀ {L : List Int} {h : Int}, valV (dk L) (Sum.inl h) = if h ∈ L then some (V.bl true) else none
  | [], h => rfl
  | x :: L, h => by
    unfold valV dk
    rw [List.map_cons, List.find?_cons]
    by_cases e : x = h
    · subst e
      rw [decide_eq_true rfl, if_pos List.mem_cons_self]
      rfl
    · rw [decide_eq_false (fun z => e (Sum.inl.inj z))]
      have := dk_val (L := L) (h := h)
      unfold valV dk at this
      dsimp only
      rw [this]
      by_cases c : h ∈ L
      · rw [if_pos c, if_pos (List.mem_cons_of_mem _ c)]
      · rw [if_neg c, if_neg (fun z => (List.mem_cons.mp z).elim (fun z => e z.symm) c)]
theorem dk_drop {L : List Int} {h : Int} : dropK (dk L) (Sum.inl h) = dk (cut L h) := by
  unfold dropK dk cut
  rw [List.filter_map]
  congr 1
  refine List.filter_congr fun x _ => ?_
  simp
theorem dk_put {L : List Int} {h : Int} : putK (dk L) (Sum.inl h) (V.bl true) = if h ∈ L then dk L else dk (L ++ [h]) := by
  unfold putK dk
  by_cases c : h ∈ L
  · rw [if_pos c, if_pos (by rw [List.any_map, List.any_eq_true]; exact ⟨h, c, by simp⟩), List.map_map]
    refine List.map_congr_left fun x _ => ?_
    by_cases e : x = h
    · subst e; simp
    · simp [e]
  · rw [if_neg c, if_neg (by
      rw [List.any_map, List.any_eq_true]
      rintro ⟨x, hx, e⟩
      simp at e
      exact c (e ▸ hx)), List.map_append]
    rfl
theorem dk_len {L : List Int} : (dk L).length = L.length := by unfold dk; rw [List.length_map]
theorem dk_keys {L : List Int} : (dk L).map (·.1) = L.map Sum.inl := by unfold dk; rw [List.map_map]; rfl
def spLost : Sp := fun vs H Q _ => ∃ (v : V) (t : Tool) (d : Addr) (L : List Int), vs = [v, .ref d] ∧ TlAt H v t ∧ H d = some (.dK (dk L)) ∧ ∀ H', Same H H' → Q (.int (lostN t (inL L))) H'
theorem ok_lost (D : DefAt K mg "pieces_lost" s_pieces_lost ["tool", "lost"]) (hsum : mg "sum" = none) : OkD P w K mg base 1 "pieces_lost" ["tool", "lost"] spLost := by
  refine D.ok sc_pieces_lost (fun vs H Q E h => ?_) (fun f cdv A outer s H vs Q E hr h => ?_)
  · obtain ⟨_, _, _, _, rfl, _⟩ := h; rfl
  obtain ⟨v, t, d, L, rfl, ⟨a, ph, pq, hs, qs, rfl, h1, h2, h3, h4, h5, h6, h7⟩, hd, q⟩ := h
  have hu := hu_of hr
  refine ⟨_, (pss_one (ps_ret (pe_cB (call_sum rfl) rfl hsum (by decide +kernel) (pa_c (pe_compN (comp_scopeN 2 (N := ["hand", "n", "lost"]) (cap := [1]) rfl rfl rfl rfl (by decide +kernel) rfl rfl rfl) rfl (pi_list (pe_ix ix_g (pv 0) pe_int (fun _ _ => rfl))) (fun _ _ _ _ => (pg_tupG 2 rfl (pgs_cons (pg_name (i := 0) (show List.Nodup (α := Str) ["hand", "n", "lost"] by decide +kernel) rfl (Or.inl (lookup_relabel_local rfl)) (Or.inr (lookup_relabel_local rfl))) (pgs_cons (pg_name (i := 1) (show List.Nodup (α := Str) ["hand", "n", "lost"] by decide +kernel) rfl (Or.inl (lookup_relabel_local rfl)) (Or.inr (lookup_relabel_local rfl))) pgs_nil)))) (fun _ _ _ _ => (pts_one (pt_cmp (pc_dinG hu (pv 0) (pv 2)) (by with_unfolding_all rfl)))) (fun _ _ _ _ => (pv 1))) pa_nil)))), ?_⟩
  walk_at "rd"
  refine tcomp_in ?_
  simp only [iList]
  walk_at "rd"
  refine ⟨⟨_, SqL.of h2⟩, ?_⟩
  have big : 100000 ≤ sizeLine := by unfold sizeLine; decide
  have hl := h3.length
  refine compJ_list h2 (by omega) (fun i ys σ1 H' => ys = (((t.hold.take i).filter fun p => inL L p.1).map (·.2)).map V.int ∧ ∃ v0 v1, σ1 = [v0, v1, some (.ref d)]) (fun H' _ => ⟨rfl, _, _, rfl⟩) ?_ ?_
  · rintro D i x ys σ1 H' hx at1 ⟨rfl, v0, v1, rfl⟩
    obtain ⟨p, h, n, rfl, e, hp⟩ := h3.get hx
    have hp' := at1.same _ _ hp
    have hd' := at1.same _ _ hd
    walk_at "rd"
    rw [dk_val]
    by_cases c : h ∈ L
    · rw [if_pos c]
      refine iteT (at1.put (Same.refl _) fun H5 mu => ⟨?_, _, _, rfl⟩)
      rw [take_snoc e, List.filter_append, List.filter_cons, if_pos (show inL L h = true from decide_eq_true c)]
      simp
    · rw [if_neg c]
      refine iteF (at1.skip (Same.refl _) ⟨?_, _, _, rfl⟩)
      rw [take_snoc e, List.filter_append, List.filter_cons, if_neg (by show ¬ inL L h = true; unfold inL; rw [decide_eq_false c]; exact Bool.false_ne_true)]
      simp
  · rintro D ys σ1 H' hD g hy hle ⟨rfl, _⟩
    refine ⟨D, rfl, _, hy, ?_⟩
    have e : t.hold.take hs.length = t.hold := List.take_of_length_le (by omega)
    rw [e]
    exact q _ g
def Bt1 (d : Addr) (H H' : Hp) : Prop := ∀ c u, c ≠ d → H c = some u → H' c = some u
theorem Bt1.kp {d : Addr} {H H' : Hp} {kvs : List (Key × V)} (hd : H d = some (.dK kvs)) (b : Bt1 d H H') : Kp H H' := fun c u n h => b c u (fun z => by rw [z, hd] at h; cases h; exact n _ rfl) h
def spFree : Sp := fun vs H Q _ => ∃ (v : V) (t : Tool) (d : Addr) (L : List Int), vs = [v, .ref d] ∧ TlAt H v t ∧ H d = some (.dK (dk L)) ∧ ∀ H', Bt1 d H H' → H' d = some (.dK (dk (fsGo t t.que L))) → Q .non H'
theorem ok_free (D : DefAt K mg "free_some" s_free_some ["tool", "lost"]) (G_pieces_of : OkD P w K mg base 1 "pieces_of" ["tool"] spPcs) (G_pieces_lost : OkD P w K mg base 1 "pieces_lost" ["tool", "lost"] spLost) : OkD P w K mg base 2 "free_some" ["tool", "lost"] spFree := by
  refine D.ok sc_free_some (fun vs H Q E h => ?_) (fun f cdv A outer s H vs Q E hr h => ?_)
  · obtain ⟨_, _, _, _, rfl, _⟩ := h; rfl
  obtain ⟨v, t, d, L, rfl, tl, hd, q⟩ := h
  obtain ⟨a, ph, pq, hs, qs, rfl, h1, h2, h3, h4, h5, h6, h7⟩ := id tl
  have hu := hu_of hr
  refine ⟨_, (pss_one (ps_for PassesOwn.never rfl (pi_list (pe_ix ix_g (pv 0) pe_int (fun _ _ => rfl))) (pg_tupG 2 rfl (pgs_cons (pg_name (i := 2) sc_free_some.nd rfl (Or.inl rfl)) (pgs_cons (pg_name (i := 3) sc_free_some.nd rfl (Or.inl rfl)) pgs_nil)))
  (pss_one (ps_if (pt_cmp (pc_dinG hu (pv 2) (pv 1)) (by with_unfolding_all rfl))
  (pss_cons (ps_if (pt_cmpR op_gt (pv 3) (pe_op op_sub (pe_def G_pieces_of hr rfl (pa_c (pv 0) pa_nil)) (pe_def G_pieces_lost hr rfl (pa_c (pv 0) (pa_c (pv 1) pa_nil)))) (nomark _))
  (pss_one ps_break)
  pss_nil)
  (pss_one (ps_expr (pe_dpopG (pv 1) (pv 2) ⟨rfl, rfl, rfl, rfl⟩))))
  pss_nil)))), ?_⟩
  walk_at "rd"
  refine tfor_in ?_
  simp only [iList]
  walk_at "rd"
  refine ⟨⟨_, SqL.of h4⟩, ?_⟩
  have hl := h5.length
  have tail : ∀ {i : Nat} {x : Int × Int}, t.que[i]? = some x → t.que.drop i = x :: t.que.drop (i + 1) := fun {i x} e => by
    obtain ⟨l, rfl⟩ := List.getElem?_eq_some_iff.mp e
    exact List.drop_eq_getElem_cons l
  refine for_list (xs := qs) (fun i σ H' => ∃ (L' : List Int) (v2 v3 : Option V), σ = [some (.ref a), some (.ref d), v2, v3] ∧ Bt1 d H H' ∧ H' d = some (.dK (dk L')) ∧ fsGo t (t.que.drop i) L' = fsGo t t.que L) ?_ ?_ ?_ ?_
  · exact ⟨L, _, _, rfl, fun _ _ _ h => h, hd, by rw [List.drop_zero]⟩
  · rintro i σ H' hi ⟨L', v2, v3, rfl, b, h', e⟩
    exact SqL.of (b.kp hd _ _ (fun _ z => by cases z) h4)
  · rintro i x σ H' hx ⟨L', v2, v3, rfl, b, h', e⟩
    obtain ⟨p, h, n, rfl, ex, hp⟩ := h5.get hx
    have hp' := b.kp hd _ _ (fun _ z => by cases z) hp
    have tl' := tl.kp (b.kp hd)
    rw [tail ex, fsGo_cons] at e
    walk_at "rd"
    rw [dk_val]
    by_cases c : h ∈ L'
    · rw [if_pos c] at e ⊢
      refine iteT ⟨_, t, rfl, tl', fun H2 g2 => ⟨_, t, d, L', rfl, tl'.mono g2, g2 _ _ h', fun H3 g3 => ?_⟩⟩
      walk_at "rd"
      have b3 : Bt1 d H H3 := fun c u n h => g3 _ _ (g2 _ _ (b c u n h))
      have h3' := g3 _ _ (g2 _ _ h')
      refine ite2 (fun c2 => ?_) fun c2 => ?_
      · rw [if_pos c2] at e
        exact q _ b3 (by rw [h3', e])
      · rw [if_neg c2] at e
        refine ⟨⟨_, h3'⟩, _, h3', _, by rw [dk_val, if_pos c], fun H4 mu => ⟨fun c u n h => mu.old (b3 c u n h) n, cut L' h, by rw [mu.at_, dk_drop], e⟩⟩
    · rw [if_neg c] at e ⊢
      exact iteF ⟨L', rfl, e⟩
  · rintro σ H' ⟨L', v2, v3, rfl, b, h', e⟩
    rw [List.drop_of_length_le (by omega)] at e
    exact q _ b (by rw [h', ← e]; rfl)
end
end K60.Dm

set_option Elab.async false
set_option linter.all false
set_option maxRecDepth 100000
set_option maxHeartbeats 4000000
namespace K60.Dm
open PySem L2
theorem queued_app {a b : List Tool} : queued (a ++ b) = queued a ++ queued b := by unfold queued; rw [List.flatMap_append]
theorem queued_one {t : Tool} : queued [t] = t.que.map (·.1) := by unfold queued; simp
theorem pass_snoc {ts : List Tool} {t : Tool} {L : List Int} : pass (ts ++ [t]) L = fsGo t t.que (pass ts L) := by unfold pass; rw [List.foldl_append]; rfl
section
variable {P : Program} {w : World} {K : PySem.W.Frag} {mg : Str → Option Value} {base : Heap}
def VwAt (H : Hp) (v : V) (ts : List Tool) : Prop := ∃ (a pt : Addr) (x0 x1 x3 x4 x5 : V) (tv : List V), v = .ref a ∧ H a = some (.tup [x0, x1, .ref pt, x3, x4, x5]) ∧ H pt = some (.lst tv) ∧ Tls H tv ts ∧ ts.length ≤ 10 ∧ (queued ts).Nodup ∧ (queued ts).length < 64
def spDoomed : Sp := fun vs H Q _ => ∃ (v : V) (ts : List Tool), vs = [v] ∧ VwAt H v ts ∧
  ∀ (r : Addr) (H' : Hp) (L ms : List Int), H r = none → Same H H' → H' r = some (.lst (ms.map V.int)) → ms.Perm L → ms.Pairwise (fun x y => x ≤ y) → L.Nodup → Reach ts (inL (queued ts)) (inL L) → Stuck ts (inL L) → Q (.ref r) H'
theorem ok_doomed (D : DefAt K mg "doomed" s_doomed ["view"]) (G_free_some : OkD P w K mg base 2 "free_some" ["tool", "lost"] spFree) (hlen : mg "len" = none) (hsorted : mg "sorted" = none) : OkD P w K mg base 3 "doomed" ["view"] spDoomed := by
  refine D.ok sc_doomed (fun vs H Q E h => ?_) (fun f cdv A outer s H vs Q E hr h => ?_)
  · obtain ⟨_, _, rfl, _⟩ := h; rfl
  obtain ⟨v, ts, rfl, ⟨a, pt, x0, x1, x3, x4, x5, tv, rfl, h1, h2, h3, h4, nd, n64⟩, q⟩ := h
  have hu := hu_of hr
  have big : 100000 ≤ sizeLine := by unfold sizeLine; decide
  refine ⟨_, (pss_cons (ps_set (i := 1) sc_doomed.nd rfl (Or.inl rfl) pe_dnewG)
  (pss_cons (ps_for PassesOwn.never rfl (pi_list (pe_ix ix_g (pv 0) pe_int (fun _ _ => rfl))) (pg_name (i := 2) sc_doomed.nd rfl (Or.inl rfl))
  (pss_one (ps_for PassesOwn.never rfl (pi_list (pe_ix ix_g (pv 2) pe_int (fun _ _ => rfl))) (pg_tupG 2 rfl (pgs_cons (pg_name (i := 3) sc_doomed.nd rfl (Or.inl rfl)) (pgs_cons (pg_name (i := 4) sc_doomed.nd rfl (Or.inl rfl)) pgs_nil)))
  (pss_one (ps_dputG2 hu (pv 1) (pv 3) pe_bl)))))
  (pss_cons (ps_set (i := 5) sc_doomed.nd rfl (Or.inl rfl) (pe_op op_add (pe_cB call_lenD rfl hlen PySem.boot_len (pa_c (pv 1) pa_nil)) pe_int))
  (pss_cons (ps_up (ps_while PassesOwn.never (pt_cmpR op_lt (pe_cB call_lenD rfl hlen PySem.boot_len (pa_c (pv 1) pa_nil)) (pv 5) (nomark _))
  (pss_cons (ps_set (i := 5) sc_doomed.nd rfl (Or.inl rfl) (pe_cB call_lenD rfl hlen PySem.boot_len (pa_c (pv 1) pa_nil)))
  (pss_one (ps_for PassesOwn.never rfl (pi_list (pe_ix ix_g (pv 0) pe_int (fun _ _ => rfl))) (pg_name (i := 2) sc_doomed.nd rfl (Or.inl rfl))
  (pss_one (ps_expr (pe_def G_free_some hr rfl (pa_c (pv 2) (pa_c (pv 1) pa_nil))))))))))
  (pss_one (ps_ret (pe_cB (call_sorted rfl) rfl hsorted (by decide +kernel) (pa_c (pv 1) pa_nil)))))))), ?_⟩
  walk_at "rd"
  intro d H1 hd g1 hd1
  have h11 := g1 _ _ h1
  have h12 := g1 _ _ h2
  refine tfor_in ?_
  simp only [iList]
  walk_at "rd"
  refine ⟨⟨_, SqL.of h12⟩, ?_⟩
  clear h11 h12
  have hl := h3.length
  refine for_list (xs := tv) (fun i σ H' => ∃ (v2 v3 v4 : Option V), σ = [some (.ref a), some (.ref d), v2, v3, v4, none] ∧ Same H H' ∧ H' d = some (.dK (dk (queued (ts.take i))))) ?_ ?_ ?_ ?_
  · exact ⟨_, _, _, rfl, g1, hd1⟩
  · rintro i σ H' hi ⟨v2, v3, v4, rfl, g, h'⟩
    exact SqL.of (g _ _ h2)
  · rintro i x σ H' hx ⟨v2, v3, v4, rfl, g, h'⟩
    clear hd1
    obtain ⟨t, et, a', ph, pq, hs, qs, rfl, k1, k2, k3, k4, k5, k6, k7⟩ := h3.get hx
    have k1' := g _ _ k1
    have k4' := g _ _ k4
    have eq1 : queued (ts.take (i + 1)) = queued (ts.take i) ++ t.que.map (·.1) := by rw [take_snoc et, queued_app, queued_one]
    have sub : (queued (ts.take (i + 1))).Sublist (queued ts) := by
      have : queued ts = queued (ts.take (i + 1)) ++ queued (ts.drop (i + 1)) := by rw [← queued_app, List.take_append_drop]
      rw [this]
      exact List.sublist_append_left _ _
    walk_at "rd"
    refine tfor_in ?_
    simp only [iList]
    walk_at "rd"
    refine ⟨⟨_, SqL.of k4'⟩, ?_⟩
    have ql := k5.length
    refine for_list (xs := qs) (fun j σ H' => ∃ (v3 v4 : Option V), σ = [some (.ref a), some (.ref d), some (.ref a'), v3, v4, none] ∧ Same H H' ∧ H' d = some (.dK (dk (queued (ts.take i) ++ (t.que.take j).map (·.1))))) ?_ ?_ ?_ ?_
    · exact ⟨_, _, rfl, g, by rw [h']; simp⟩
    · rintro j σ H2 hj ⟨v3, v4, rfl, g2, h2'⟩
      exact SqL.of (g2 _ _ k4)
    · rintro j y σ H2 hy ⟨v3, v4, rfl, g2, h2'⟩
      obtain ⟨p, h, n, rfl, e, hp⟩ := k5.get hy
      have hp' := g2 _ _ hp
      have sub2 : (queued (ts.take i) ++ (t.que.take (j + 1)).map (·.1)).Sublist (queued ts) := by
        refine List.Sublist.trans ?_ sub
        rw [eq1]
        exact List.Sublist.append_left (List.Sublist.map _ (List.take_sublist _ _)) _
      have e2 : queued (ts.take i) ++ (t.que.take (j + 1)).map (·.1) = (queued (ts.take i) ++ (t.que.take j).map (·.1)) ++ [h] := by
        rw [take_snoc e, List.map_append, List.append_assoc]; rfl
      have nm : h ∉ queued (ts.take i) ++ (t.que.take j).map (·.1) := fun z => by
        have := nd.sublist sub2
        rw [e2, List.nodup_append] at this
        exact this.2.2 h z h (List.mem_singleton_self _) rfl
      have ll : (queued (ts.take i) ++ (t.que.take j).map (·.1)).length < 64 := by
        have := sub2.length_le
        rw [e2, List.length_append] at this
        omega
      clear h' k1' k4'
      walk_at "rd"
      refine ⟨by rw [dk_len]; omega, fun H4 mu => ⟨mu.same g2 hd, ?_⟩⟩
      rw [mu.at_, dk_put, if_neg nm, ← e2]
    · rintro σ H2 ⟨v3, v4, rfl, g2, h2'⟩
      refine ⟨_, _, _, rfl, g2, ?_⟩
      have e9 : t.que.take qs.length = t.que := List.take_of_length_le (by omega)
      rw [h2', e9]
  · rintro σ H2 ⟨v2, v3, v4, rfl, g2, h2'⟩
    clear hd1
    rw [List.take_of_length_le (by omega)] at h2'
    walk_at "rd"
    refine ⟨fun σ' H' => ∃ (v2 v3 v4 v5 : Option V) (L : List Int), σ' = [some (.ref a), some (.ref d), v2, v3, v4, v5] ∧ Same H H' ∧ H' d = some (.dK (dk L)) ∧ Reach ts (inL (queued ts)) (inL L) ∧ L.Sublist (queued ts) ∧ Stuck ts (inL L), ?_, ?_⟩
    · refine ⟨fun m' σ' H' => ∃ (v2 v3 v4 : Option V) (L : List Int), σ' = [some (.ref a), some (.ref d), v2, v3, v4, some (.int (m' : Nat))] ∧ Same H H' ∧ H' d = some (.dK (dk L)) ∧ Reach ts (inL (queued ts)) (inL L) ∧ L.Sublist (queued ts) ∧ L.length ≤ m' ∧ (L.length = m' → Stuck ts (inL L)),
        ⟨(queued ts).length + 1, v2, v3, v4, queued ts, by rw [dk_len]; rfl, g2, h2', .refl _, List.Sublist.refl _, Nat.le_succ _, fun z => by omega⟩, ?_⟩
      rintro m' σ' H3 ⟨v2', v3', v4', L, rfl, g3, h3', rc, sb, le, st⟩
      clear h2' g2
      have h13 := g3 _ _ h1
      have h23 := g3 _ _ h2
      walk_at "rd"
      rw [dk_len]
      refine ite2 (fun c => ?_) (fun c => ?_)
      · refine ⟨fun σ' H' => ∃ (v2 v3 v4 : Option V), σ' = [some (.ref a), some (.ref d), v2, v3, v4, some (.int (L.length : Nat))] ∧ Same H H' ∧ H' d = some (.dK (dk (pass ts L))), ?_, ?_⟩
        · rintro σ' H4 ⟨w2, w3, w4, rfl, g4, h4'⟩
          refine ⟨L.length, by omega, w2, w3, w4, rfl, g4, pass ts L, h4', rc.trans (pass_reach ts L fun _ h => h), (pass_sub ts L).trans sb, pass_le ts L, fun e => ?_⟩
          rw [(pass_same ts L e).1]
          exact pass_stuck e
        · refine tfor_in ?_
          simp only [iList]
          walk_at "rd"
          refine ⟨⟨_, SqL.of h23⟩, ?_⟩
          refine for_list (xs := tv) (fun i σ H' => ∃ (v2 v3 v4 : Option V), σ = [some (.ref a), some (.ref d), v2, v3, v4, some (.int (L.length : Nat))] ∧ Same H H' ∧ H' d = some (.dK (dk (pass (ts.take i) L)))) ?_ ?_ ?_ ?_
          · exact ⟨_, _, _, rfl, g3, h3'⟩
          · rintro i σ H' hi ⟨w2, w3, w4, rfl, g, h'⟩
            exact SqL.of (g _ _ h2)
          · rintro i x σ H' hx ⟨w2, w3, w4, rfl, g, h'⟩
            obtain ⟨t, et, tl⟩ := h3.get hx
            clear h3' h13 h23
            walk_at "rd"
            refine ⟨x, t, d, _, rfl, tl.mono g, h', fun H5 bt h5 => ⟨fun c u hc => bt c u (fun z => by rw [z, hd] at hc; cases hc) (g _ _ hc), ?_⟩⟩
            rw [h5, take_snoc et, pass_snoc]
          · rintro σ H' ⟨w2, w3, w4, rfl, g, h'⟩
            rw [List.take_of_length_le (by omega)] at h'
            exact ⟨_, _, _, rfl, g, h'⟩
      · exact ⟨L, rfl, rc, sb, st (by omega)⟩
    · rintro σ' H3 ⟨v2', v3', v4', v5', L, rfl, g3, h3', rc, sb, st⟩
      clear h2' g2
      walk_at "rd"
      refine ⟨L, dk_keys, Nat.lt_of_le_of_lt sb.length_le n64, fun D H4 ms hD g4 h4' pm pw => ?_⟩
      exact q D H4 L ms (g3.free hD) (g3.trans g4) h4' pm pw (nd.sublist sb) rc st
end
end K60.Dm

set_option Elab.async false
set_option linter.all false
set_option maxRecDepth 100000
set_option maxHeartbeats 4000000
namespace K60
open PySem L2
/-! ### what stays -/
def sumH (l : List (Int × Int)) : Int := (l.map (·.2)).sum
theorem sumH_cons {p : Int × Int} {l : List (Int × Int)} : sumH (p :: l) = p.2 + sumH l := by unfold sumH; rw [List.map_cons, List.sum_cons]
theorem sumH_app {l m : List (Int × Int)} : sumH (l ++ m) = sumH l + sumH m := by unfold sumH; rw [List.map_append, List.sum_append]
theorem sum_putI {h x : Int} : ∀ l : List (Int × Int), sumH (putI l h x) = sumH l - getI l h + x
  | [] => by show sumH [(h, x)] = sumH [] - 0 + x; simp [sumH]
  | (k, y) :: r => by
    have ih := sum_putI (h := h) (x := x) r
    show sumH (if k = h then (k, x) :: r else (k, y) :: putI r h x) = sumH ((k, y) :: r) - (if k = h then y else getI r h) + x
    by_cases c : k = h
    · rw [if_pos c, if_pos c, sumH_cons, sumH_cons]; simp only; omega
    · rw [if_neg c, if_neg c, sumH_cons, sumH_cons, ih]; simp only; omega
def NnH (l : List (Int × Int)) : Prop := ∀ p ∈ l, 0 ≤ p.2
theorem nn_get {h : Int} : ∀ {l : List (Int × Int)}, NnH l → 0 ≤ getI l h
  | [], _ => Int.le_refl _
  | (k, y) :: r, n => by
    show 0 ≤ (if k = h then y else getI r h)
    by_cases c : k = h
    · rw [if_pos c]; exact n (k, y) List.mem_cons_self
    · rw [if_neg c]; exact nn_get fun p hp => n p (List.mem_cons_of_mem _ hp)
theorem nn_put {h x : Int} (hx : 0 ≤ x) : ∀ {l : List (Int × Int)}, NnH l → NnH (putI l h x)
  | [], _, p, hp => by
    have hp : p ∈ [(h, x)] := hp
    rw [List.mem_singleton.mp hp]; exact hx
  | (k, y) :: r, n, p, hp => by
    have hp : p ∈ (if k = h then (k, x) :: r else (k, y) :: putI r h x) := hp
    by_cases c : k = h
    · rw [if_pos c] at hp
      rcases List.mem_cons.mp hp with rfl | hp
      · exact hx
      · exact n p (List.mem_cons_of_mem _ hp)
    · rw [if_neg c] at hp
      rcases List.mem_cons.mp hp with rfl | hp
      · exact n _ List.mem_cons_self
      · exact nn_put hx (fun p hp => n p (List.mem_cons_of_mem _ hp)) p hp
/-- a tool as it should be: c is its count -/
structure TOk (c : Int) (t : TS) : Prop where
  all : t.free + sumH t.held = c
  nn : NnH t.held
  fr : 0 ≤ t.free
  hd : ∀ p q, t.que = p :: q → t.free < p.2
  ps : ∀ p ∈ t.que, 0 < p.2
theorem take_ok {c h n : Int} {t : TS} (T : TOk c t) (hn : 0 < n) : TOk c (takeS t h n).2 ∧ (takeS t h n).2.free - t.free = -(n * (if (takeS t h n).1 = true then 1 else 0)) ∧ (takeS t h n).2.que.length ≤ t.que.length + 1 := by
  unfold takeS
  by_cases w : t.que ≠ [] ∨ t.free < n
  · rw [if_pos w]
    refine ⟨⟨T.all, T.nn, T.fr, fun p q e => ?_, fun p hp => ?_⟩, by simp, by simp⟩
    · have e : t.que ++ [(h, n)] = p :: q := e
      cases hq : t.que with
      | nil =>
        rw [hq] at e
        cases e
        rcases w with w | w
        · exact absurd hq w
        · exact w
      | cons p' q' =>
        rw [hq] at e
        cases e
        exact T.hd _ _ hq
    · have hp : p ∈ t.que ++ [(h, n)] := hp
      rcases List.mem_append.mp hp with hp | hp
      · exact T.ps p hp
      · rw [List.mem_singleton.mp hp]; exact hn
  · rw [if_neg w]
    have hq : t.que = [] := Classical.byContradiction fun z => w (.inl z)
    have hf : ¬ t.free < n := fun z => w (.inr z)
    refine ⟨⟨?_, nn_put (by have := nn_get (h := h) T.nn; omega) T.nn, by show 0 ≤ t.free - n; omega, fun p q e => (by rw [show (outS t h n).que = t.que from rfl, hq] at e; cases e), T.ps⟩, by show t.free - n - t.free = _; simp; omega, by show t.que.length ≤ _; omega⟩
    have := sum_putI (h := h) (x := getI t.held h + n) t.held
    have a := T.all
    show t.free - n + sumH (putI t.held h (getI t.held h + n)) = c
    omega
theorem srv_ok {c : Int} : ∀ (q : List (Int × Int)) (t : TS), t.que = q → t.free + sumH t.held = c → NnH t.held → 0 ≤ t.free → (∀ p ∈ q, 0 < p.2) → TOk c (srv q t).2 ∧ (srv q t).2.free = t.free - sumH (srv q t).1 ∧ (∀ p ∈ (srv q t).1, p ∈ q) ∧ (srv q t).2.que.length ≤ q.length
  | [], t, e, a, nn, f, ps => ⟨⟨a, nn, f, fun p q z => (by have z : t.que = p :: q := z; rw [e] at z; cases z), fun p hp => (by have hp : p ∈ t.que := hp; rw [e] at hp; cases hp)⟩, by show t.free = t.free - 0; omega, fun p hp => hp, by show t.que.length ≤ _; rw [e]; exact Nat.le_refl _⟩
  | (h, n) :: q, t, e, a, nn, f, ps => by
    by_cases w : n ≤ t.free
    · rw [srv_cons w]
      have n0 : 0 < n := ps (h, n) List.mem_cons_self
      have sp := sum_putI (h := h) (x := getI t.held h + n) t.held
      obtain ⟨i1, i2, i3, i4⟩ := srv_ok (c := c) q (outS ⟨t.free, t.held, q⟩ h n) rfl (by show t.free - n + sumH (putI t.held h (getI t.held h + n)) = c; omega) (nn_put (by have := nn_get (h := h) nn; show 0 ≤ getI t.held h + n; omega) nn) (by show 0 ≤ t.free - n; omega) fun p hp => ps p (List.mem_cons_of_mem _ hp)
      have i2 : (srv q (outS ⟨t.free, t.held, q⟩ h n)).2.free = t.free - n - sumH (srv q (outS ⟨t.free, t.held, q⟩ h n)).1 := i2
      refine ⟨i1, by rw [i2, sumH_cons]; simp only; omega, fun p hp => ?_, Nat.le_trans i4 (Nat.le_succ _)⟩
      rcases List.mem_cons.mp hp with rfl | hp
      · exact List.mem_cons_self
      · exact List.mem_cons_of_mem _ (i3 p hp)
    · have e2 : srv ((h, n) :: q) t = ([], t) := by show (if n ≤ t.free then _ else _) = _; rw [if_neg w]
      rw [e2]
      refine ⟨⟨a, nn, f, fun p q' z => ?_, fun p hp => ps p (by rw [← e]; exact hp)⟩, by show t.free = t.free - 0; omega, fun p hp => absurd hp List.not_mem_nil, by rw [← e]; exact Nat.le_refl _⟩
      have z : t.que = p :: q' := z
      rw [e] at z
      cases z
      show t.free < n
      omega
theorem give_ok {c h n : Int} {t : TS} (T : TOk c t) (hn : 0 ≤ n) : TOk c (giveS t h n).2 ∧ (giveS t h n).2.free - t.free = giv t h n - sumH (giveS t h n).1 ∧ (∀ p ∈ (giveS t h n).1, p ∈ t.que) ∧ (giveS t h n).2.que.length ≤ t.que.length := by
  have g0 := nn_get (h := h) T.nn
  have g1 : 0 ≤ giv t h n ∧ giv t h n ≤ getI t.held h := by unfold giv; split <;> omega
  have sp := sum_putI (h := h) (x := getI t.held h + -(giv t h n)) t.held
  have a := T.all
  have f := T.fr
  obtain ⟨i1, i2, i3, i4⟩ := srv_ok (c := c) t.que (outS t h (-(giv t h n))) rfl (by show t.free - -(giv t h n) + sumH (putI t.held h (getI t.held h + -(giv t h n))) = c; omega) (nn_put (by omega) T.nn) (by show 0 ≤ t.free - -(giv t h n); omega) T.ps
  refine ⟨i1, ?_, i3, i4⟩
  have i2 : (giveS t h n).2.free = t.free - -(giv t h n) - sumH (giveS t h n).1 := i2
  omega

/-! ### stuck: the first of S in a queue asks for more than all but those of S could give -/
def lostH (t : TS) (S : Int → Bool) : Int := sumH (t.held.filter fun p => S p.1)
def StkT (c : Int) (t : TS) (S : Int → Bool) : Prop := ∀ pre h n post, t.que = pre ++ (h, n) :: post → (∀ p ∈ pre, S p.1 = false) → S h = true → c - lostH t S < n
theorem lost_le {S : Int → Bool} : ∀ {l : List (Int × Int)}, NnH l → sumH (l.filter fun p => S p.1) ≤ sumH l
  | [], _ => Int.le_refl _
  | p :: l, n => by
    have ih := lost_le (S := S) (l := l) fun p hp => n p (List.mem_cons_of_mem _ hp)
    have h0 := n p List.mem_cons_self
    rw [List.filter_cons]
    by_cases c : S p.1 = true
    · rw [if_pos c, sumH_cons, sumH_cons]; omega
    · rw [if_neg c, sumH_cons]; omega
theorem lost_put {S : Int → Bool} {h x : Int} (hS : S h = false) : ∀ l : List (Int × Int), (putI l h x).filter (fun p => S p.1) = l.filter fun p => S p.1
  | [] => by unfold putI; rw [List.filter_cons, if_neg (by simp [hS])]
  | (k, y) :: l => by
    have ih := lost_put (x := x) hS l
    unfold putI
    by_cases c : k = h
    · subst c
      rw [if_pos rfl, List.filter_cons, if_neg (by simp [hS]), List.filter_cons, if_neg (by simp [hS])]
    · rw [if_neg c, List.filter_cons, List.filter_cons, ih]
theorem lost_out {S : Int → Bool} {t : TS} {h n : Int} (hS : S h = false) : lostH (outS t h n) S = lostH t S := by
  unfold lostH outS
  rw [lost_put hS]
theorem take_stk {c h n : Int} {t : TS} {S : Int → Bool} (T : StkT c t S) (hS : S h = false) : StkT c (takeS t h n).2 S := by
  unfold takeS
  split
  · intro pre h' n' post e hp hS'
    have e : t.que ++ [(h, n)] = pre ++ (h', n') :: post := e
    rcases List.append_eq_append_iff.mp e with ⟨a, e1, e2⟩ | ⟨a, e1, e2⟩
    · cases a with
      | nil =>
        injection e2 with e2 _
        rw [Prod.mk.injEq] at e2
        rw [← e2.1, hS] at hS'; cases hS'
      | cons y a => simp at e2
    · cases a with
      | nil =>
        rw [List.nil_append] at e2
        injection e2 with e2 _
        rw [Prod.mk.injEq] at e2
        rw [e2.1, hS] at hS'; cases hS'
      | cons y a =>
        rw [List.cons_append] at e2
        injection e2 with e2 e3
        subst e2
        exact T pre h' n' a e1 hp hS'
  · intro pre h' n' post e hp hS'
    rw [lost_out hS]
    exact T pre h' n' post e hp hS'
theorem srv_stk {c : Int} {S : Int → Bool} : ∀ (q : List (Int × Int)) (t : TS), t.que = q → t.free + sumH t.held = c → NnH t.held → (∀ p ∈ q, 0 < p.2) → StkT c t S → (∀ p ∈ (srv q t).1, S p.1 = false) ∧ StkT c (srv q t).2 S
  | [], t, e, h1, h2, h3, T => ⟨fun p hp => (by cases hp), T⟩
  | (h, n) :: q, t, e, h1, h2, h3, T => by
    unfold srv
    by_cases cn : n ≤ t.free
    · rw [if_pos cn]
      have hS : S h = false := by
        cases z : S h with
        | false => rfl
        | true =>
          have := T [] h n q e (fun p hp => by cases hp) z
          have l := lost_le (S := S) h2
          unfold lostH at this
          omega
      have n0 := h3 (h, n) List.mem_cons_self
      have T2 : StkT c (outS ⟨t.free, t.held, q⟩ h n) S := by
        intro pre h' n' post e' hp hS'
        rw [lost_out hS]
        exact T ((h, n) :: pre) h' n' post (by rw [e]; have e' : q = pre ++ (h', n') :: post := e'; rw [e']; rfl) (fun p hp' => (List.mem_cons.mp hp').elim (fun z => by rw [z]; exact hS) (hp p)) hS'
      have ih := srv_stk q (outS ⟨t.free, t.held, q⟩ h n) rfl (by show t.free - n + sumH (putI t.held h (getI t.held h + n)) = c; rw [sum_putI]; omega) (nn_put (by show 0 ≤ getI t.held h + n; have := nn_get (h := h) h2; dsimp only at n0; omega) h2) (fun p hp => h3 p (List.mem_cons_of_mem _ hp)) T2
      refine ⟨fun p hp => ?_, ih.2⟩
      rcases List.mem_cons.mp hp with z | z
      · rw [z]; exact hS
      · exact ih.1 p z
    · rw [if_neg cn]
      exact ⟨fun p hp => (by cases hp), T⟩
theorem give_stk {c h n : Int} {t : TS} {S : Int → Bool} (O : TOk c t) (hn : 0 ≤ n) (T : StkT c t S) (hS : S h = false) : (∀ p ∈ (giveS t h n).1, S p.1 = false) ∧ StkT c (giveS t h n).2 S := by
  have g0 := nn_get (h := h) O.nn
  have gl : giv t h n ≤ getI t.held h ∧ 0 ≤ giv t h n := by unfold giv; split <;> omega
  refine srv_stk t.que _ rfl ?_ ?_ O.ps ?_
  · show t.free - -(giv t h n) + sumH (putI t.held h (getI t.held h + -(giv t h n))) = c
    rw [sum_putI]
    have := O.all
    omega
  · exact nn_put (by omega) O.nn
  · intro pre h' n' post e hp hS'
    rw [lost_out hS]
    exact T pre h' n' post e hp hS'
/-! ### who stands in queues -/
theorem srv_que : ∀ (q : List (Int × Int)) (t : TS), t.que = q → (srv q t).1 ++ (srv q t).2.que = q
  | [], t, e => by unfold srv; rw [List.nil_append]; exact e
  | (h, n) :: q, t, e => by
    unfold srv
    by_cases cn : n ≤ t.free
    · rw [if_pos cn, List.cons_append]
      have := srv_que q (outS ⟨t.free, t.held, q⟩ h n) rfl
      rw [this]
    · rw [if_neg cn, List.nil_append]; exact e
theorem give_que {t : TS} {h n : Int} : (giveS t h n).1 ++ (giveS t h n).2.que = t.que := srv_que t.que _ rfl
theorem take_que {t : TS} {h n : Int} : (takeS t h n).2.que = t.que ∨ (takeS t h n).2.que = t.que ++ [(h, n)] := by
  unfold takeS
  split
  · exact .inr rfl
  · exact .inl rfl
end K60

set_option Elab.async false
set_option linter.all false
set_option maxRecDepth 100000
set_option maxHeartbeats 4000000
namespace K60
open PySem L2
theorem Prs.dm {H : Hp} : ∀ {vs : List V} {ps : List (Int × Int)}, Prs H vs ps → Dm.Prs H vs ps
  | _, _, .nil => .nil
  | _, _, .cons h r => .cons h r.dm
/-- a tool as it is told, of a tool as it is -/
def Vw (t : TS) (u : Dm.Tool) : Prop := u.free = t.free ∧ u.hold.Perm (t.held.filter fun p => decide (0 < p.2)) ∧ u.que = t.que
inductive VwL : List TS → List Dm.Tool → Prop
  | nil : VwL [] []
  | cons {t : TS} {u : Dm.Tool} {ts : List TS} {us : List Dm.Tool} : Vw t u → VwL ts us → VwL (t :: ts) (u :: us)
theorem VwL.mem : ∀ {ts : List TS} {us : List Dm.Tool}, VwL ts us → ∀ u ∈ us, ∃ t ∈ ts, Vw t u
  | _, _, .nil, u, h => by cases h
  | _, _, .cons h r, u, hu => by
    rcases List.mem_cons.mp hu with z | z
    · exact ⟨_, List.mem_cons_self, z ▸ h⟩
    · obtain ⟨t, ht, v⟩ := r.mem u z
      exact ⟨t, List.mem_cons_of_mem _ ht, v⟩
theorem VwL.mem' : ∀ {ts : List TS} {us : List Dm.Tool}, VwL ts us → ∀ t ∈ ts, ∃ u ∈ us, Vw t u
  | _, _, .nil, u, h => by cases h
  | _, _, .cons h r, u, hu => by
    rcases List.mem_cons.mp hu with z | z
    · exact ⟨_, List.mem_cons_self, z ▸ h⟩
    · obtain ⟨t, ht, v⟩ := r.mem' u z
      exact ⟨t, List.mem_cons_of_mem _ ht, v⟩
theorem VwL.length : ∀ {ts : List TS} {us : List Dm.Tool}, VwL ts us → us.length = ts.length
  | _, _, .nil => rfl
  | _, _, .cons h r => by rw [List.length_cons, List.length_cons, r.length]
theorem VwL.queued : ∀ {ts : List TS} {us : List Dm.Tool}, VwL ts us → Dm.queued us = ts.flatMap fun t => t.que.map (·.1)
  | _, _, .nil => rfl
  | _, _, .cons h r => by
    unfold Dm.queued
    rw [List.flatMap_cons, List.flatMap_cons, h.2.2]
    have := r.queued
    unfold Dm.queued at this
    rw [this]
theorem sum_perm {a b : List (Int × Int)} (p : a.Perm b) : sumH a = sumH b := by
  induction p with
  | nil => rfl
  | cons x _ ih => rw [sumH_cons, sumH_cons, ih]
  | swap x y l => rw [sumH_cons, sumH_cons, sumH_cons, sumH_cons]; omega
  | trans _ _ i1 i2 => exact i1.trans i2
theorem sum_pos {S : Int → Bool} : ∀ {l : List (Int × Int)}, NnH l → sumH ((l.filter fun p => decide (0 < p.2)).filter fun p => S p.1) = sumH (l.filter fun p => S p.1)
  | [], _ => rfl
  | p :: l, n => by
    have ih := sum_pos (S := S) (l := l) fun p hp => n p (List.mem_cons_of_mem _ hp)
    have h0 := n p List.mem_cons_self
    rw [List.filter_cons, List.filter_cons (p := fun p => S p.1) (xs := l)]
    by_cases c : 0 < p.2
    · rw [if_pos (decide_eq_true c), List.filter_cons]
      by_cases c2 : S p.1 = true
      · rw [if_pos c2, if_pos c2, sumH_cons, sumH_cons, ih]
      · rw [if_neg c2, if_neg c2, ih]
    · rw [if_neg (by simpa using c), ih]
      by_cases c2 : S p.1 = true
      · rw [if_pos c2, sumH_cons]; omega
      · rw [if_neg c2]
theorem Vw.lost {t : TS} {u : Dm.Tool} (v : Vw t u) (n : NnH t.held) (S : Int → Bool) : Dm.lostN u S = lostH t S := by
  unfold Dm.lostN lostH
  have := sum_perm (v.2.1.filter fun p => S p.1)
  rw [sum_pos n] at this
  exact this
theorem Vw.pcs {t : TS} {u : Dm.Tool} {c : Int} (v : Vw t u) (o : TOk c t) : Dm.pcs u = c := by
  have := v.lost o.nn (fun _ => true)
  unfold Dm.lostN lostH at this
  rw [List.filter_eq_self.mpr (fun _ _ => rfl), List.filter_eq_self.mpr (fun _ _ => rfl)] at this
  unfold Dm.pcs
  rw [this, v.1]
  exact o.all
theorem Vw.pos {t : TS} {u : Dm.Tool} (v : Vw t u) : ∀ p ∈ u.hold, 0 ≤ p.2 := fun p hp => by
  have := (List.mem_filter.mp (v.2.1.mem_iff.mp hp)).2
  have := of_decide_eq_true this
  omega
end K60

set_option Elab.async false
set_option linter.all false
set_option maxRecDepth 100000
set_option maxHeartbeats 4000000
namespace K60
open PySem L2
def qE (es : List Ent) : List Int := es.flatMap fun e => e.t.que.map (·.1)
def EOk (es : List Ent) : Prop := ∀ e ∈ es, TOk e.c e.t
def EStk (es : List Ent) (S : Int → Bool) : Prop := ∀ e ∈ es, StkT e.c e.t S
theorem stuck_of {es : List Ent} {us : List Dm.Tool} (v : VwL (es.map (·.t)) us) (o : EOk es) {S : Int → Bool} (h : EStk es S) : Dm.Stuck us S := fun x s => by
  obtain ⟨u, pre, n, post, hu, hq, hp, hS, hn⟩ := s
  obtain ⟨t, ht, vw⟩ := v.mem u hu
  obtain ⟨e, he, rfl⟩ := List.mem_map.mp ht
  rw [vw.pcs (o e he), vw.lost (o e he).nn] at hn
  have := h e he pre x n post (by rw [← vw.2.2]; exact hq) hp hS
  omega
theorem of_stuck {es : List Ent} {us : List Dm.Tool} (v : VwL (es.map (·.t)) us) (o : EOk es) {S : Int → Bool} (h : Dm.Stuck us S) : EStk es S := fun e he pre x n post hq hp hS => by
  obtain ⟨u, hu, vw⟩ := v.mem' e.t (List.mem_map_of_mem (f := fun e : Ent => e.t) he)
  have h1 := vw.pcs (o e he)
  have h2 := vw.lost (o e he).nn S
  rcases Int.lt_or_le (e.c - lostH e.t S) n with z | z
  · exact z
  · exact absurd (Dm.Step.mk u pre n post hu (by rw [vw.2.2]; exact hq) hp hS (by rw [h1, h2]; exact z)) (h x)
theorem queued_of {es : List Ent} {us : List Dm.Tool} (v : VwL (es.map (·.t)) us) : Dm.queued us = qE es := by
  rw [v.queued]
  unfold qE
  rw [List.flatMap_map]
theorem vw_pos {es : List Ent} {us : List Dm.Tool} (v : VwL (es.map (·.t)) us) : ∀ t ∈ us, ∀ p ∈ t.hold, 0 ≤ p.2 := fun u hu => by
  obtain ⟨t, _, vw⟩ := v.mem u hu
  exact vw.pos
theorem get_put {h k x : Int} : ∀ l : List (Int × Int), getI (putI l h x) k = if k = h then x else getI l k
  | [] => by
    unfold putI getI
    by_cases c : h = k
    · rw [if_pos c, if_pos c.symm]
    · rw [if_neg c, if_neg (Ne.symm c)]; rfl
  | (a, y) :: l => by
    have ih := get_put (h := h) (k := k) (x := x) l
    unfold putI
    by_cases c : a = h
    · rw [if_pos c]
      unfold getI
      by_cases c2 : a = k
      · rw [if_pos c2, if_pos (by omega)]
      · rw [if_neg c2, if_neg (by omega), if_neg c2]
    · rw [if_neg c]
      unfold getI
      by_cases c2 : a = k
      · rw [if_pos c2, if_pos c2, if_neg (by omega)]
      · rw [if_neg c2, if_neg c2]; exact ih
theorem get_srv {k : Int} : ∀ (q : List (Int × Int)) (t : TS), (∀ p ∈ (srv q t).1, p.1 ≠ k) → getI (srv q t).2.held k = getI t.held k
  | [], t, _ => by unfold srv; rfl
  | (h, n) :: q, t, hk => by
    unfold srv at hk ⊢
    by_cases cn : n ≤ t.free
    · rw [if_pos cn] at hk ⊢
      have := get_srv q (outS ⟨t.free, t.held, q⟩ h n) fun p hp => hk p (List.mem_cons_of_mem _ hp)
      show getI (srv q (outS ⟨t.free, t.held, q⟩ h n)).2.held k = _
      rw [this]
      show getI (putI t.held h (getI t.held h + n)) k = _
      rw [get_put, if_neg (fun z => hk (h, n) List.mem_cons_self z.symm)]
    · rw [if_neg cn]
theorem get_give {t : TS} {g n k : Int} (hk : ∀ p ∈ (giveS t g n).1, p.1 ≠ k) : getI (giveS t g n).2.held k = if k = g then getI t.held g - giv t g n else getI t.held k := by
  have := get_srv t.que (outS t g (-(giv t g n))) hk
  show getI (srv t.que (outS t g (-(giv t g n)))).2.held k = _
  rw [this]
  show getI (putI t.held g (getI t.held g + -(giv t g n))) k = _
  rw [get_put]
  split <;> omega
/-- hands beside 1..9 hold nothing -/
def HZ (es : List Ent) : Prop := ∀ e ∈ es, ∀ h : Int, ¬ (1 ≤ h ∧ h ≤ 9) → getI e.t.held h = 0
/-- what a deed of h makes of the tools: sv are served -/
structure Dd (h : Int) (es es' : List Ent) (sv : List Int) : Prop where
  ok : EOk es'
  stk : ∀ S : Int → Bool, S h = false → EStk es S → EStk es' S ∧ ∀ x ∈ sv, S x = false
  nm : es'.map (·.name) = es.map (·.name)
  q : (sv ++ qE es').Perm (qE es) ∨ (sv = [] ∧ (qE es').Perm (h :: qE es))
  hz : (1 ≤ h ∧ h ≤ 9) → (∀ x ∈ qE es, 1 ≤ x ∧ x ≤ 9) → HZ es → HZ es'
theorem qE_app {l1 l2 : List Ent} : qE (l1 ++ l2) = qE l1 ++ qE l2 := by unfold qE; rw [List.flatMap_append]
theorem qE_cons {e : Ent} {l : List Ent} : qE (e :: l) = e.t.que.map (·.1) ++ qE l := by unfold qE; rw [List.flatMap_cons]
theorem dd_take {l1 l2 : List Ent} {e : Ent} {h n : Int} (o : EOk (l1 ++ e :: l2)) (hn : 0 < n) : Dd h (l1 ++ e :: l2) (l1 ++ { e with t := (takeS e.t h n).2 } :: l2) [] := by
  have he : e ∈ l1 ++ e :: l2 := by simp
  refine ⟨fun x hx => ?_, fun S hS st => ⟨fun x hx => ?_, fun x hx => by cases hx⟩, by simp, ?_, fun h9 q9 hz x hx k hk => ?_⟩
  · rcases List.mem_append.mp hx with z | z
    · exact o x (List.mem_append_left _ z)
    · rcases List.mem_cons.mp z with z | z
      · rw [z]; exact (take_ok (o e he) hn).1
      · exact o x (List.mem_append_right _ (List.mem_cons_of_mem _ z))
  · rcases List.mem_append.mp hx with z | z
    · exact st x (List.mem_append_left _ z)
    · rcases List.mem_cons.mp z with z | z
      · rw [z]; exact take_stk (st e he) hS
      · exact st x (List.mem_append_right _ (List.mem_cons_of_mem _ z))
  · rw [qE_app, qE_app, qE_cons, qE_cons]
    rcases take_que (t := e.t) (h := h) (n := n) with z | z
    · left
      show (([] : List Int) ++ (qE l1 ++ ((takeS e.t h n).2.que.map (·.1) ++ qE l2))).Perm _
      rw [z, List.nil_append]
    · right
      refine ⟨rfl, ?_⟩
      show (qE l1 ++ ((takeS e.t h n).2.que.map (·.1) ++ qE l2)).Perm _
      rw [z, List.map_append, List.append_assoc]
      show (qE l1 ++ (e.t.que.map (·.1) ++ ([h] ++ qE l2))).Perm _
      have p1 : (e.t.que.map (·.1) ++ ([h] ++ qE l2)).Perm ([h] ++ (e.t.que.map (·.1) ++ qE l2)) := by
        rw [← List.append_assoc, ← List.append_assoc]
        exact List.perm_append_comm.append_right _
      refine (p1.append_left _).trans ?_
      rw [← List.append_assoc]
      exact (List.perm_append_comm (l₁ := qE l1) (l₂ := [h])).append_right _
  · rcases List.mem_append.mp hx with z | z
    · exact hz x (List.mem_append_left _ z) k hk
    · rcases List.mem_cons.mp z with z | z
      · rw [z]
        have z0 := hz e he k hk
        show getI (takeS e.t h n).2.held k = 0
        unfold takeS
        split
        · exact z0
        · show getI (putI e.t.held h (getI e.t.held h + n)) k = 0
          rw [get_put, if_neg (fun z => hk (by rw [z]; exact h9))]
          exact z0
      · exact hz x (List.mem_append_right _ (List.mem_cons_of_mem _ z)) k hk
theorem dd_give {l1 l2 : List Ent} {e : Ent} {h n : Int} (o : EOk (l1 ++ e :: l2)) (hn : 0 ≤ n) : Dd h (l1 ++ e :: l2) (l1 ++ { e with t := (giveS e.t h n).2 } :: l2) ((giveS e.t h n).1.map (·.1)) := by
  have he : e ∈ l1 ++ e :: l2 := by simp
  refine ⟨fun x hx => ?_, fun S hS st => ⟨fun x hx => ?_, fun x hx => ?_⟩, by simp, .inl ?_, fun h9 q9 hz x hx k hk => ?_⟩
  · rcases List.mem_append.mp hx with z | z
    · exact o x (List.mem_append_left _ z)
    · rcases List.mem_cons.mp z with z | z
      · rw [z]; exact (give_ok (o e he) hn).1
      · exact o x (List.mem_append_right _ (List.mem_cons_of_mem _ z))
  · rcases List.mem_append.mp hx with z | z
    · exact st x (List.mem_append_left _ z)
    · rcases List.mem_cons.mp z with z | z
      · rw [z]; exact (give_stk (o e he) hn (st e he) hS).2
      · exact st x (List.mem_append_right _ (List.mem_cons_of_mem _ z))
  · obtain ⟨p, hp, rfl⟩ := List.mem_map.mp hx
    exact (give_stk (o e he) hn (st e he) hS).1 p hp
  · rw [qE_app, qE_app, qE_cons, qE_cons]
    have e1 : e.t.que.map (·.1) = (giveS e.t h n).1.map (·.1) ++ (giveS e.t h n).2.que.map (·.1) := by rw [← List.map_append, give_que]
    rw [e1]
    show ((giveS e.t h n).1.map (·.1) ++ (qE l1 ++ ((giveS e.t h n).2.que.map (·.1) ++ qE l2))).Perm (qE l1 ++ (((giveS e.t h n).1.map (·.1) ++ (giveS e.t h n).2.que.map (·.1)) ++ qE l2))
    rw [List.append_assoc, ← List.append_assoc, ← List.append_assoc (qE l1)]
    exact List.perm_append_comm.append_right _
  · rcases List.mem_append.mp hx with z | z
    · exact hz x (List.mem_append_left _ z) k hk
    · rcases List.mem_cons.mp z with z | z
      · rw [z]
        have z0 := hz e he k hk
        show getI (giveS e.t h n).2.held k = 0
        rw [get_give (fun p hp z => hk (by
          rw [← z]
          refine q9 p.1 ?_
          rw [qE_app, qE_cons]
          exact List.mem_append_right _ (List.mem_append_left _ (List.mem_map_of_mem (f := fun x : Int × Int => x.1) ((give_ok (o e he) hn).2.2.1 p hp))))), if_neg (fun z => hk (by rw [z]; exact h9))]
        exact z0
      · exact hz x (List.mem_append_right _ (List.mem_cons_of_mem _ z)) k hk
theorem lv_ok {h : Int} {e : Ent} (o : TOk e.c e.t) : TOk (lv1 h e).c (lv1 h e).t := by
  unfold lv1
  split
  · exact (give_ok o (by omega)).1
  · exact o
theorem lv_c {h : Int} {e : Ent} : (lv1 h e).c = e.c := (lv1_name).2.2.2.2
def svL (h : Int) (es : List Ent) : List Int := (es.filterMap (lvI h)).flatMap fun x => x.2.2.map (·.1)
theorem svL_cons {h : Int} {e : Ent} {es : List Ent} : svL h (e :: es) = (if 0 < getI e.t.held h then (giveS e.t h (getI e.t.held h)).1.map (·.1) else []) ++ svL h es := by
  unfold svL lvI
  rw [List.filterMap_cons]
  by_cases c : 0 < getI e.t.held h
  · rw [if_pos c, if_pos c, List.flatMap_cons]
  · rw [if_neg c, if_neg c, List.nil_append]
theorem lv_que {h : Int} {e : Ent} : (if 0 < getI e.t.held h then (giveS e.t h (getI e.t.held h)).1.map (·.1) else []) ++ (lv1 h e).t.que.map (·.1) = e.t.que.map (·.1) := by
  unfold lv1
  by_cases c : 0 < getI e.t.held h
  · rw [if_pos c, if_pos c]
    show _ ++ (giveS e.t h (getI e.t.held h)).2.que.map (·.1) = _
    rw [← List.map_append, give_que]
  · rw [if_neg c, if_neg c, List.nil_append]
theorem lv_perm {h : Int} : ∀ es : List Ent, (svL h es ++ qE (es.map (lv1 h))).Perm (qE es)
  | [] => List.Perm.refl _
  | e :: es => by
    have ih := lv_perm (h := h) es
    rw [svL_cons, List.map_cons, qE_cons, qE_cons, ← lv_que (h := h) (e := e)]
    generalize (if 0 < getI e.t.held h then (giveS e.t h (getI e.t.held h)).1.map (·.1) else []) = A
    generalize (lv1 h e).t.que.map (·.1) = B
    rw [List.append_assoc, List.append_assoc]
    refine List.Perm.append_left A ?_
    rw [← List.append_assoc]
    refine (List.perm_append_comm.append_right _).trans ?_
    rw [List.append_assoc]
    exact List.Perm.append_left B ih
theorem get_lv {e : Ent} {g k : Int} (o : TOk e.c e.t) (hk : k ∉ svL g [e]) : getI (lv1 g e).t.held k = if k = g then 0 else getI e.t.held k := by
  rw [svL_cons] at hk
  unfold lv1
  by_cases c : 0 < getI e.t.held g
  · rw [if_pos c] at hk ⊢
    show getI (giveS e.t g (getI e.t.held g)).2.held k = _
    rw [get_give fun p hp z => hk (List.mem_append_left _ (List.mem_map.mpr ⟨p, hp, z⟩)), giv_self]
    split <;> omega
  · rw [if_neg c]
    have := nn_get (h := g) o.nn
    split
    · rename_i z; rw [z]; omega
    · rfl
theorem svL_mem {g : Int} {es : List Ent} {e : Ent} (he : e ∈ es) {x : Int} (hx : x ∈ svL g [e]) : x ∈ svL g es := by
  unfold svL at hx ⊢
  obtain ⟨y, hy, hx⟩ := List.mem_flatMap.mp hx
  obtain ⟨e', he', hy⟩ := List.mem_filterMap.mp hy
  rw [List.mem_singleton.mp he'] at hy
  exact List.mem_flatMap.mpr ⟨y, List.mem_filterMap.mpr ⟨e, he, hy⟩, hx⟩
theorem dd_leave {es : List Ent} {h : Int} (o : EOk es) : Dd h es (es.map (lv1 h)) (svL h es) := by
  refine ⟨fun x hx => ?_, fun S hS st => ⟨fun x hx => ?_, fun x hx => ?_⟩, ?_, .inl (lv_perm es), fun h9 q9 hz x hx k hk => ?_⟩
  · obtain ⟨e, he, rfl⟩ := List.mem_map.mp hx
    exact lv_ok (o e he)
  · obtain ⟨e, he, rfl⟩ := List.mem_map.mp hx
    rw [lv_c]
    unfold lv1
    split
    · exact (give_stk (o e he) (by omega) (st e he) hS).2
    · exact st e he
  · unfold svL at hx
    obtain ⟨y, hy, hx⟩ := List.mem_flatMap.mp hx
    obtain ⟨e, he, hy⟩ := List.mem_filterMap.mp hy
    unfold lvI at hy
    by_cases c : 0 < getI e.t.held h
    · rw [if_pos c] at hy
      cases hy
      obtain ⟨p, hp, rfl⟩ := List.mem_map.mp hx
      exact (give_stk (o e he) (by omega) (st e he) hS).1 p hp
    · rw [if_neg c] at hy; cases hy
  · rw [List.map_map]
    exact List.map_congr_left fun e _ => (lv1_name).1
  · obtain ⟨e, he, rfl⟩ := List.mem_map.mp hx
    rw [get_lv (o e he) (fun z => hk (q9 k ((lv_perm (h := h) es).mem_iff.mp (List.mem_append_left _ (svL_mem he z))))), if_neg (fun z => hk (by rw [z]; exact h9))]
    exact hz e he k hk
end K60

set_option Elab.async false
set_option linter.all false
set_option maxRecDepth 100000
set_option maxHeartbeats 4000000
namespace K60
open PySem L2
theorem sql_same {K : PySem.W.Frag} {H H' : Hp} {a : Addr} {xs : List V} (g : Same H H') (h : SqL K H a xs) : SqL K H' a xs := by
  rcases h with (h | ⟨o, h⟩) | h
  · exact .inl (.inl (g _ _ h))
  · exact .inl (.inr ⟨o, g _ _ h⟩)
  · exact .inr h
theorem TlL.dm {H0 H : Hp} : ∀ {vs : List V} {ts : List TS}, TlL H0 H vs ts → (∀ t ∈ ts, t.held.length ≤ 12 ∧ t.que.length ≤ 100) → ∃ us, Dm.Tls H vs us ∧ VwL ts us
  | _, _, .nil, _ => ⟨[], .nil, .nil⟩
  | _, _, .cons (t := t) (hd := hd) h p r, b => by
    obtain ⟨us, a1, a2⟩ := r.dm fun t ht => b t (List.mem_cons_of_mem _ ht)
    obtain ⟨p5, ph, pq, hs', qs', e, m1, m2, m3, m4, m5, _⟩ := h
    have b0 := b t List.mem_cons_self
    have l1 := p.length_eq
    have l2 := List.length_filter_le (fun p : Int × Int => decide (0 < p.2)) t.held
    exact ⟨⟨t.free, hd, t.que⟩ :: us, .cons ⟨p5, ph, pq, hs', qs', e, m1, m2, m3.dm, m4, m5.dm, by show hd.length ≤ 100; omega, b0.2⟩ a1, .cons ⟨rfl, p, rfl⟩ a2⟩
theorem TlO.bd {C : Addr} {H : Hp} {a d q : Addr} {t : TS} (h : TlO C H a d q t) : t.held.length ≤ 12 ∧ t.que.length ≤ 100 := by
  obtain ⟨_, _, _, _, _, _, k5, k6, k7⟩ := h
  exact ⟨held_len k5 k6, k7⟩
section
variable {P : Program} {w : World} {K : PySem.W.Frag} {mg : Str → Option Value} {base : Heap}
def spStir : Sp := fun vs H Q _ => ∃ c k : Int, vs = [.int c, .int k] ∧ 0 ≤ k ∧ k ≤ 1000 ∧ ∀ m : Int, 0 ≤ m → m < 2 ^ 28 → Q (.int m) H
theorem ok_stir (D : DefAt K mg "_law_stir" s__law_stir ["cell", "k"]) : OkD P w K mg base 1 "_law_stir" ["cell", "k"] spStir := by
  refine D.ok sc__law_stir (fun vs H Q E h => ?_) (fun f cdv A outer s H vs Q E hr h => ?_)
  · obtain ⟨c, k, rfl, _⟩ := h; rfl
  obtain ⟨c, k, rfl, h0, h1, q⟩ := h
  refine ⟨_, (pss_cons (ps_if (pt_cmpR op_ge (pv 0) (pe_op op_pow pe_int pe_int) (nomark _))
  (pss_one (ps_ret (pe_op op_mod (pe_op op_shr (pe_op op_sub (pv 0) (pe_op op_pow pe_int pe_int)) (pe_op op_mul pe_int (pv 1))) (pe_op op_pow pe_int pe_int))))
  pss_nil)
  (pss_cons (ps_set (i := 2) sc__law_stir.nd rfl (Or.inl rfl) (pe_op op_mod (pe_op op_mul (pe_op op_add (pe_op op_add (pv 0) (pe_op op_mul pe_int (pv 1))) pe_int) pe_int) pe_int))
  (pss_cons (ps_set (i := 2) sc__law_stir.nd rfl (Or.inl rfl) (pe_op op_mod (pe_op op_mul (pv 2) (pv 2)) pe_int))
  (pss_one (ps_ret (pe_op op_fdiv (pe_op op_mod (pe_op op_mul (pv 2) pe_int) pe_int) pe_int)))))), ?_⟩
  walk_at "rd"
  split
  · exact ⟨by omega, q _ (Int.emod_nonneg _ (by decide)) (Int.emod_lt_of_pos _ (by decide))⟩
  · refine ⟨by omega, q _ ?_ ?_⟩ <;> omega
def spCell (K : PySem.W.Frag) : Sp := fun vs H Q _ => ∃ (a : Addr) (ns : List Int) (k : Int), vs = [.ref a, .int k] ∧ SqL K H a (ns.map V.int) ∧ 0 ≤ k ∧ ∀ c : Int, Q (.int c) H
theorem ok_cell (D : DefAt K mg "_law_cell_at" s__law_cell_at ["script", "k"]) (hlen : mg "len" = none) : OkD P w K mg base 1 "_law_cell_at" ["script", "k"] (spCell K) := by
  refine D.ok sc__law_cell_at (fun vs H Q E h => ?_) (fun f cdv A outer s H vs Q E hr h => ?_)
  · obtain ⟨_, _, _, rfl, _⟩ := h; rfl
  obtain ⟨a, ns, k, rfl, hS, h0, q⟩ := h
  refine ⟨_, (pss_cons (ps_if (pt_cmpR op_lt (pv 1) (pe_cB call_len_seq rfl hlen PySem.boot_len (pa_c (pv 0) pa_nil)) (nomark _))
  (pss_one (ps_ret (pe_ix ix_list (pv 0) (pv 1) (fun _ _ => rfl))))
  pss_nil)
  (pss_one (ps_ret pe_int))), ?_⟩
  walk_at "rd"
  refine ⟨_, .inl hS, ?_⟩
  refine ite2 (fun c => ?_) fun c => (by first | exact q _ | trivial)
  rw [List.length_map] at c
  obtain ⟨v, hv, _, he⟩ := atI_in (xs := ns.map V.int) (i := k) h0 (by rw [List.length_map]; exact c)
  obtain ⟨n, rfl⟩ : ∃ n : Int, v = .int n := by
    rw [List.getElem?_map] at he
    cases e : ns[k.toNat]? with
    | none => rw [e] at he; cases he
    | some n => rw [e] at he; cases he; exact ⟨n, rfl⟩
  exact ⟨_, hS, _, hv, q n⟩
def spVw (CG CT CS : Addr) : Sp := fun vs H Q _ => ∃ (g dt ds : Addr) (es : List Ent) (ss : List EntS), vs = [.ref g] ∧ GoA CG CT CS H g dt ds es ss ∧ es.length ≤ 10 ∧ ss.length ≤ 10 ∧ (qE es).Nodup ∧ (qE es).length < 64 ∧ ∀ v H' us, Same H H' → Dm.VwAt H' v us → VwL (es.map (·.t)) us → Q v H'
theorem ok_vw {CG CT CS : Addr} (D : DefAt K mg "_law_view" s__law_view ["goods"]) (G_Goods_tools : OkM P w K mg base 2 CG "tools" ["self"] (spTools CG CT)) (G_Goods_stores : OkM P w K mg base 2 CG "stores" ["self"] (spStores CG CS)) : OkD P w K mg base 3 "_law_view" ["goods"] (spVw CG CT CS) := by
  refine D.ok sc__law_view (fun vs H Q E h => ?_) (fun f cdv A outer s H vs Q E hr h => ?_)
  · obtain ⟨_, _, _, _, _, rfl, _⟩ := h; rfl
  obtain ⟨g, dt, ds, es, ss, rfl, G, le, ls, nd, n64, q⟩ := h
  obtain ⟨⟨dx, g1⟩, g2, g3, g4, g5, _⟩ := id G
  refine ⟨_, (pss_one (ps_ret (pe_tupG (pa_c pe_int (pa_c (pe_lstG pa_nil) (pa_c (pe_meth0G G_Goods_tools hr (pv 0)) (pa_c (pe_meth0G G_Goods_stores hr (pv 0)) (pa_c (pe_lstG pa_nil) (pa_c (pe_lstG pa_nil) pa_nil))))))))), ?_⟩
  walk_at "rz"
  intro p1 H1 hp1 k1 h1
  have g11 := k1 _ _ g1
  walk_at "rz"
  refine ⟨g, dx, dt, _, es, rfl, g11, k1 _ _ g2, fun e he => (g4 e he).grow fun c u _ hu => k1 c u hu, by omega, fun r2 H2 vs2 hr2 k2 h2 tl2 => ?_⟩
  have g12 := k2 _ _ g11
  clear g11
  walk_at "rz"
  refine ⟨g, dx, ds, _, ss, rfl, g12, k2 _ _ (k1 _ _ g3), fun e he => (g5 e he).grow fun c u _ hu => k2 c u (k1 c u hu), by omega, fun r3 H3 vs3 hr3 k3 h3 sl3 => ?_⟩
  clear g12
  walk_at "rz"
  intro p4 H4 hp4 k4 h4
  walk_at "rz"
  intro p5 H5 hp5 k5 h5
  walk_at "rz"
  intro p6 H6 hp6 k6 h6
  have k26 : Same H2 H6 := ((k3.trans k4).trans k5).trans k6
  obtain ⟨us, t1, t2⟩ := tl2.dm fun t ht => by
    obtain ⟨e, he, rfl⟩ := List.mem_map.mp ht
    exact (g4 e he).bd
  have qd := queued_of t2
  refine q (.ref p6) H6 us ((k1.trans k2).trans k26) ⟨p6, r2, _, _, _, _, _, vs2, rfl, h6, k26 _ _ h2, t1.mono k26, ?_, by rw [qd]; exact nd, by rw [qd]; exact n64⟩ t2
  rw [t2.length, List.length_map]; exact le
def QdI (g : Addr) (ts : List Dm.Tool) (H : Hp) (i : Nat) (σ : St) (H' : Hp) : Prop := ∃ (r : Addr) (v2 : Option V), σ = [some (.ref g), some (.ref r), v2] ∧ Same H H' ∧ H' r = some (.lst (((ts.take i).flatMap fun t => t.que.map (·.1)).map V.int)) ∧ H r = none
def QcP (q : List (Int × Int)) (i : Nat) (ys : List V) (σ1 : St) (H' : Hp) : Prop := ys = ((q.take i).map (·.1)).map V.int ∧ σ1.length = 2
def spQd (CG CT CS : Addr) : Sp := fun vs H Q _ => ∃ (g dt ds : Addr) (es : List Ent) (ss : List EntS), vs = [.ref g] ∧ GoA CG CT CS H g dt ds es ss ∧ es.length ≤ 10 ∧ (qE es).length < 64 ∧ ∀ r H', H r = none → Same H H' → H' r = some (.lst ((qE es).map V.int)) → Q (.ref r) H'
theorem ok_qd {CG CT CS : Addr} (D : DefAt K mg "_law_queued" s__law_queued ["goods"]) (G_Goods_tools : OkM P w K mg base 2 CG "tools" ["self"] (spTools CG CT)) : OkD P w K mg base 3 "_law_queued" ["goods"] (spQd CG CT CS) := by
  refine D.ok sc__law_queued (fun vs H Q E h => ?_) (fun f cdv A outer s H vs Q E hr h => ?_)
  · obtain ⟨_, _, _, _, _, rfl, _⟩ := h; rfl
  obtain ⟨g, dt, ds, es, ss, rfl, G, le, n64, q⟩ := h
  obtain ⟨⟨dx, g1⟩, g2, g3, g4, g5, _⟩ := id G
  have big : 100000 ≤ sizeLine := by unfold sizeLine; decide
  refine ⟨_, (pss_cons (ps_set (i := 1) sc__law_queued.nd rfl (Or.inl rfl) (pe_lstG pa_nil))
  (pss_cons (ps_for PassesOwn.never rfl (pi_list (pe_meth0G G_Goods_tools hr (pv 0))) (pg_name (i := 2) sc__law_queued.nd rfl (Or.inl rfl))
  (pss_one (ps_set (i := 1) sc__law_queued.nd rfl (Or.inl rfl) (pe_op op_catG (pv 1) (pe_compN (comp_scopeN 2 (N := ["hand", "n"]) (cap := []) rfl rfl rfl rfl (by decide +kernel) rfl rfl rfl) rfl (pi_list (pe_ix ix_g (pv 2) pe_int (fun _ _ => rfl))) (fun _ _ _ _ => (pg_tupG 2 rfl (pgs_cons (pg_name (i := 0) (show List.Nodup (α := Str) ["hand", "n"] by decide +kernel) rfl (Or.inl (lookup_relabel_local rfl)) (Or.inr (lookup_relabel_local rfl))) (pgs_cons (pg_name (i := 1) (show List.Nodup (α := Str) ["hand", "n"] by decide +kernel) rfl (Or.inl (lookup_relabel_local rfl)) (Or.inr (lookup_relabel_local rfl))) pgs_nil)))) (fun _ _ _ _ => pts_nil) (fun _ _ _ _ => (pv 0)))))))
  (pss_one (ps_ret (pv 1))))), ?_⟩
  walk_at "rz"
  intro r1 H1 hr1 k1 h1
  have g11 := k1 _ _ g1
  walk_at "rz"
  refine tfor_in ?_
  simp only [iList]
  walk_at "rz"
  refine ⟨g, dx, dt, _, es, rfl, g11, k1 _ _ g2, fun e he => (g4 e he).grow fun c u _ hu => k1 c u hu, by omega, fun r2 H2 vs2 hr2 k2 h2 tl2 => ?_⟩
  walk_at "rz"
  obtain ⟨us, t1, t2⟩ := tl2.dm fun t ht => by
    obtain ⟨e, he, rfl⟩ := List.mem_map.mp ht
    exact (g4 e he).bd
  have lv : vs2.length = es.length := by rw [t1.length, t2.length, List.length_map]
  have qeq : qE es = us.flatMap fun t => t.que.map (·.1) := (queued_of t2).symm
  have lu : us.length = es.length := by rw [t2.length, List.length_map]
  refine ⟨⟨_, SqL.of h2⟩, for_list (xs := vs2) (fun i σ H' => QdI g us H i σ H' ∧ Same H2 H') ?_ ?_ ?_ ?_⟩
  · unfold QdI
    exact ⟨⟨r1, _, rfl, k1.trans k2, k2 _ _ h1, hr1⟩, Same.refl _⟩
  · rintro i σ H3 hi ⟨_, k3⟩
    exact SqL.of (k3 _ _ h2)
  · rintro i x σ H3 hx ⟨z, k3⟩
    unfold QdI at z
    obtain ⟨r, v2, rfl, S3, h3, hr⟩ := z
    have il : i < es.length := by have := (List.getElem?_eq_some_iff.mp hx).1; omega
    obtain ⟨t, et, p5, ph, pq, hs', qs', ev, m1, m2, m3, m4, m5, b1, b2⟩ := t1.get hx
    subst ev
    have m1' := k3 _ _ m1
    have m4' := k3 _ _ m4
    have m5' : Dm.Prs H3 qs' t.que := m5.mono k3
    have lq := m5'.length
    clear h1 g11
    walk_at "rz"
    refine tcomp_in ?_
    simp only [iList]
    walk_at "rz"
    refine ⟨⟨_, SqL.of m4'⟩, compJ_list m4' (by omega) (QcP t.que) (fun H' _ => ⟨rfl, rfl⟩) ?_ ?_⟩
    · rintro D j x ys σ1 H4 hx4 at1 ⟨rfl, s2⟩
      obtain ⟨p, hh, n, rfl, en, hp⟩ := m5'.get hx4
      have hp' := at1.same _ _ hp
      obtain ⟨v0, v1, rfl⟩ : ∃ v0 v1, σ1 = [v0, v1] := by
        match σ1, s2 with
        | [v0, v1], _ => exact ⟨v0, v1, rfl⟩
      clear m4' m1' h3
      walk_at "rz"
      refine at1.put (Same.refl _) fun H5 mu => ⟨?_, rfl⟩
      rw [take_snoc en]; simp
    · rintro C ys σ1 H4 hC k4 hy hle ⟨rfl, _⟩
      rw [lq, List.take_of_length_le (Nat.le_refl _)] at hy
      have h4 := k4 _ _ h3
      have tot : ((us.take i).flatMap fun t => t.que.map (·.1)).length + (t.que.map (·.1)).length < 64 := by
        have e1 : (us.take (i + 1)).flatMap (fun t => t.que.map (·.1)) = (us.take i).flatMap (fun t => t.que.map (·.1)) ++ t.que.map (·.1) := by
          rw [take_snoc et, List.flatMap_append]; simp
        have e2 : us.flatMap (fun t => t.que.map (·.1)) = (us.take (i + 1)).flatMap (fun t => t.que.map (·.1)) ++ (us.drop (i + 1)).flatMap (fun t => t.que.map (·.1)) := by
          rw [← List.flatMap_append, List.take_append_drop]
        have e3 := congrArg List.length e2
        rw [← qeq, e1, List.length_append, List.length_append] at e3
        omega
      refine ⟨C, rfl, _, _, h4, hy, by rw [List.length_map, List.length_map]; omega, fun p6 H6 hp6 k6 h6 => ?_⟩
      walk_at "rz"
      refine ⟨?_, (k3.trans k4).trans k6⟩
      unfold QdI
      refine ⟨p6, _, rfl, (S3.trans k4).trans k6, ?_, (S3.trans k4).free hp6⟩
      rw [h6, take_snoc et, List.flatMap_append, List.map_append]
      simp
  · rintro σ H3 ⟨z, k3⟩
    unfold QdI at z
    obtain ⟨r, v2, rfl, S3, h3, hr⟩ := z
    rw [List.take_of_length_le (by omega), ← qeq] at h3
    walk_at "rz"
    try exact q r H3 hr S3 h3
end
end K60

set_option Elab.async false
set_option linter.all false
set_option maxRecDepth 100000
set_option maxHeartbeats 4000000
namespace K60
open PySem L2
def hnd (n : Nat) : List Int := (List.range n).map fun (k : Nat) => 1 + (k : Int)
theorem hnd_at {n i : Nat} (h : i < n) : (hnd n)[i]? = some (1 + (i : Int)) := by unfold hnd; rw [List.getElem?_map, List.getElem?_range h]; rfl
theorem hnd_len {n : Nat} : (hnd n).length = n := by unfold hnd; rw [List.length_map, List.length_range]
theorem hnd_mem {n : Nat} {x : Int} : x ∈ hnd n ↔ 1 ≤ x ∧ x ≤ n := by
  unfold hnd
  rw [List.mem_map]
  constructor
  · rintro ⟨k, hk, rfl⟩
    have := List.mem_range.mp hk
    omega
  · intro h
    exact ⟨(x - 1).toNat, List.mem_range.mpr (by omega), by omega⟩
theorem Dd.refl {h : Int} {es : List Ent} (o : EOk es) : Dd h es es [] := ⟨o, fun S _ st => ⟨st, fun x hx => by cases hx⟩, rfl, .inl (List.Perm.refl _), fun _ _ z => z⟩
theorem inV_ints {x : Int} : ∀ {l : List Int}, inV (.int x) (l.map V.int) = decide (x ∈ l)
  | [] => by rw [List.map_nil, inV_nil]; simp
  | y :: l => by
    rw [List.map_cons, inV_cons, eqV_ii, inV_ints]
    by_cases c : y = x
    · simp [c]
    · simp [c, Ne.symm c]
theorem flt_ints : ∀ l : List Int, (l.map V.int).all flatV = true
  | [] => rfl
  | y :: l => by rw [List.map_cons, List.all_cons, flt_ints l]; rfl
def Dn (es es' : List Ent) (sv : List Int) : Prop := (∃ hd, Dd hd es es' sv ∧ hd ∉ qE es ∧ 1 ≤ hd ∧ hd ≤ 9) ∨ (es' = es ∧ sv = [])
theorem que_le {es : List Ent} {e : Ent} (he : e ∈ es) : e.t.que.length ≤ (qE es).length := by
  obtain ⟨l1, l2, rfl⟩ := List.append_of_mem he
  rw [qE_app, qE_cons, List.length_append, List.length_append, List.length_map]; omega
theorem srv_len {a b c : List (Int × Int)} (h : a ++ b = c) : a.length ≤ c.length := by rw [← h, List.length_append]; omega
theorem frN {CG CT CS : Addr} {H H3 H4 : Hp} {g dt ds : Addr} {es : List Ent} {ss : List EntS} (G3 : GoA CG CT CS H3 g dt ds es ss) (S3 : Same H H3) (f4 : FrG (adE es) H3 H4) (G4 : ∀ c ∈ adE es, ∃ u, H4 c = some u) {c : Addr} (hc : H4 c = none) : H c = none := by
  cases z : H c with
  | none => rfl
  | some u =>
    by_cases m : c ∈ adE es
    · obtain ⟨u', h'⟩ := G4 c m
      rw [h'] at hc; cases hc
    · rw [f4 c u m (S3 _ _ z)] at hc; cases hc
theorem adHas {CG CT CS : Addr} {H4 : Hp} {g dt ds : Addr} {es es' : List Ent} {ss : List EntS} (G4 : GoA CG CT CS H4 g dt ds es' ss) (e : adE es' = adE es) : ∀ c ∈ adE es, ∃ u, H4 c = some u := fun c hc => G4.has c (List.mem_cons_of_mem _ (List.mem_cons_of_mem _ (List.mem_cons_of_mem _ (List.mem_append_left _ (by rw [e]; exact hc)))))
theorem Svd.get {w : Str} {H : Hp} : ∀ {vs : List V} {ps : List (Int × Int)}, Svd w H vs ps → ∀ {i : Nat} {v : V}, vs[i]? = some v → ∃ p h n, v = .ref p ∧ ps[i]? = some (h, n) ∧ H p = some (.tup [.int h, .str w, .int n])
  | _, _, .nil, i, v, e => by simp at e
  | _, _, .cons hp r, i, v, e => by
    cases i with
    | zero => simp at e; exact ⟨_, _, _, e.symm, rfl, hp⟩
    | succ i => simpa using r.get (i := i) (v := v) (by simpa using e)
theorem LvL.get {bad : List Addr} {H : Hp} : ∀ {vs : List V} {l : List (Str × Int × List (Int × Int))}, LvL bad H vs l → ∀ {i : Nat} {v : V}, vs[i]? = some v → ∃ p r nm b sv its, v = .ref p ∧ l[i]? = some (nm, b, its) ∧ H p = some (.tup [.str nm, .int b, .ref r]) ∧ H r = some (.lst sv) ∧ Svd "takes" H sv its
  | _, _, .nil, i, v, e => by simp at e
  | _, _, .cons h1 h2 h3 h4 r, i, v, e => by
    cases i with
    | zero => simp at e; exact ⟨_, _, _, _, _, _, e.symm, rfl, h1, h2, h4⟩
    | succ i => simpa using r.get (i := i) (v := v) (by simpa using e)
def SvP (q : List (Int × Int)) (i : Nat) (ys : List V) (σ1 : St) (H' : Hp) : Prop := ys = ((q.take i).map (·.1)).map V.int ∧ σ1.length = 1
/-- not in l -/
def fre (l : List Int) (x : Int) : Bool := !decide (x ∈ l)
theorem sh_ints (ns : List Int) : SeqAt.shaped (.list (ns.map PyData.int)) = true := by
  unfold SeqAt.shaped
  have e : ∀ ns : List Int, PyData.canLayAll0 (ns.map PyData.int) = true := fun ns => by
    induction ns with
    | nil => rfl
    | cons n ns ih => rw [List.map_cons, PyData.canLayAll0, ih]; rfl
  have d : ∀ ns : List Int, PyData.depthAll (ns.map PyData.int) ≤ 1 := fun ns => by
    induction ns with
    | nil => simp [PyData.depthAll]
    | cons n ns ih => simp only [List.map_cons, PyData.depthAll, PyData.depth] at ih ⊢; omega
  have e1 : PyData.canLay0 (.list (ns.map PyData.int)) = true := by
    simp only [PyData.canLay0]
    exact e ns
  have d1 := d ns
  rw [e1, Bool.true_and, decide_eq_true_eq]
  simp only [PyData.depth]
  omega
theorem rp_ints {K : PySem.W.Frag} {H : Hp} : ∀ ns : List Int, RpL K H (ns.map V.int) (ns.map PyData.int)
  | [] => .nil
  | n :: ns => .cons (.int n) (rp_ints ns)
theorem eqv_nil {ds : List PyData} : PyData.eqv (.list ds) (.list []) = ds.isEmpty := by
  cases ds with
  | nil => decide
  | cons d ds => simp [PyData.eqv, PyData.eqvAll]
theorem eq_nil {K : PySem.W.Frag} {H : Hp} {a p : Addr} {xs : List V} {ds : List PyData} {Kx : VK} (ha : H a = some (.lst xs)) (r : RpL K H xs ds) (sh : SeqAt.shaped (.list ds) = true) (hp : H p = some (.lst [])) (k : Kx (.bl xs.isEmpty) H) : rEqD K (.ref a) (.ref p) H Kx := by
  refine ⟨.list ds, .list [], .lst ha r, .lst hp .nil, sh, by decide, ?_⟩
  rw [eqv_nil]
  have : ds.isEmpty = xs.isEmpty := by cases r <;> rfl
  rw [this]
  exact k
theorem ne_nil {K : PySem.W.Frag} {H : Hp} {a p : Addr} {xs : List V} {ds : List PyData} {Kx : VK} (ha : H a = some (.lst xs)) (r : RpL K H xs ds) (sh : SeqAt.shaped (.list ds) = true) (hp : H p = some (.lst [])) (k : Kx (.bl (!xs.isEmpty)) H) : rNeD K (.ref a) (.ref p) H Kx := by
  refine ⟨.list ds, .list [], .lst ha r, .lst hp .nil, sh, by decide, ?_⟩
  rw [eqv_nil]
  have : ds.isEmpty = xs.isEmpty := by cases r <;> rfl
  rw [this]
  exact k
section
variable {P : Program} {w : World} {K : PySem.W.Frag} {mg : Str → Option Value} {base : Heap}
def SmP (g : Addr) (q : List Int) (n : Nat) (i : Nat) (ys : List V) (σ1 : St) (H' : Hp) : Prop := ys = (((hnd n).take i).filter (fre q)).map V.int ∧ ∃ v0, σ1 = [v0, some (.ref g)]
def LdI (st : St) (L : List (Str × Int × List (Int × Int))) (H H5 : Hp) (i : Nat) (σ : St) (H' : Hp) : Prop := ∃ (r : Addr) (v10 v11 v12 : Option V), σ = st ++ [some (.ref r), v10, v11, v12] ∧ Same H5 H' ∧ H' r = some (.lst (((L.take i).flatMap fun x => x.2.2.map (·.1)).map V.int)) ∧ H r = none
def spDeed (CG CT CS : Addr) : Sp := fun vs H Q _ => ∃ (g dt ds na : Addr) (es : List Ent) (ss : List EntS) (cell : Int) (many : Nat), vs = [.ref g, .ref na, .int cell, .int many] ∧ GoA CG CT CS H g dt ds es ss ∧ EOk es ∧ H na = some (.lst ((es.map (·.name)).map V.str)) ∧ 0 < es.length ∧ es.length ≤ 4 ∧ many ≤ 9 ∧ (qE es).Nodup ∧ (∀ x ∈ qE es, 1 ≤ x ∧ x ≤ 9) ∧ na ∉ adE es ∧
  ∀ (H' : Hp) (r : Addr) (es' : List Ent) (sv : List Int), FrG (adE es) H H' → H r = none → GoA CG CT CS H' g dt ds es' ss → adE es' = adE es → Dn es es' sv → H' r = some (.lst (sv.map V.int)) → Q (.ref r) H'
theorem ok_deed {CG CT CS : Addr} (D : DefAt K mg "_law_deed" s__law_deed ["goods", "names", "cell", "many"]) (G__law_queued : OkD P w K mg base 3 "_law_queued" ["goods"] (spQd CG CT CS)) (G__law_stir : OkD P w K mg base 1 "_law_stir" ["cell", "k"] spStir) (G_Goods_take : OkM P w K mg base 2 CG "take" ["self", "hand", "name", "n"] (spTake CG CT)) (G_Goods_give : OkM P w K mg base 3 CG "give" ["self", "hand", "name", "n"] (spGive CG CT)) (G_Goods_leave : OkM P w K mg base 4 CG "leave" ["self", "hand"] (spLeave CG CT CS)) (hrange : mg "range" = none) (hlen : mg "len" = none) : OkD P w K mg base 5 "_law_deed" ["goods", "names", "cell", "many"] (spDeed CG CT CS) := by
  refine D.ok sc__law_deed (fun vs H Q E h => ?_) (fun f cdv A outer s H vs Q E hr h => ?_)
  · obtain ⟨_, _, _, _, _, _, _, _, rfl, _⟩ := h; rfl
  obtain ⟨g, dt, ds, na, es, ss, cell, many, rfl, G, o, hna, l0, l4, m9, nd, q9, nna, q⟩ := h
  have hu := hu_of hr
  have hu64 := hr.units
  have big : 100000 ≤ sizeLine := by unfold sizeLine; decide
  have ql : (qE es).length < 64 := by
    have := nd_le nd (m := hnd 9) fun x hx => hnd_mem.mpr (by have := q9 x hx; omega)
    rw [hnd_len] at this; omega
  refine ⟨_, (pss_cons (ps_setCN (i := 4) sc__law_deed.nd rfl (Or.inl rfl) (comp_scopeN 1 (N := ["hand", "goods"]) (cap := [0]) rfl rfl rfl rfl (by decide +kernel) rfl rfl rfl) rfl (pi_range2 rfl hrange (pa_c pe_int (pa_c (pe_op op_add (pv 3) pe_int) pa_nil))) (fun _ _ _ _ => (pg_name (i := 0) (show List.Nodup (α := Str) ["hand", "goods"] by decide +kernel) rfl (Or.inl (lookup_relabel_local rfl)) (Or.inr (lookup_relabel_local rfl)))) (fun _ _ _ _ => (pts_one (pt_cmpR op_notInG (pv 0) (pe_def G__law_queued hr rfl (pa_c (pv 1) pa_nil)) (by with_unfolding_all rfl)))) (fun _ _ _ _ => (pv 0)))
  (pss_cons (ps_if (pt_cmpR (op_eqD hu64) (pv 4) (pe_lstG pa_nil) (nomark _))
  (pss_one (ps_ret (pe_lstG pa_nil)))
  pss_nil)
  (pss_cons (ps_set (i := 5) sc__law_deed.nd rfl (Or.inl rfl) (pe_ix ix_g (pv 4) (pe_op op_mod (pe_def G__law_stir hr rfl (pa_c (pv 2) (pa_c pe_int pa_nil))) (pe_cB call_len_seq rfl hlen PySem.boot_len (pa_c (pv 4) pa_nil))) (fun _ _ => rfl)))
  (pss_cons (ps_set (i := 6) sc__law_deed.nd rfl (Or.inl rfl) (pe_ix ix_g (pv 1) (pe_op op_mod (pe_def G__law_stir hr rfl (pa_c (pv 2) (pa_c pe_int pa_nil))) (pe_cB call_len_seq rfl hlen PySem.boot_len (pa_c (pv 1) pa_nil))) (fun _ _ => rfl)))
  (pss_cons (ps_set (i := 7) sc__law_deed.nd rfl (Or.inl rfl) (pe_op op_add pe_int (pe_op op_mod (pe_def G__law_stir hr rfl (pa_c (pv 2) (pa_c pe_int pa_nil))) (pe_ix ix_g (pe_lstG (pa_c pe_int (pa_c pe_int (pa_c pe_int pa_nil)))) (pe_op op_mod (pe_def G__law_stir hr rfl (pa_c (pv 2) (pa_c pe_int pa_nil))) pe_int) (fun _ _ => rfl)))))
  (pss_cons (ps_set (i := 8) sc__law_deed.nd rfl (Or.inl rfl) (pe_op op_mod (pe_def G__law_stir hr rfl (pa_c (pv 2) (pa_c pe_int pa_nil))) pe_int))
  (pss_cons (ps_if (pt_cmpR op_lt (pv 8) pe_int (nomark _))
  (pss_cons (ps_expr (pe_methG G_Goods_take hr (pv 0) (pa_c (pv 5) (pa_c (pv 6) (pa_c (pv 7) pa_nil)))))
  (pss_one (ps_ret (pe_lstG pa_nil))))
  pss_nil)
  (pss_cons (ps_if (pt_cmpR op_eq (pv 8) pe_int (nomark _))
  (pss_one (ps_ret (pe_compN (comp_scopeN 1 (N := ["one"]) (cap := []) rfl rfl rfl rfl (by decide +kernel) rfl rfl rfl) rfl (pi_list (pe_ix ix_g (pe_methG G_Goods_give hr (pv 0) (pa_c (pv 5) (pa_c (pv 6) (pa_c (pv 7) pa_nil)))) pe_int (fun _ _ => rfl))) (fun _ _ _ _ => (pg_name (i := 0) (show List.Nodup (α := Str) ["one"] by decide +kernel) rfl (Or.inl (lookup_relabel_local rfl)) (Or.inr (lookup_relabel_local rfl)))) (fun _ _ _ _ => pts_nil) (fun _ _ _ _ => (pe_ix ix_g (pv 0) pe_int (fun _ _ => rfl))))))
  pss_nil)
  (pss_cons (ps_set (i := 9) sc__law_deed.nd rfl (Or.inl rfl) (pe_lstG pa_nil))
  (pss_cons (ps_for PassesOwn.never rfl (pi_list (pe_methG G_Goods_leave hr (pv 0) (pa_c (pv 5) pa_nil))) (pg_tupG 3 rfl (pgs_cons (pg_name (i := 10) sc__law_deed.nd rfl (Or.inl rfl)) (pgs_cons (pg_name (i := 11) sc__law_deed.nd rfl (Or.inl rfl)) (pgs_cons (pg_name (i := 12) sc__law_deed.nd rfl (Or.inl rfl)) pgs_nil))))
  (pss_one (ps_set (i := 9) sc__law_deed.nd rfl (Or.inl rfl) (pe_op op_catG (pv 9) (pe_compN (comp_scopeN 1 (N := ["one"]) (cap := []) rfl rfl rfl rfl (by decide +kernel) rfl rfl rfl) rfl (pi_list (pv 12)) (fun _ _ _ _ => (pg_name (i := 0) (show List.Nodup (α := Str) ["one"] by decide +kernel) rfl (Or.inl (lookup_relabel_local rfl)) (Or.inr (lookup_relabel_local rfl)))) (fun _ _ _ _ => pts_nil) (fun _ _ _ _ => (pe_ix ix_g (pv 0) pe_int (fun _ _ => rfl))))))))
  (pss_one (ps_ret (pv 9))))))))))))), ?_⟩
  walk_at "rz"
  refine tcomp_in ?_
  simp only [iRng2]
  walk_at "rz"
  rw [show ((many : Int) + 1 - 1).toNat = many by omega]
  refine ⟨by omega, by omega, compJ (over_range 1 many) (fun _ _ => trivial) (by rw [List.length_map, List.length_range]; omega) (SmP g (qE es) many) (fun H' _ => ⟨rfl, _, rfl⟩) ?_ ?_⟩
  · rintro D i x ys σ1 H1 hx at1 ⟨rfl, v0, rfl⟩
    have hi : i < many := by have := (List.getElem?_eq_some_iff.mp hx).1; rw [List.length_map, List.length_range] at this; exact this
    rw [List.getElem?_map, List.getElem?_range hi] at hx
    cases hx
    walk_at "rz"
    refine ⟨g, dt, ds, es, ss, rfl, G.same at1.same, by omega, ql, fun r H2 hr2 g2 h2 => ?_⟩
    walk_at "rz"
    refine ⟨flt_ints _, ?_⟩
    have e1 : ((hnd many).take (i + 1)).filter (fre (qE es)) = ((hnd many).take i).filter (fre (qE es)) ++ (if fre (qE es) (1 + (i : Int)) = true then [1 + (i : Int)] else []) := by
      rw [take_snoc (hnd_at hi), List.filter_append, List.filter_cons, List.filter_nil]
    rw [if_pos rfl]
    simp only [inV_ints]
    walk_at "rz"
    refine ite2 (fun c => ?_) fun c => ?_
    · walk_at "rz"
      refine at1.put g2 fun H5 mu => ⟨?_, _, rfl⟩
      rw [e1, if_pos (by unfold fre; exact c), List.map_append]; rfl
    · refine at1.skip g2 ⟨?_, _, rfl⟩
      rw [e1, if_neg (by unfold fre; exact c), List.append_nil]
  · rintro C ys σ1 H1 hC g1 hy hle ⟨rfl, _⟩
    rw [List.length_map, List.length_range, List.take_of_length_le (by rw [hnd_len]; exact Nat.le_refl _)] at hy
    have G1 := G.same g1
    have hna1 := g1 _ _ hna
    intro p2 H2 hp2 g2 h2
    refine eq_nil (g2 _ _ hy) (rp_ints _) (sh_ints _) h2 ?_
    clear h2
    walk_at "rz"
    generalize hfr : (hnd many).filter (fre (qE es)) = fr at hy
    have frm : ∀ x ∈ fr, x ∉ qE es ∧ 1 ≤ x ∧ x ≤ 9 := fun x hx => by
      rw [← hfr] at hx
      obtain ⟨a1, a2⟩ := List.mem_filter.mp hx
      have := hnd_mem.mp a1
      unfold fre at a2
      exact ⟨by simpa using a2, by omega, by omega⟩
    refine ite2 (fun c => ?_) fun c => ?_
    · walk_at "rz"
      intro p3 H3 hp3 g3 h3
      exact q H3 p3 es [] (fun c u _ hc => g3 _ _ (g2 _ _ (g1 _ _ hc))) ((g1.trans g2).free hp3) ((G1.same g2).same g3) rfl (.inr ⟨rfl, rfl⟩) h3
    · have f0 : 0 < fr.length := by
        cases fr with
        | nil => simp at c
        | cons _ _ => simp
      have hy2 := g2 _ _ hy
      have hna2 := g2 _ _ hna1
      have G2 := G1.same g2
      clear hna1 hy hna
      walk_at "rz"
      refine ⟨cell, 1, rfl, by decide, by decide, fun m1 m10 m11 => ?_⟩
      walk_at "rz"
      refine ⟨_, .inl (SqL.of hy2), ?_⟩
      walk_at "rz"
      have lf : (fr.map V.int).length = fr.length := List.length_map _
      rw [lf]
      refine ⟨by omega, ?_⟩
      obtain ⟨v, ev, hv, _⟩ := atI_in (xs := fr.map V.int) (Int.emod_nonneg m1 (show (fr.length : Int) ≠ 0 by omega)) (by rw [lf]; exact Int.emod_lt_of_pos m1 (by omega))
      obtain ⟨hd, hhd, rfl⟩ := List.mem_map.mp hv
      walk_at "rz"
      refine ⟨cell, 2, rfl, by decide, by decide, fun m2 m20 m21 => ?_⟩
      clear ev hy2
      walk_at "rz"
      refine ⟨_, .inl (SqL.of hna2), ?_⟩
      walk_at "rz"
      have ln : ((es.map (·.name)).map V.str).length = es.length := by rw [List.length_map, List.length_map]
      rw [ln]
      refine ⟨by omega, ?_⟩
      obtain ⟨v, ev, hv, _⟩ := atI_in (xs := (es.map (·.name)).map V.str) (Int.emod_nonneg m2 (show (es.length : Int) ≠ 0 by omega)) (by rw [ln]; exact Int.emod_lt_of_pos m2 (by omega))
      obtain ⟨nm, hnm, rfl⟩ := List.mem_map.mp hv
      obtain ⟨e, he, rfl⟩ := List.mem_map.mp hnm
      walk_at "rz"
      refine ⟨cell, 3, rfl, by decide, by decide, fun m3 m30 m31 => ?_⟩
      clear ev hna2
      walk_at "rz"
      intro p3 H3 hp3 g3 h3
      walk_at "rz"
      refine ⟨cell, 4, rfl, by decide, by decide, fun m4 m40 m41 => ?_⟩
      walk_at "rz"
      obtain ⟨v, ev, hv, _⟩ := atI_in (xs := [V.int 2, V.int 4, V.int 10]) (Int.emod_nonneg m4 (show (3 : Int) ≠ 0 by decide)) (by simp; exact Int.emod_lt_of_pos m4 (by decide))
      obtain ⟨cc, rfl, c0⟩ : ∃ c, v = .int c ∧ 0 < c := by
        simp at hv
        rcases hv with rfl | rfl | rfl <;> exact ⟨_, rfl, by decide⟩
      refine ⟨_, ev, ?_⟩
      clear ev h3
      walk_at "rz"
      refine ⟨cell, 5, rfl, by decide, by decide, fun m5 m50 m51 => ?_⟩
      have n0 := Int.emod_nonneg m3 (show cc ≠ 0 by omega)
      have G3 := G2.same g3
      have S3 : Same H H3 := (g1.trans g2).trans g3
      have fh := frm hd hhd
      have hdhs : hd ∈ hs := by
        have : hd = 1 ∨ hd = 2 ∨ hd = 3 ∨ hd = 4 ∨ hd = 5 ∨ hd = 6 ∨ hd = 7 ∨ hd = 8 ∨ hd = 9 := by omega
        rcases this with rfl | rfl | rfl | rfl | rfl | rfl | rfl | rfl | rfl <;> decide
      walk_at "rz"
      obtain ⟨⟨dxg, x1⟩, _⟩ := id G3
      refine ite2 (fun c6 => ?_) fun c6 => ?_
      · walk_at "rz"
        obtain ⟨l1, l2, ees⟩ := List.append_of_mem he
        subst ees
        refine go_take G3 hdhs (by have := que_le he; omega) fun H4 f4 G4 => ?_
        clear x1
        intro p5 H5 hp5 g5 h5
        refine q H5 p5 _ [] (fun c u n hc => g5 _ _ (f4 c u n (S3 _ _ hc))) ?_ (G4.same g5) (by unfold adE; simp) (.inl ⟨hd, dd_take o (by omega), fh⟩) h5
        exact frN G3 S3 f4 (adHas G4 (by unfold adE; simp)) hp5
      · walk_at "rz"
        refine ite2 (fun c7 => ?_) fun c7 => ?_
        · walk_at "rz"
          refine tcomp_in ?_
          simp only [iList]
          walk_at "rz"
          obtain ⟨l1, l2, ees⟩ := List.append_of_mem he
          subst ees
          refine go_give G3 hdhs fun H4 p4 r4 sv4 f4 hr4 hp4 hsv4 sd4 G4 => ?_
          clear x1
          walk_at "rz"
          have ls := sd4.length
          have lg := (give_ok (h := hd) (o e he) (show 0 ≤ 1 + m3 % cc by omega)).2.2.2
          refine ⟨⟨_, SqL.of hsv4⟩, compJ_list hsv4 (by have := que_le he; have := srv_len (give_que (t := e.t) (h := hd) (n := 1 + m3 % cc)); omega) (SvP (giveS e.t hd (1 + m3 % cc)).1) (fun H' _ => ⟨rfl, rfl⟩) ?_ ?_⟩
          · rintro D i x ys σ1 H5 hx at1 ⟨rfl, s2⟩
            obtain ⟨p, hh, n, rfl, en, hp⟩ := sd4.get hx
            have hp' := at1.same _ _ hp
            obtain ⟨v0, rfl⟩ : ∃ v0, σ1 = [v0] := by
              match σ1, s2 with
              | [v0], _ => exact ⟨v0, rfl⟩
            clear hp4 hsv4
            walk_at "rz"
            refine at1.put (Same.refl _) fun H6 mu => ⟨?_, rfl⟩
            rw [take_snoc en]; simp
          · rintro C2 ys σ1 H5 hC2 k5 hy5 hle5 ⟨rfl, _⟩
            rw [ls, List.take_of_length_le (Nat.le_refl _)] at hy5
            refine q H5 C2 _ _ (fun c u n hc => k5 _ _ (f4 c u n (S3 _ _ hc))) ?_ (G4.same k5) (by unfold adE; simp) (.inl ⟨hd, dd_give o (by omega), fh⟩) hy5
            exact frN G3 S3 f4 (adHas G4 (by unfold adE; simp)) hC2
        · walk_at "rz"
          intro lf0 H4 hl4 g4 h4
          have G4 := G3.same g4
          have x4 := g4 _ _ x1
          clear x1
          walk_at "rz"
          refine tfor_in ?_
          simp only [iList]
          walk_at "rz"
          refine ⟨g, dt, ds, es, ss, hd, rfl, G4, hdhs, by omega, fun H5 lf vs5 f5 hlf G5 hv5 lv5 => ?_⟩
          clear x4
          walk_at "rz"
          have hl40 : H lf0 = none := S3.free hl4
          have nlf : lf0 ∉ adE es := fun z => by
            obtain ⟨u, hu⟩ := adHas G3 rfl _ z
            rw [hu] at hl4; cases hl4
          have llv := lv5.length
          have svp := lv_perm (h := hd) es
          have svl : (svL hd es).length < 64 := by have := svp.length_eq; rw [List.length_append] at this; omega
          have fl : ∀ j, ((es.filterMap (lvI hd)).take j).flatMap (fun x => x.2.2.map (·.1)) ++ ((es.filterMap (lvI hd)).drop j).flatMap (fun x => x.2.2.map (·.1)) = svL hd es := fun j => by
            unfold svL
            rw [← List.flatMap_append, List.take_append_drop]
          refine ⟨⟨_, SqL.of hv5⟩, for_list (xs := vs5) (LdI [some (V.ref g), some (V.ref na), some (V.int cell), some (V.int many), some (V.ref C), some (V.int hd), some (V.str e.name), some (V.int (1 + m3 % cc)), some (V.int (m5 % 8))] (es.filterMap (lvI hd)) H H5) ?_ ?_ ?_ ?_⟩
          · unfold LdI
            exact ⟨lf0, _, _, _, rfl, Same.refl _, f5 _ _ nlf h4, hl40⟩
          · intro j σ H6 hj z
            unfold LdI at z
            obtain ⟨r, v10, v11, v12, rfl, S6, h6, hr6⟩ := z
            exact SqL.of (S6 _ _ hv5)
          · intro j x σ H6 hx z
            unfold LdI at z
            obtain ⟨r, v10, v11, v12, rfl, S6, h6, hr6⟩ := z
            obtain ⟨p, rs, nm, b, sv, its, rfl, el, a1, a2, a4⟩ := lv5.get hx
            have a1' := S6 _ _ a1
            have a2' := S6 _ _ a2
            have a4' : Svd "takes" H6 sv its := a4.mono fun c xs hc => S6 _ _ hc
            have lsv := a4'.length
            have e1 : ((es.filterMap (lvI hd)).take (j + 1)).flatMap (fun x => x.2.2.map (·.1)) = ((es.filterMap (lvI hd)).take j).flatMap (fun x => x.2.2.map (·.1)) ++ its.map (·.1) := by
              rw [take_snoc el, List.flatMap_append]; simp
            have e2 := congrArg List.length (fl (j + 1))
            rw [e1, List.length_append, List.length_append, List.length_map] at e2
            clear h4 hv5
            simp only [List.cons_append, List.nil_append]
            walk_at "rz"
            refine tcomp_in ?_
            simp only [iList]
            walk_at "rz"
            refine ⟨⟨_, SqL.of a2'⟩, compJ_list a2' (by omega) (SvP its) (fun H' _ => ⟨rfl, rfl⟩) ?_ ?_⟩
            · rintro D i x ys σ1 H7 hx7 at1 ⟨rfl, s2⟩
              obtain ⟨p7, hh, n7, rfl, en, hp7⟩ := a4'.get hx7
              have hp7' := at1.same _ _ hp7
              obtain ⟨v0, rfl⟩ : ∃ v0, σ1 = [v0] := by
                match σ1, s2 with
                | [v0], _ => exact ⟨v0, rfl⟩
              clear a1' a2' h6
              walk_at "rz"
              refine at1.put (Same.refl _) fun H8 mu => ⟨?_, rfl⟩
              rw [take_snoc en]; simp
            · rintro C7 ys σ1 H7 hC7 k7 hy7 hle7 ⟨rfl, _⟩
              rw [lsv, List.take_of_length_le (Nat.le_refl _)] at hy7
              have h7 := k7 _ _ h6
              refine ⟨C7, rfl, _, _, h7, hy7, by rw [List.length_map, List.length_map, List.length_map]; omega, fun p8 H8 hp8 k8 h8 => ?_⟩
              walk_at "rz"
              unfold LdI
              refine ⟨p8, _, _, _, rfl, (S6.trans k7).trans k8, ?_, ?_⟩
              · rw [h8, e1, List.map_append]
              · refine frN G3 S3 (fun c u n hc => ?_) (adHas (G5.same (S6.trans k7)) (adE_map es)) hp8
                exact k7 _ _ (S6 _ _ (f5 c u n (g4 _ _ hc)))
          · intro σ H6 z
            unfold LdI at z
            obtain ⟨r, v10, v11, v12, rfl, S6, h6, hr6⟩ := z
            rw [llv, List.take_of_length_le (Nat.le_refl _)] at h6
            simp only [List.cons_append, List.nil_append]
            walk_at "rz"
            exact q H6 r _ (svL hd es) (fun c u n hc => S6 _ _ (f5 c u n (g4 _ _ (S3 _ _ hc)))) hr6 (G5.same S6) (adE_map es) (.inl ⟨hd, dd_leave o, fh⟩) h6
end
end K60

set_option Elab.async false
set_option linter.all false
set_option maxRecDepth 100000
set_option maxHeartbeats 4000000
namespace K60
open PySem L2
/-- in a list without doubles: who is where -/
theorem sum_of {L : List Int} (nl : L.Nodup) : ∀ {held : List (Int × Int)}, (held.map (·.1)).Nodup → sumH (held.filter fun p => decide (p.1 ∈ L)) = (L.map (getI held)).sum
  | [], _ => by
    have : ∀ L : List Int, (L.map (getI [])).sum = 0 := fun L => by
      induction L with
      | nil => rfl
      | cons a L ih => rw [List.map_cons, List.sum_cons, ih]; rfl
    rw [this]; rfl
  | (a, y) :: held, nd => by
    rw [List.map_cons, List.nodup_cons] at nd
    have ih := sum_of nl nd.2
    have key : ∀ L : List Int, L.Nodup → (L.map (getI ((a, y) :: held))).sum = (L.map (getI held)).sum + if a ∈ L then y - getI held a else 0 := fun L => by
      induction L with
      | nil => intro _; simp
      | cons b L ih2 =>
        intro nb
        rw [List.nodup_cons] at nb
        rw [List.map_cons, List.sum_cons, List.map_cons, List.sum_cons, ih2 nb.2]
        show (if a = b then y else getI held b) + _ = _
        by_cases c : a = b
        · subst c
          rw [if_pos rfl, if_neg nb.1, if_pos List.mem_cons_self]; omega
        · rw [if_neg c]
          by_cases c2 : a ∈ L
          · rw [if_pos c2, if_pos (List.mem_cons_of_mem _ c2)]; omega
          · rw [if_neg c2, if_neg (fun z => (List.mem_cons.mp z).elim c c2)]; omega
    have g0 : getI held a = 0 := by
      have : ∀ l : List (Int × Int), a ∉ l.map (·.1) → getI l a = 0 := fun l => by
        induction l with
        | nil => intro _; rfl
        | cons p l ih3 =>
          intro hn
          rw [List.map_cons, List.mem_cons, not_or] at hn
          show (if p.1 = a then p.2 else getI l a) = 0
          rw [if_neg (Ne.symm hn.1)]
          exact ih3 hn.2
      exact this held nd.1
    rw [key L nl, g0, List.filter_cons]
    by_cases c : a ∈ L
    · rw [if_pos (decide_eq_true c), if_pos c, sumH_cons, ih]; omega
    · rw [if_neg (by simpa using c), if_neg c, ih]; omega
theorem mem_get {held : List (Int × Int)} (nd : (held.map (·.1)).Nodup) {p : Int × Int} (hp : p ∈ held) : getI held p.1 = p.2 := by
  induction held with
  | nil => cases hp
  | cons q l ih =>
    rw [List.map_cons, List.nodup_cons] at nd
    show (if q.1 = p.1 then q.2 else getI l p.1) = p.2
    rcases List.mem_cons.mp hp with z | z
    · rw [z, if_pos rfl]
    · rw [if_neg (fun y => nd.1 (by rw [y]; exact List.mem_map_of_mem (f := fun x : Int × Int => x.1) z))]
      exact ih nd.2 z
theorem sum_all {held : List (Int × Int)} {L : List Int} (nd : (held.map (·.1)).Nodup) (h : ∀ k, k ∉ L → getI held k = 0) : sumH (held.filter fun p => decide (p.1 ∈ L)) = sumH held := by
  have : ∀ l : List (Int × Int), (∀ p ∈ l, p.1 ∉ L → p.2 = 0) → sumH (l.filter fun p => decide (p.1 ∈ L)) = sumH l := fun l => by
    induction l with
    | nil => intro _; rfl
    | cons p l ih =>
      intro hl
      have i2 := ih fun q hq => hl q (List.mem_cons_of_mem _ hq)
      rw [List.filter_cons]
      by_cases c : p.1 ∈ L
      · rw [if_pos (decide_eq_true c), sumH_cons, sumH_cons, i2]
      · rw [if_neg (by simpa using c), sumH_cons, i2, hl p List.mem_cons_self c]; omega
  exact this held fun p hp hn => by rw [← mem_get nd hp]; exact h _ hn
/-- as far as all that were free have left -/
structure AL (es0 es : List Ent) (G SV : List Int) : Prop where
  ok : EOk es
  ln : es.length = es0.length
  pm : (SV ++ qE es).Perm (qE es0)
  ix : ∀ (j : Nat) e0 e, es0[j]? = some e0 → es[j]? = some e → e.c = e0.c ∧ (∃ sv, e0.t.que = sv ++ e.t.que ∧ ∀ p ∈ sv, p.1 ∉ qE es) ∧ ∀ h ∈ qE es, getI e.t.held h = getI e0.t.held h
  zr : ∀ e ∈ es, ∀ h, h ∉ qE es → h ∉ G → getI e.t.held h = 0
  gq : ∀ h ∈ G, h ∉ qE es
  st : ∀ S : Int → Bool, EStk es0 S → (∀ x, S x = true → x ∈ qE es0) → EStk es S ∧ ∀ x, S x = true → x ∈ qE es
theorem AL.step {es0 es : List Ent} {G SV : List Int} {g : Int} (A : AL es0 es (G ++ [g]) SV) (nd : (qE es0).Nodup) : AL es0 (es.map (lv1 g)) (G ++ svL g es) (SV ++ svL g es) := by
  have lp := lv_perm (h := g) es
  have nde : (qE es).Nodup := by
    have := (A.pm.nodup_iff.mpr nd)
    exact (List.nodup_append.mp this).2.1
  have nds := lp.nodup_iff.mpr nde
  have dj := (List.nodup_append.mp nds).2.2
  have gn : g ∉ qE es := A.gq g (by simp)
  have sub : ∀ x, x ∈ qE (es.map (lv1 g)) → x ∈ qE es := fun x hx => lp.mem_iff.mp (List.mem_append_right _ hx)
  have sbs : ∀ x, x ∈ svL g es → x ∈ qE es := fun x hx => lp.mem_iff.mp (List.mem_append_left _ hx)
  refine ⟨(dd_leave A.ok).ok, by rw [List.length_map]; exact A.ln, ?_, fun j e0 e h0 he => ?_, fun e he h hq hG => ?_, fun h hh => ?_, fun S s1 s2 => ?_⟩
  · rw [List.append_assoc]
    exact (lp.append_left _).trans A.pm
  · rw [List.getElem?_map] at he
    obtain ⟨e1, h1, rfl⟩ := Option.map_eq_some_iff.mp he
    obtain ⟨i1, ⟨sv, i2, i2'⟩, i3⟩ := A.ix j e0 e1 h0 h1
    have o1 := A.ok e1 (List.mem_of_getElem? h1)
    refine ⟨lv_c.trans i1, ?_, fun h hh => ?_⟩
    · have : ∃ s, e1.t.que = s ++ (lv1 g e1).t.que ∧ ∀ p ∈ s, p.1 ∈ svL g [e1] := by
        rw [svL_cons]
        unfold lv1
        by_cases c : 0 < getI e1.t.held g
        · rw [if_pos c, if_pos c]
          exact ⟨_, (give_que).symm, fun p hp => List.mem_append_left _ (List.mem_map_of_mem (f := fun x : Int × Int => x.1) hp)⟩
        · rw [if_neg c]
          exact ⟨[], rfl, fun p hp => by cases hp⟩
      obtain ⟨s, hs, hs2⟩ := this
      refine ⟨sv ++ s, by rw [i2, hs, List.append_assoc], fun p hp z => ?_⟩
      rcases List.mem_append.mp hp with y | y
      · exact i2' p y (sub _ z)
      · exact dj p.1 (svL_mem (List.mem_of_getElem? h1) (hs2 p y)) p.1 z rfl
    · have hq := sub h hh
      rw [get_lv o1 (fun z => dj h (svL_mem (List.mem_of_getElem? h1) z) h hh rfl), if_neg (fun z => gn (by rw [← z]; exact hq))]
      exact i3 h hq
  · obtain ⟨e1, h1, rfl⟩ := List.mem_map.mp he
    have hs : h ∉ svL g es := fun z => hG (List.mem_append_right _ z)
    have hqe : h ∉ qE es := fun z => (List.mem_append.mp (lp.mem_iff.mpr z)).elim hs hq
    rw [get_lv (A.ok e1 h1) (fun z => hs (svL_mem h1 z))]
    split
    · rfl
    · rename_i ng
      exact A.zr e1 h1 h hqe (fun z => (List.mem_append.mp z).elim (fun y => hG (List.mem_append_left _ y)) (fun y => ng (List.mem_singleton.mp y)))
  · rcases List.mem_append.mp hh with z | z
    · exact fun y => A.gq h (List.mem_append_left _ z) (sub h y)
    · exact fun y => dj h z h y rfl
  · obtain ⟨t1, t2⟩ := A.st S s1 s2
    have sg : S g = false := by
      cases z : S g with
      | false => rfl
      | true => exact absurd (t2 g z) gn
    obtain ⟨u1, u2⟩ := (dd_leave A.ok).stk S sg t1
    refine ⟨u1, fun x hx => ?_⟩
    rcases List.mem_append.mp (lp.mem_iff.mpr (t2 x hx)) with z | z
    · rw [u2 x z] at hx; cases hx
    · exact z
theorem AL.fin {es0 es : List Ent} {SV : List Int} (A : AL es0 es [] SV) (nd : (qE es0).Nodup) (k0 : ∀ e ∈ es0, (e.t.held.map (·.1)).Nodup) (k1 : ∀ e ∈ es, (e.t.held.map (·.1)).Nodup) : EStk es0 fun x => decide (x ∈ qE es) := by
  intro e0 he0 pre h n post hq hpre hS
  have hS := of_decide_eq_true hS
  obtain ⟨j, hj⟩ := List.mem_iff_getElem?.mp he0
  have jl : j < es.length := by rw [A.ln]; exact (List.getElem?_eq_some_iff.mp hj).1
  obtain ⟨e, he⟩ : ∃ e, es[j]? = some e := ⟨_, List.getElem?_eq_getElem jl⟩
  have hem := List.mem_of_getElem? he
  obtain ⟨i1, ⟨sv, i2, i2'⟩, i3⟩ := A.ix j e0 e hj he
  have o := A.ok e hem
  have nde : (qE es).Nodup := (List.nodup_append.mp (A.pm.nodup_iff.mpr nd)).2.1
  have inq : ∀ p ∈ e.t.que, p.1 ∈ qE es := fun p hp => List.mem_flatMap.mpr ⟨e, hem, List.mem_map_of_mem (f := fun x : Int × Int => x.1) hp⟩
  have l1 : lostH e.t (fun x => decide (x ∈ qE es)) = sumH e.t.held := sum_all (k1 e hem) fun k hk => A.zr e hem k hk (by simp)
  have l2 : lostH e0.t (fun x => decide (x ∈ qE es)) = lostH e.t (fun x => decide (x ∈ qE es)) := by
    unfold lostH
    rw [sum_of nde (k0 e0 he0), sum_of nde (k1 e hem)]
    congr 1
    exact List.map_congr_left fun h hh => (i3 h hh).symm
  rw [l2, l1, ← i1]
  rw [i2] at hq
  -- the first of those that are left stands at the head
  have cl : ∃ r, e.t.que = (h, n) :: r := by
    rcases List.append_eq_append_iff.mp hq with ⟨a, e1, e2⟩ | ⟨a, e1, e2⟩
    · cases a with
      | nil => exact ⟨post, e2⟩
      | cons y a =>
        have := hpre y (by rw [e1]; simp)
        rw [decide_eq_false_iff_not] at this
        exact absurd (inq y (by rw [e2]; simp)) this
    · cases a with
      | nil => exact ⟨post, by rw [List.nil_append] at e2; exact e2.symm⟩
      | cons y a =>
        -- (h, n) was served: then h is not left
        exfalso
        rw [List.cons_append] at e2
        injection e2 with e2 _
        subst e2
        have hs : (h, n) ∈ sv := by rw [e1]; simp
        exact i2' _ hs hS
  obtain ⟨r, hr⟩ := cl
  have := o.hd _ _ hr
  have := o.all
  dsimp only at *
  omega
end K60

set_option Elab.async false
set_option linter.all false
set_option maxRecDepth 100000
set_option maxHeartbeats 4000000
namespace K60
open PySem L2
theorem AL.init {es : List Ent} (o : EOk es) (z : HZ es) : AL es es ((hnd 9).filter (fre (qE es))) [] := by
  refine ⟨o, rfl, List.Perm.refl _, fun j e0 e h0 he => ?_, fun e he h hq hG => ?_, fun h hh => ?_, fun S s1 s2 => ⟨s1, s2⟩⟩
  · rw [h0] at he
    cases he
    exact ⟨rfl, ⟨[], rfl, fun p hp => by cases hp⟩, fun _ _ => rfl⟩
  · refine z e he h fun z => hG (List.mem_filter.mpr ⟨hnd_mem.mpr (by omega), ?_⟩)
    unfold fre
    simpa using hq
  · have := (List.mem_filter.mp hh).2
    unfold fre at this
    simpa using this
section
variable {P : Program} {w : World} {K : PySem.W.Frag} {mg : Str → Option Value} {base : Heap}
def AlW (CG CT CS : Addr) (H : Hp) (g dt ds : Addr) (es0 : List Ent) (ss : List EntS) (m : Nat) (σ : St) (H' : Hp) : Prop := ∃ (r gr : Addr) (es : List Ent) (G SV : List Int) (v4 v5 v6 : Option V), σ = [some (.ref g), some (.int 9), some (.ref r), some (.ref gr), v4, v5, v6] ∧ FrG (adE es0) H H' ∧ H r = none ∧ H gr = none ∧ gr ≠ r ∧ GoA CG CT CS H' g dt ds es ss ∧ adE es = adE es0 ∧ H' r = some (.lst (SV.map V.int)) ∧ H' gr = some (.lst (G.map V.int)) ∧ AL es0 es G SV ∧ G.length + (qE es).length = m ∧ (∀ x ∈ G, 1 ≤ x ∧ x ≤ 9) ∧ m ≤ 18
def AlF (H H3 : Hp) (g : Addr) (L : List (Str × Int × List (Int × Int))) (G SV : List Int) (i : Nat) (σ : St) (H' : Hp) : Prop := ∃ (r gr : Addr) (v4 v5 v6 : Option V), σ = [some (.ref g), some (.int 9), some (.ref r), some (.ref gr), v4, v5, v6] ∧ Same H3 H' ∧ H r = none ∧ H gr = none ∧ gr ≠ r ∧ H' r = some (.lst ((SV ++ (L.take i).flatMap fun x => x.2.2.map (·.1)).map V.int)) ∧ H' gr = some (.lst ((G ++ (L.take i).flatMap fun x => x.2.2.map (·.1)).map V.int))
def spAll (CG CT CS : Addr) : Sp := fun vs H Q _ => ∃ (g dt ds : Addr) (es : List Ent) (ss : List EntS), vs = [.ref g, .int 9] ∧ GoA CG CT CS H g dt ds es ss ∧ EOk es ∧ es.length ≤ 4 ∧ (qE es).Nodup ∧ (∀ x ∈ qE es, 1 ≤ x ∧ x ≤ 9) ∧ HZ es ∧
  ∀ (H' : Hp) (r : Addr) (es' : List Ent) (SV : List Int), FrG (adE es) H H' → H r = none → GoA CG CT CS H' g dt ds es' ss → adE es' = adE es → AL es es' [] SV → H' r = some (.lst (SV.map V.int)) → Q (.ref r) H'
theorem ok_all {CG CT CS : Addr} (D : DefAt K mg "_law_all_left" s__law_all_left ["goods", "many"]) (G__law_queued : OkD P w K mg base 3 "_law_queued" ["goods"] (spQd CG CT CS)) (G_Goods_leave : OkM P w K mg base 4 CG "leave" ["self", "hand"] (spLeave CG CT CS)) (hrange : mg "range" = none) : OkD P w K mg base 5 "_law_all_left" ["goods", "many"] (spAll CG CT CS) := by
  refine D.ok sc__law_all_left (fun vs H Q E h => ?_) (fun f cdv A outer s H vs Q E hr h => ?_)
  · obtain ⟨_, _, _, _, _, rfl, _⟩ := h; rfl
  obtain ⟨g, dt, ds, es0, ss, rfl, G0, o, l4, nd, q9, hz, q⟩ := h
  have hu := hu_of hr
  have hu64 := hr.units
  have big : 100000 ≤ sizeLine := by unfold sizeLine; decide
  have ql : (qE es0).length ≤ 9 := by
    have := nd_le nd (m := hnd 9) fun x hx => hnd_mem.mpr (by have := q9 x hx; omega)
    rw [hnd_len] at this; exact this
  refine ⟨_, (pss_cons (ps_set (i := 2) sc__law_all_left.nd rfl (Or.inl rfl) (pe_lstG pa_nil))
  (pss_cons (ps_setCN (i := 3) sc__law_all_left.nd rfl (Or.inl rfl) (comp_scopeN 1 (N := ["hand", "goods"]) (cap := [0]) rfl rfl rfl rfl (by decide +kernel) rfl rfl rfl) rfl (pi_range2 rfl hrange (pa_c pe_int (pa_c (pe_op op_add (pv 1) pe_int) pa_nil))) (fun _ _ _ _ => (pg_name (i := 0) (show List.Nodup (α := Str) ["hand", "goods"] by decide +kernel) rfl (Or.inl (lookup_relabel_local rfl)) (Or.inr (lookup_relabel_local rfl)))) (fun _ _ _ _ => (pts_one (pt_cmpR op_notInG (pv 0) (pe_def G__law_queued hr rfl (pa_c (pv 1) pa_nil)) (by with_unfolding_all rfl)))) (fun _ _ _ _ => (pv 0)))
  (pss_cons (ps_while PassesOwn.never (pt_cmpR (op_neD hu64) (pv 3) (pe_lstG pa_nil) (nomark _))
  (pss_one (ps_for PassesOwn.never rfl (pi_list (pe_methG G_Goods_leave hr (pv 0) (pa_c (pe_bm0 PySem.F.plainAttrs_list PySem.F.slot_list_pop PySem.F.type_list_pop mt_popG (pv 3)) pa_nil))) (pg_tupG 3 rfl (pgs_cons (pg_name (i := 4) sc__law_all_left.nd rfl (Or.inl rfl)) (pgs_cons (pg_name (i := 5) sc__law_all_left.nd rfl (Or.inl rfl)) (pgs_cons (pg_name (i := 6) sc__law_all_left.nd rfl (Or.inl rfl)) pgs_nil))))
  (pss_cons (ps_set (i := 3) sc__law_all_left.nd rfl (Or.inl rfl) (pe_op op_catG (pv 3) (pe_compN (comp_scopeN 1 (N := ["one"]) (cap := []) rfl rfl rfl rfl (by decide +kernel) rfl rfl rfl) rfl (pi_list (pv 6)) (fun _ _ _ _ => (pg_name (i := 0) (show List.Nodup (α := Str) ["one"] by decide +kernel) rfl (Or.inl (lookup_relabel_local rfl)) (Or.inr (lookup_relabel_local rfl)))) (fun _ _ _ _ => pts_nil) (fun _ _ _ _ => (pe_ix ix_g (pv 0) pe_int (fun _ _ => rfl))))))
  (pss_one (ps_set (i := 2) sc__law_all_left.nd rfl (Or.inl rfl) (pe_op op_catG (pv 2) (pe_compN (comp_scopeN 1 (N := ["one"]) (cap := []) rfl rfl rfl rfl (by decide +kernel) rfl rfl rfl) rfl (pi_list (pv 6)) (fun _ _ _ _ => (pg_name (i := 0) (show List.Nodup (α := Str) ["one"] by decide +kernel) rfl (Or.inl (lookup_relabel_local rfl)) (Or.inr (lookup_relabel_local rfl)))) (fun _ _ _ _ => pts_nil) (fun _ _ _ _ => (pe_ix ix_g (pv 0) pe_int (fun _ _ => rfl)))))))))))
  (pss_one (ps_ret (pv 2)))))), ?_⟩
  walk_at "rz"
  intro r0 H0 hr0 g0 h0
  have G00 := G0.same g0
  walk_at "rz"
  refine tcomp_in ?_
  simp only [iRng2]
  walk_at "rz"
  rw [show ((9 : Int) + 1 - 1).toNat = 9 from rfl]
  refine ⟨by omega, by omega, compJ (over_range 1 9) (fun _ _ => trivial) (by rw [List.length_map, List.length_range]; omega) (SmP g (qE es0) 9) (fun H' _ => ⟨rfl, _, rfl⟩) ?_ ?_⟩
  · rintro D i x ys σ1 H1 hx at1 ⟨rfl, v0, rfl⟩
    have hi : i < 9 := by have := (List.getElem?_eq_some_iff.mp hx).1; rw [List.length_map, List.length_range] at this; exact this
    rw [List.getElem?_map, List.getElem?_range hi] at hx
    cases hx
    clear h0
    walk_at "rz"
    refine ⟨g, dt, ds, es0, ss, rfl, G00.same at1.same, by omega, by omega, fun r H2 hr2 g2 h2 => ?_⟩
    walk_at "rz"
    refine ⟨flt_ints _, ?_⟩
    have e1 : ((hnd 9).take (i + 1)).filter (fre (qE es0)) = ((hnd 9).take i).filter (fre (qE es0)) ++ (if fre (qE es0) (1 + (i : Int)) = true then [1 + (i : Int)] else []) := by
      rw [take_snoc (hnd_at hi), List.filter_append, List.filter_cons, List.filter_nil]
    rw [if_pos rfl]
    simp only [inV_ints]
    walk_at "rz"
    refine ite2 (fun c => ?_) fun c => ?_
    · walk_at "rz"
      refine at1.put g2 fun H5 mu => ⟨?_, _, rfl⟩
      rw [e1, if_pos (by unfold fre; exact c), List.map_append]; rfl
    · refine at1.skip g2 ⟨?_, _, rfl⟩
      rw [e1, if_neg (by unfold fre; exact c), List.append_nil]
  · rintro C ys σ1 H1 hC g1 hy hle ⟨rfl, _⟩
    rw [List.length_map, List.length_range, List.take_of_length_le (by rw [hnd_len]; exact Nat.le_refl _)] at hy
    have h01 := g1 _ _ h0
    have nCr : C ≠ r0 := fun z => by rw [z, h0] at hC; cases hC
    clear h0
    have S1 : Same H H1 := g0.trans g1
    refine ⟨AlW CG CT CS H g dt ds es0 ss, ⟨((hnd 9).filter (fre (qE es0))).length + (qE es0).length, ?_⟩, ?_⟩
    · unfold AlW
      refine ⟨r0, C, es0, _, [], _, _, _, rfl, fun c u _ hc => S1 _ _ hc, hr0, g0.free hC, nCr, G0.same S1, rfl, h01, hy, AL.init o hz, rfl, fun x hx => ?_, ?_⟩
      · have := hnd_mem.mp (List.mem_filter.mp hx).1; omega
      · have := List.length_filter_le (fre (qE es0)) (hnd 9)
        rw [hnd_len] at this; omega
    · intro m σ H2 z
      unfold AlW at z
      obtain ⟨r, gr, es, G, SV, v4, v5, v6, rfl, f2, hr, hgr, ner, G2, ad2, hsv, hg, A2, em, g9, m18⟩ := z
      clear h01 hy
      walk_at "rz"
      intro p3 H3 hp3 k3 h3
      refine ne_nil (k3 _ _ hg) (rp_ints _) (sh_ints _) h3 ?_
      have hg3 := k3 _ _ hg
      have hsv3 := k3 _ _ hsv
      have G3 := G2.same k3
      clear h3 hg hsv
      walk_at "rz"
      refine ite2 (fun c => ?_) fun c => ?_
      · obtain ⟨G', y, rfl⟩ : ∃ G' y, G = G' ++ [y] := by
          cases e : G.reverse with
          | nil =>
            have : G = [] := by simpa using e
            rw [this] at c; simp at c
          | cons y t => exact ⟨t.reverse, y, by rw [← List.reverse_reverse G, e]; simp⟩
        have y9 := g9 y (by simp)
        have yhs : y ∈ hs := by
          have : y = 1 ∨ y = 2 ∨ y = 3 ∨ y = 4 ∨ y = 5 ∨ y = 6 ∨ y = 7 ∨ y = 8 ∨ y = 9 := by omega
          rcases this with rfl | rfl | rfl | rfl | rfl | rfl | rfl | rfl | rfl <;> decide
        rw [List.map_append] at hg3
        have lp := (lv_perm (h := y) es).length_eq
        rw [List.length_append] at lp
        refine ⟨fun σ' H' => ∃ m' < m, AlW CG CT CS H g dt ds es0 ss m' σ' H', fun σ' H' z => z, ?_⟩
        refine tfor_in ?_
        simp only [iList]
        obtain ⟨⟨dxg, x1⟩, _⟩ := id G3
        walk_at "rz"
        refine ⟨⟨_, SqL.of hg3⟩, gr, G'.map V.int, .int y, rfl, rfl, hg3, fun H4 mu => ?_⟩
        have hsv4 := mu.old hsv3 (Ne.symm ner)
        have hg4 := mu.at_
        have nA : ∀ c, H c = none → c ∉ g :: dt :: ds :: (adE es0 ++ adS ss) := fun c hc z => by
          obtain ⟨u, hu⟩ := G0.has c z
          rw [hu] at hc; cases hc
        have nB : ∀ c, H c = none → c ∉ adE es0 := fun c hc z => nA c hc (List.mem_cons_of_mem _ (List.mem_cons_of_mem _ (List.mem_cons_of_mem _ (List.mem_append_left _ z))))
        have G4 : GoA CG CT CS H4 g dt ds es ss := G3.grow fun c u hc hcu => mu.old hcu (fun z => by
          subst z
          rcases hc with hc | ⟨xs, rfl⟩
          · rw [ad2] at hc
            exact nA _ hgr hc
          · rw [hg3] at hcu; cases hcu)
        have f4 : FrG (adE es0) H H4 := fun c u n hc => mu.old (k3 _ _ (f2 c u n hc)) (fun z => by rw [z, hgr] at hc; cases hc)
        clear hg3 hsv3 x1 mu
        walk_at "rz"
        refine ⟨g, dt, ds, es, ss, y, rfl, G4, yhs, by have := A2.ln; omega, fun H5 lf vs5 f5 hlf G5 hv5 lv5 => ?_⟩
        rw [ad2] at f5
        have hsv5 := f5 _ _ (nB _ hr) hsv4
        have hg5 := f5 _ _ (nB _ hgr) hg4
        have f05 : FrG (adE es0) H H5 := f4.trans f5
        clear hsv4 hg4
        walk_at "rz"
        have A3 := A2.step nd
        have pl := A3.pm.length_eq
        rw [List.length_append, List.length_append] at pl
        rw [List.length_append, List.length_singleton] at em
        have llv := lv5.length
        have fl : ∀ j, ((es.filterMap (lvI y)).take j).flatMap (fun x => x.2.2.map (·.1)) ++ ((es.filterMap (lvI y)).drop j).flatMap (fun x => x.2.2.map (·.1)) = svL y es := fun j => by
          unfold svL
          rw [← List.flatMap_append, List.take_append_drop]
        refine ⟨⟨_, SqL.of hv5⟩, for_list (xs := vs5) (AlF H H5 g (es.filterMap (lvI y)) G' SV) ?_ ?_ ?_ ?_⟩
        · unfold AlF
          exact ⟨r, gr, _, _, _, rfl, Same.refl _, hr, hgr, ner, by simpa using hsv5, by simpa using hg5⟩
        · intro j σ H6 hj z
          unfold AlF at z
          obtain ⟨r, gr, v4, v5, v6, rfl, S6, _⟩ := z
          exact SqL.of (S6 _ _ hv5)
        · intro j x σ H6 hx z
          unfold AlF at z
          clear hsv5 hg5 ner hr hgr
          obtain ⟨r, gr, v4, v5, v6, rfl, S6, hr, hgr, ner, h6, h6g⟩ := z
          obtain ⟨p, rs, nm, b, sv, its, rfl, el, a1, a2, a4⟩ := lv5.get hx
          have a1' := S6 _ _ a1
          have a2' := S6 _ _ a2
          have a4' : Svd "takes" H6 sv its := a4.mono fun c xs hc => S6 _ _ hc
          have lsv := a4'.length
          have e1 : ((es.filterMap (lvI y)).take (j + 1)).flatMap (fun x => x.2.2.map (·.1)) = ((es.filterMap (lvI y)).take j).flatMap (fun x => x.2.2.map (·.1)) ++ its.map (·.1) := by
            rw [take_snoc el, List.flatMap_append]; simp
          have e2 := congrArg List.length (fl (j + 1))
          rw [e1, List.length_append, List.length_append, List.length_map] at e2
          have fr6 : ∀ {H' : Hp} {c : Addr}, Same H6 H' → H' c = none → H c = none := fun {H'} {c} k hc =>
            frN G0 (Same.refl _) (fun c u n h => k _ _ (S6 _ _ (f05 c u n h))) (adHas ((G5.same S6).same k) ((adE_map es).trans ad2)) hc
          clear hv5
          walk_at "rz"
          refine tcomp_in ?_
          simp only [iList]
          walk_at "rz"
          refine ⟨⟨_, SqL.of a2'⟩, compJ_list a2' (by omega) (SvP its) (fun H' _ => ⟨rfl, rfl⟩) ?_ ?_⟩
          · rintro D i x ys σ1 H7 hx7 at1 ⟨rfl, s2⟩
            obtain ⟨p7, hh, n7, rfl, en, hp7⟩ := a4'.get hx7
            have hp7' := at1.same _ _ hp7
            obtain ⟨v0, rfl⟩ : ∃ v0, σ1 = [v0] := by
              match σ1, s2 with
              | [v0], _ => exact ⟨v0, rfl⟩
            clear a1' a2' h6 h6g
            walk_at "rz"
            refine at1.put (Same.refl _) fun H8 mu => ⟨?_, rfl⟩
            rw [take_snoc en]; simp
          · rintro C7 ys σ1 H7 hC7 k7 hy7 hle7 ⟨rfl, _⟩
            rw [lsv, List.take_of_length_le (Nat.le_refl _)] at hy7
            have h7g := k7 _ _ h6g
            refine ⟨C7, rfl, _, _, h7g, hy7, by rw [List.length_map, List.length_map, List.length_map, List.length_append]; omega, fun p8 H8 hp8 k8 h8 => ?_⟩
            have a28 := k8 _ _ (k7 _ _ a2')
            have h68 := k8 _ _ (k7 _ _ h6)
            have a48 : Svd "takes" H8 sv its := a4'.mono fun c xs hc => k8 _ _ (k7 _ _ hc)
            have hp80 : H p8 = none := fr6 k7 hp8
            clear h7g hy7 h6 h6g a1' a2'
            walk_at "rz"
            refine tcomp_in ?_
            simp only [iList]
            walk_at "rz"
            refine ⟨⟨_, SqL.of a28⟩, compJ_list a28 (by omega) (SvP its) (fun H' _ => ⟨rfl, rfl⟩) ?_ ?_⟩
            · rintro D i x ys σ1 H9 hx7 at1 ⟨rfl, s2⟩
              obtain ⟨p7, hh, n7, rfl, en, hp7⟩ := a48.get hx7
              have hp7' := at1.same _ _ hp7
              obtain ⟨v0, rfl⟩ : ∃ v0, σ1 = [v0] := by
                match σ1, s2 with
                | [v0], _ => exact ⟨v0, rfl⟩
              clear a28 h68 h8
              walk_at "rz"
              refine at1.put (Same.refl _) fun H8 mu => ⟨?_, rfl⟩
              rw [take_snoc en]; simp
            · rintro C9 ys σ1 H9 hC9 k9 hy9 hle9 ⟨rfl, _⟩
              rw [lsv, List.take_of_length_le (Nat.le_refl _)] at hy9
              have h69 := k9 _ _ h68
              have h89 := k9 _ _ h8
              refine ⟨C9, rfl, _, _, h69, hy9, by rw [List.length_map, List.length_map, List.length_map, List.length_append]; omega, fun pa Ha hpa ka ha => ?_⟩
              have h8a := ka _ _ h89
              walk_at "rz"
              unfold AlF
              refine ⟨pa, p8, _, _, _, rfl, (((S6.trans k7).trans k8).trans k9).trans ka, fr6 ((k7.trans k8).trans k9) hpa, hp80, fun z => ?_, ?_, ?_⟩
              · rw [← z, h89] at hpa; cases hpa
              · rw [ha, e1, ← List.append_assoc, List.map_append (l₂ := its.map (·.1))]
              · rw [h8a, e1, ← List.append_assoc, List.map_append (l₂ := its.map (·.1))]
        · intro σ H6 z
          unfold AlF at z
          clear hsv5 hg5 ner hr hgr
          obtain ⟨r, gr, v4, v5, v6, rfl, S6, hr, hgr, ner, h6, h6g⟩ := z
          rw [llv, List.take_of_length_le (Nat.le_refl _)] at h6 h6g
          refine ⟨m - 1, by omega, ?_⟩
          unfold AlW
          refine ⟨r, gr, _, _, _, _, _, _, rfl, f05.same S6, hr, hgr, ner, G5.same S6, (adE_map es).trans ad2, h6, h6g, A3, ?_, fun x hx => ?_, by omega⟩
          · show (G' ++ svL y es).length + _ = _
            rw [List.length_append]; omega
          · rcases List.mem_append.mp hx with z | z
            · exact g9 x (List.mem_append_left _ z)
            · exact q9 x (A2.pm.mem_iff.mp (List.mem_append_right _ ((lv_perm (h := y) es).mem_iff.mp (List.mem_append_left _ z))))
      · have : G = [] := by
          cases G with
          | nil => rfl
          | cons _ _ => simp at c
        subst this
        walk_at "rz"
        exact q H3 r es SV (f2.same k3) hr G3 ad2 A2 hsv3
end
end K60

set_option Elab.async false
set_option linter.all false
set_option maxRecDepth 100000
set_option maxHeartbeats 4000000
namespace K60
open PySem L2
structure LS (CG CT CS : Addr) (H : Hp) (g dt ds na : Addr) (es : List Ent) (ss : List EntS) : Prop where
  G : GoA CG CT CS H g dt ds es ss
  ok : EOk es
  nm : H na = some (.lst ((es.map (·.name)).map V.str))
  l0 : 0 < es.length
  l4 : es.length ≤ 4
  ls : ss.length ≤ 10
  nd : (qE es).Nodup
  q9 : ∀ x ∈ qE es, 1 ≤ x ∧ x ≤ 9
  hz : HZ es
  nna : na ∉ adE es
theorem LS.ql {CG CT CS : Addr} {H : Hp} {g dt ds na : Addr} {es : List Ent} {ss : List EntS} (s : LS CG CT CS H g dt ds na es ss) : (qE es).length ≤ 9 := by
  have := nd_le s.nd (m := hnd 9) fun x hx => hnd_mem.mpr (by have := s.q9 x hx; omega)
  rw [hnd_len] at this; exact this
theorem LS.same {CG CT CS : Addr} {H H' : Hp} {g dt ds na : Addr} {es : List Ent} {ss : List EntS} (s : LS CG CT CS H g dt ds na es ss) (k : Same H H') : LS CG CT CS H' g dt ds na es ss := { s with G := s.G.same k, nm := k _ _ s.nm }
theorem LS.deed {CG CT CS : Addr} {H H' : Hp} {g dt ds na : Addr} {es es' : List Ent} {ss : List EntS} {sv : List Int} (s : LS CG CT CS H g dt ds na es ss) (f : FrG (adE es) H H') (G : GoA CG CT CS H' g dt ds es' ss) (ad : adE es' = adE es) (d : Dn es es' sv) : LS CG CT CS H' g dt ds na es' ss := by
  rcases d with ⟨hd, D, nq, h9⟩ | ⟨rfl, _⟩
  · have ln : es'.length = es.length := by have := congrArg List.length D.nm; simpa using this
    refine ⟨G, D.ok, by rw [D.nm]; exact f _ _ s.nna s.nm, by rw [ln]; exact s.l0, by rw [ln]; exact s.l4, s.ls, ?_, fun x hx => ?_, D.hz h9 s.q9 s.hz, by rw [ad]; exact s.nna⟩
    · rcases D.q with z | ⟨_, z⟩
      · exact (List.nodup_append.mp (z.nodup_iff.mpr s.nd)).2.1
      · exact z.nodup_iff.mpr (List.nodup_cons.mpr ⟨nq, s.nd⟩)
    · rcases D.q with z | ⟨_, z⟩
      · exact s.q9 x (z.mem_iff.mp (List.mem_append_right _ hx))
      · rcases List.mem_cons.mp (z.mem_iff.mp hx) with y | y
        · rw [y]; exact h9
        · exact s.q9 x y
  · exact { s with G := G, nm := f _ _ s.nna s.nm }
/-- those that are told doomed stay so, and are not served -/
theorem stay {es es' : List Ent} {sv L : List Int} (d : Dn es es' sv) (st : EStk es (Dm.inL L)) (sb : ∀ x ∈ L, x ∈ qE es) : EStk es' (Dm.inL L) ∧ (∀ x ∈ L, x ∈ qE es') ∧ ∀ x ∈ L, x ∉ sv := by
  have iL : ∀ x, Dm.inL L x = true ↔ x ∈ L := fun x => by unfold Dm.inL; simp
  rcases d with ⟨hd, D, nq, h9⟩ | ⟨rfl, rfl⟩
  · have hS : Dm.inL L hd = false := by
      cases z : Dm.inL L hd with
      | false => rfl
      | true => exact absurd (sb hd ((iL hd).mp z)) nq
    obtain ⟨u1, u2⟩ := D.stk _ hS st
    have ns : ∀ x ∈ L, x ∉ sv := fun x hx hs => by have := u2 x hs; rw [(iL x).mpr hx] at this; cases this
    refine ⟨u1, fun x hx => ?_, ns⟩
    rcases D.q with z | ⟨_, z⟩
    · exact (List.mem_append.mp (z.mem_iff.mpr (sb x hx))).elim (fun y => absurd y (ns x hx)) id
    · exact z.mem_iff.mpr (List.mem_cons_of_mem _ (sb x hx))
  · exact ⟨st, sb, fun x _ => by simp⟩
/-- the end: who is left is doomed -/
theorem left_eq {es es' : List Ent} {us : List Dm.Tool} {SV L : List Int} (A : AL es es' [] SV) (v : VwL (es.map (·.t)) us) (o : EOk es) (nd : (qE es).Nodup) (k0 : ∀ e ∈ es, (e.t.held.map (·.1)).Nodup) (k1 : ∀ e ∈ es', (e.t.held.map (·.1)).Nodup) (rc : Dm.Reach us (Dm.inL (Dm.queued us)) (Dm.inL L)) (st : Dm.Stuck us (Dm.inL L)) : ∀ x, x ∈ qE es' ↔ x ∈ L := fun x => by
  have iL : ∀ (L : List Int) x, Dm.inL L x = true ↔ x ∈ L := fun L x => by unfold Dm.inL; simp
  constructor
  · intro hx
    have F := A.fin nd k0 k1
    have := Dm.stuck_sub (vw_pos v) (stuck_of v o F) rc (fun y hy => by
      rw [iL, queued_of v]
      exact A.pm.mem_iff.mp (List.mem_append_right _ (of_decide_eq_true hy))) x (decide_eq_true hx)
    exact (iL L x).mp this
  · intro hx
    refine (A.st _ (of_stuck v o st) fun y hy => ?_).2 x ((iL L x).mpr hx)
    have := rc.sub y hy
    rwa [iL, queued_of v] at this
theorem names_cut {m : Int} (h0 : 0 ≤ m) (h4 : m < 4) : ∃ nms : List Str, cutV [V.str (Str.ofString "a"), V.str (Str.ofString "ab"), V.str (Str.ofString "b"), V.str (Str.ofString "c")] none (some (1 + m)) = nms.map V.str ∧ nms.Nodup ∧ 0 < nms.length ∧ nms.length ≤ 4 := by
  have : m = 0 ∨ m = 1 ∨ m = 2 ∨ m = 3 := by omega
  rcases this with rfl | rfl | rfl | rfl
  · exact ⟨[Str.ofString "a"], rfl, by decide +kernel, by decide, by decide⟩
  · exact ⟨[Str.ofString "a", Str.ofString "ab"], rfl, by decide +kernel, by decide, by decide⟩
  · exact ⟨[Str.ofString "a", Str.ofString "ab", Str.ofString "b"], rfl, by decide +kernel, by decide, by decide⟩
  · exact ⟨[Str.ofString "a", Str.ofString "ab", Str.ofString "b", Str.ofString "c"], rfl, by decide +kernel, by decide, by decide⟩
theorem PrN.snoc {H : Hp} {p : Addr} {s : Str} {n : Int} (h : H p = some (.tup [.str s, .int n])) : ∀ {vs : List V} {ps : List (Str × Int)}, PrN H vs ps → PrN H (vs ++ [.ref p]) (ps ++ [(s, n)])
  | _, _, .nil => .cons h .nil
  | _, _, .cons h' r => .cons h' (r.snoc h)
theorem cut_ints {ns : List Int} {lo hi : Option Int} : ∃ ms : List Int, cutV (ns.map V.int) lo hi = ms.map V.int ∧ ms.length ≤ ns.length := by
  unfold cutV
  refine ⟨_, by rw [← List.map_drop, ← List.map_take], ?_⟩
  rw [List.length_take, List.length_drop]
  omega
theorem eq_ints {K : PySem.W.Frag} {H : Hp} {a p : Addr} {ns : List Int} {Kx : VK} (ha : H a = some (.lst (ns.map V.int))) (hp : H p = some (.lst (ns.map V.int))) (k : Kx (.bl true) H) : rEqD K (.ref a) (.ref p) H Kx := by
  refine ⟨.list (ns.map PyData.int), .list (ns.map PyData.int), .lst ha (rp_ints _), .lst hp (rp_ints _), sh_ints _, sh_ints _, ?_⟩
  have h := sh_ints ns
  unfold SeqAt.shaped at h
  rw [Bool.and_eq_true] at h
  rw [SeqAt.eqv_refl _ h.1]
  exact k
theorem TlO.kn {C : Addr} {H : Hp} {a d q : Addr} {t : TS} (h : TlO C H a d q t) : (t.held.map (·.1)).Nodup := by
  obtain ⟨_, _, _, _, _, _, k5, k6, k7⟩ := h
  exact k5
section
variable {P : Program} {w : World} {K : PySem.W.Frag} {mg : Str → Option Value} {base : Heap}
theorem sql_fr {B : List Addr} {H H' : Hp} {a : Addr} {xs : List V} (f : FrG B H H') (nB : ∀ c ∈ B, H c = none) (h : SqL K H a xs) : SqL K H' a xs := by
  have go : ∀ {u : HO}, H a = some u → H' a = some u := fun {u} hu => f a u (fun z => by rw [nB a z] at hu; cases hu) hu
  rcases h with (h | ⟨o, h⟩) | h
  · exact .inl (.inl (go h))
  · exact .inl (.inr ⟨o, go h⟩)
  · exact .inr h
def L1I (CG CT CS a na g dt ds : Addr) (hdv : Int) (ss : List EntS) (B : List Addr) (H0 : Hp) (i : Nat) (σ : St) (H' : Hp) : Prop := ∃ (es : List Ent) (v4 : Option V), σ = [some (.ref a), some (.int hdv), some (.ref na), some (.ref g), v4, none, none, none, none] ∧ LS CG CT CS H' g dt ds na es ss ∧ adE es = B ∧ FrG B H0 H'
def L2I (CG CT CS a na g dt ds r5 : Addr) (hdv : Int) (ss : List EntS) (B : List Addr) (L : List Int) (H0 : Hp) (i : Nat) (σ : St) (H' : Hp) : Prop := ∃ (es : List Ent) (v4 v6 v7 : Option V), σ = [some (.ref a), some (.int hdv), some (.ref na), some (.ref g), v4, some (.ref r5), v6, v7, none] ∧ LS CG CT CS H' g dt ds na es ss ∧ adE es = B ∧ FrG B H0 H' ∧ EStk es (Dm.inL L) ∧ ∀ x ∈ L, x ∈ qE es
def CnP (r6 r7 : Addr) (i : Nat) (ys : List V) (σ1 : St) (H' : Hp) : Prop := ys = [] ∧ ∃ v0, σ1 = [v0, some (.ref r6), some (.ref r7)]
def AfP (r7 : Addr) (l ms : List Int) (i : Nat) (ys : List V) (σ1 : St) (H' : Hp) : Prop := ys = ((l.take i).filter (fre ms)).map V.int ∧ ∃ v0, σ1 = [v0, some (.ref r7)]
def spLaw (K : PySem.W.Frag) : Sp := fun vs H Q _ => ∃ (a : Addr) (ns : List Int), vs = [.ref a] ∧ SqL K H a (ns.map V.int) ∧ ns.length ≤ 63 ∧ ∀ H', Q (.bl true) H'
def NmP (na : Addr) (nms : List Str) (hdv : Int) (D : Addr) (i : Nat) (ys : List V) (σ1 : St) (H' : Hp) : Prop := ∃ (v0 : Option V) (pr : List (Str × Int)), σ1 = [v0, some (.int hdv), some (.ref na)] ∧ PrN (hide D H') ys pr ∧ pr.map (·.1) = nms.take i ∧ ∀ p ∈ pr, 1 ≤ p.2 ∧ p.2 ≤ 9
theorem ok_law {CG CT CS : Addr} {fa : Addr} {fd : FuncData} (F : Fun K "law" "law" s_law fa fd) (G__law_cell_at : OkD P w K mg base 1 "_law_cell_at" ["script", "k"] (spCell K)) (G__law_stir : OkD P w K mg base 1 "_law_stir" ["cell", "k"] spStir) (G_Goods : OkC P w K mg base 4 "Goods" CG ["self", "program"] (spGoodsI CG CT CS)) (G__law_deed : OkD P w K mg base 5 "_law_deed" ["goods", "names", "cell", "many"] (spDeed CG CT CS)) (G_doomed : OkD P w K mg base 3 "doomed" ["view"] Dm.spDoomed) (G__law_view : OkD P w K mg base 3 "_law_view" ["goods"] (spVw CG CT CS)) (G__law_queued : OkD P w K mg base 3 "_law_queued" ["goods"] (spQd CG CT CS)) (G__law_all_left : OkD P w K mg base 5 "_law_all_left" ["goods", "many"] (spAll CG CT CS)) (hlen : mg "len" = none) (hrange : mg "range" = none) (hsorted : mg "sorted" = none) : FnOk P w K mg base CX0 6 fa fd ["script"] (spLaw K) := by
  refine F.ok sc_law (fun vs H Q E h => ?_) (fun cdv A outer s H vs Q E hr h => ?_)
  · obtain ⟨a, ns, rfl, _⟩ := h; rfl
  obtain ⟨a, ns, rfl, hS, h63, q⟩ := h
  have hu := hu_of hr
  have hu64 := hr.units
  have big : 100000 ≤ sizeLine := by unfold sizeLine; decide
  refine ⟨_, (pss_cons (ps_set (i := 1) sc_law.nd rfl (Or.inr rfl) (pe_def G__law_cell_at hr rfl (pa_c (pv 0) (pa_c pe_int pa_nil))))
  (pss_cons (ps_set (i := 2) sc_law.nd rfl (Or.inr rfl) (pe_slice sl_g (pe_lstG (pa_c pe_str (pa_c pe_str (pa_c pe_str (pa_c pe_str pa_nil))))) po_none (po_some (pe_op op_add pe_int (pe_op op_mod (pe_def G__law_stir hr rfl (pa_c (pv 1) (pa_c pe_int pa_nil))) pe_int)))))
  (pss_cons (ps_set (i := 3) sc_law.nd rfl (Or.inl rfl) (pe_makeG G_Goods hr rfl (pa_c (pe_tupG (pa_c (pe_compN (comp_scopeN 1 (N := ["k", "head", "names"]) (cap := [1, 2]) rfl rfl rfl rfl (by decide +kernel) rfl rfl rfl) rfl (pi_range1 rfl hrange (pa_c (pe_cB call_len_seq rfl hlen PySem.boot_len (pa_c (pv 2) pa_nil)) pa_nil)) (fun _ _ _ _ => (pg_name (i := 0) (show List.Nodup (α := Str) ["k", "head", "names"] by decide +kernel) rfl (Or.inl (lookup_relabel_local rfl)) (Or.inr (lookup_relabel_local rfl)))) (fun _ _ _ _ => pts_nil) (fun _ _ _ _ => (pe_tupG (pa_c (pe_ix ix_g (pv 2) (pv 0) (fun _ _ => rfl)) (pa_c (pe_op op_add pe_int (pe_op op_mod (pe_def G__law_stir hr rfl (pa_c (pv 1) (pa_c (pe_op op_add pe_int (pv 0)) pa_nil))) pe_int)) pa_nil))))) (pa_c (pe_lstG pa_nil) (pa_c (pe_lstG pa_nil) (pa_c (pe_lstG pa_nil) pa_nil))))) pa_nil)))
  (pss_cons (ps_for PassesOwn.never rfl (pi_list (pe_slice sl_k (pv 0) (po_some pe_int) (po_some pe_int))) (pg_name (i := 4) sc_law.nd rfl (Or.inl rfl))
  (pss_one (ps_expr (pe_def G__law_deed hr rfl (pa_c (pv 3) (pa_c (pv 2) (pa_c (pv 4) (pa_c pe_int pa_nil))))))))
  (pss_cons (ps_set (i := 5) sc_law.nd rfl (Or.inl rfl) (pe_def G_doomed hr rfl (pa_c (pe_def G__law_view hr rfl (pa_c (pv 3) pa_nil)) pa_nil)))
  (pss_cons (ps_for PassesOwn.never rfl (pi_list (pe_slice sl_k (pv 0) (po_some pe_int) (po_some pe_int))) (pg_name (i := 4) sc_law.nd rfl (Or.inl rfl))
  (pss_cons (ps_set (i := 6) sc_law.nd rfl (Or.inr rfl) (pe_def G__law_deed hr rfl (pa_c (pv 3) (pa_c (pv 2) (pa_c (pv 4) (pa_c pe_int pa_nil))))))
  (pss_cons (ps_set (i := 7) sc_law.nd rfl (Or.inr rfl) (pe_def G_doomed hr rfl (pa_c (pe_def G__law_view hr rfl (pa_c (pv 3) pa_nil)) pa_nil)))
  (pss_one (ps_if (pt_cmpR (op_neD hu64) (pe_compN (comp_scopeN 1 (N := ["hand", "served", "now"]) (cap := [6, 7]) rfl rfl rfl rfl (by decide +kernel) rfl rfl rfl) rfl (pi_list (pv 5)) (fun _ _ _ _ => (pg_name (i := 0) (show List.Nodup (α := Str) ["hand", "served", "now"] by decide +kernel) rfl (Or.inl (lookup_relabel_local rfl)) (Or.inr (lookup_relabel_local rfl)))) (fun _ _ _ _ => (pts_one (PW.pt (pw_or (pt_cmpR op_inG (pv 0) (pv 1) (by with_unfolding_all rfl)) (pw_or1 (pt_cmpR op_notInG (pv 0) (pv 2) (by with_unfolding_all rfl))))))) (fun _ _ _ _ => (pv 0))) (pe_lstG pa_nil) (nomark _))
  (pss_one (ps_ret pe_bl))
  pss_nil)))))
  (pss_cons (ps_set (i := 7) sc_law.nd rfl (Or.inr rfl) (pe_def G_doomed hr rfl (pa_c (pe_def G__law_view hr rfl (pa_c (pv 3) pa_nil)) pa_nil)))
  (pss_cons (ps_set (i := 8) sc_law.nd rfl (Or.inl rfl) (pe_def G__law_queued hr rfl (pa_c (pv 3) pa_nil)))
  (pss_cons (ps_set (i := 6) sc_law.nd rfl (Or.inr rfl) (pe_def G__law_all_left hr rfl (pa_c (pv 3) (pa_c pe_int pa_nil))))
  (pss_one (ps_ret (pe_and (pe_cmpR (op_eqD hu64) (pe_cB (call_sorted rfl) rfl hsorted (by decide +kernel) (pa_c (pv 6) pa_nil)) (pe_cB (call_sorted rfl) rfl hsorted (by decide +kernel) (pa_c (pe_compN (comp_scopeN 1 (N := ["hand", "now"]) (cap := [7]) rfl rfl rfl rfl (by decide +kernel) rfl rfl rfl) rfl (pi_list (pv 8)) (fun _ _ _ _ => (pg_name (i := 0) (show List.Nodup (α := Str) ["hand", "now"] by decide +kernel) rfl (Or.inl (lookup_relabel_local rfl)) (Or.inr (lookup_relabel_local rfl)))) (fun _ _ _ _ => (pts_one (pt_cmpR op_notInG (pv 0) (pv 1) (by with_unfolding_all rfl)))) (fun _ _ _ _ => (pv 0))) pa_nil)) (nomark _)) (pe_one (pe_cmpR (op_eqD hu64) (pe_cB (call_sorted rfl) rfl hsorted (by decide +kernel) (pa_c (pe_def G__law_queued hr rfl (pa_c (pv 3) pa_nil)) pa_nil)) (pv 7) (nomark _))))))))))))))), ?_⟩
  walk_at "rz"
  refine ⟨a, ns, 0, rfl, hS, by decide, fun hdv => ?_⟩
  walk_at "rz"
  intro p1 H1 hp1 k1 h1
  walk_at "rz"
  refine ⟨hdv, 90, rfl, by decide, by decide, fun m1 m10 m11 => ?_⟩
  walk_at "rz"
  intro na H2 hna k2 h2
  obtain ⟨nms, en, nn, n0, n4⟩ := names_cut (Int.emod_nonneg m1 (show (4 : Int) ≠ 0 by decide)) (Int.emod_lt_of_pos m1 (show (0 : Int) < 4 by decide))
  rw [en] at h2
  clear h1
  walk_at "rz"
  refine tcomp_in ?_
  simp only [iRng1]
  walk_at "rz"
  refine ⟨_, .inl (SqL.of h2), ?_⟩
  walk_at "rz"
  rw [List.length_map, Int.toNat_natCast]
  refine ⟨by omega, by omega, compJD_range (by omega) (NmP na nms hdv) (fun D H' _ _ _ => by unfold NmP; exact ⟨_, [], rfl, .nil, rfl, fun p hp => by cases hp⟩) ?_ ?_⟩
  · rintro D i ys σ1 H3 hi at1 pv
    unfold NmP at pv
    obtain ⟨v0, pr, rfl, pt, em, pb⟩ := pv
    have h3 := at1.same _ _ h2
    have hD := at1.lst
    clear h2
    walk_at "rz"
    obtain ⟨v, ev, hv, he⟩ := atI_in (xs := nms.map V.str) (i := (i : Int)) (by omega) (by rw [List.length_map]; omega)
    rw [Int.toNat_natCast, List.getElem?_map] at he
    obtain ⟨nm, hnm, rfl⟩ := Option.map_eq_some_iff.mp he
    refine ⟨_, ev, ?_⟩
    clear ev
    walk_at "rz"
    refine ⟨hdv, 91 + (i : Int), rfl, by omega, by omega, fun m2 m20 m21 => ?_⟩
    walk_at "rz"
    intro p4 H4 hp4 k4 h4
    refine at1.put k4 fun H5 mu => ?_
    unfold NmP
    have nD : p4 ≠ D := fun z => by rw [z, hD] at hp4; cases hp4
    refine ⟨_, pr ++ [(nm, 1 + m2 % 9)], rfl, (pt.mono ((hide_same k4).trans (hide_mu mu))).snoc (hide_of nD (mu.old h4 nD)), ?_, fun p hp => ?_⟩
    · rw [List.map_append, em, take_snoc hnm]; rfl
    · rcases List.mem_append.mp hp with z | z
      · exact pb p z
      · rw [List.mem_singleton.mp z]
        have := Int.emod_nonneg m2 (show (9 : Int) ≠ 0 by decide)
        have := Int.emod_lt_of_pos m2 (show (0 : Int) < 9 by decide)
        dsimp only
        omega
  · rintro C ys σ1 H3 hC k3 hy hle pv
    unfold NmP at pv
    obtain ⟨v0, pr, rfl, pt, em, pb⟩ := pv
    rw [List.take_of_length_le (Nat.le_refl _)] at em
    have pt3 := pt.mono hide_le
    have lpr : pr.length = nms.length := by rw [← em, List.length_map]
    intro p4 H4 hp4 k4 h4
    walk_at "rz"
    intro p5 H5 hp5 k5 h5
    walk_at "rz"
    intro p6 H6 hp6 k6 h6
    walk_at "rz"
    intro p7 H7 hp7 k7 h7
    walk_at "rz"
    intro g dx H8 hg hdx k8 h8 h8'
    have S38 : Same H3 H8 := (((k4.trans k5).trans k6).trans k7).trans k8
    have S02 : Same H H2 := k1.trans k2
    refine ⟨g, dx, p7, C, p4, _, _, ys, [], pr, [], rfl, h8, k8 _ _ h7, S38 _ _ hy, pt3.mono S38, ⟨by omega, by rw [em]; exact nn⟩, k8 _ _ (k7 _ _ (k6 _ _ (k5 _ _ h4))), .nil, ⟨by simp, by simp⟩, fun H9 dt ds es ss f9 G9 m0 mm fr => ⟨rfl, ?_⟩⟩
    have in7 : ∀ {c : Addr} {u : HO}, H2 c = some u → c ≠ g := fun hc => ne_of_none ((((k3.trans k4).trans (k5.trans k6)).trans k7) _ _ hc) hg
    have S29 : Same H2 H9 := fun c u hc => f9 _ _ (in7 hc) (S38 _ _ (k3 _ _ hc))
    have S9 : Same H H9 := S02.trans S29
    have es0 : ss = [] := by simpa using mm
    have ee : ∀ e ∈ es, ∃ p ∈ pr, e.c = p.2 ∧ e.t = ⟨p.2, [], []⟩ := fun e he => by
      have : (e.name, e.c, e.t) ∈ pr.map (fun p => (p.1, p.2, (⟨p.2, [], []⟩ : TS))) := by rw [← m0]; exact List.mem_map_of_mem (f := fun e : Ent => (e.name, e.c, e.t)) he
      obtain ⟨p, hp, z⟩ := List.mem_map.mp this
      simp only [Prod.mk.injEq] at z
      exact ⟨p, hp, z.2.1.symm, z.2.2.symm⟩
    have enm : es.map (·.name) = nms := by
      rw [← em]
      have := congrArg (List.map (fun x : Str × Int × TS => x.1)) m0
      rw [List.map_map, List.map_map] at this
      exact this
    have qe : qE es = [] := by
      unfold qE
      rw [List.flatMap_eq_nil_iff]
      intro e he
      obtain ⟨p, hp, _, z⟩ := ee e he
      rw [z]; rfl
    have les : es.length = nms.length := by rw [← enm, List.length_map]
    have L9 : LS CG CT CS H9 g dt ds na es ss := by
      refine ⟨G9, fun e he => ?_, by rw [enm]; exact S29 _ _ h2, by omega, by omega, by rw [es0]; simp, by rw [qe]; exact List.nodup_nil, fun x hx => (by rw [qe] at hx; cases hx), fun e he h _ => ?_, fun z => ?_⟩
      · obtain ⟨p, hp, z1, z2⟩ := ee e he
        have := pb p hp
        rw [z1, z2]
        refine ⟨by show p.2 + 0 = p.2; omega, fun _ hp => (by cases hp), by show 0 ≤ p.2; omega, fun p q z => (by cases z), fun p hp => (by cases hp)⟩
      · obtain ⟨p, hp, z1, z2⟩ := ee e he
        rw [z2]; rfl
      · have := fr na (List.mem_cons_of_mem _ (List.mem_cons_of_mem _ (List.mem_append_left _ z)))
        rw [S38 _ _ (k3 _ _ h2)] at this; cases this
    have S9a := sql_same S9 hS
    have n9 : ∀ c ∈ adE es, H c = none := fun c hc => (S02.trans (k3.trans S38)).free (fr c (List.mem_cons_of_mem _ (List.mem_cons_of_mem _ (List.mem_append_left _ hc))))
    clear h2 h4 h5 h6 h7 h8 h8' hy ee enm qe les m0 es0 mm
    walk_at "rz"
    refine tfor_in ?_
    simp only [iList]
    walk_at "rz"
    refine ⟨a, _, rfl, S9a, fun s1 H10 hs1 k10 h10 => ?_⟩
    obtain ⟨ms1, e1, lm1⟩ := cut_ints (ns := ns) (lo := some 1) (hi := some 32)
    rw [e1] at h10
    generalize hB : adE es = B at n9
    have L10 := L9.same k10
    have S10 : Same H H10 := S9.trans k10
    have ns1 : s1 ∉ B := fun z => by
      obtain ⟨u, hu⟩ := adHas L9.G rfl s1 (by rw [hB]; exact z)
      rw [hu] at hs1; cases hs1
    refine ⟨s1, rfl, ⟨_, SqL.of h10⟩, for_list (xs := ms1.map V.int) (L1I CG CT CS a na g dt ds hdv ss B H10) ?_ ?_ ?_ ?_⟩
    · unfold L1I
      exact ⟨es, _, rfl, L10, hB, FrG.refl⟩
    · intro i σ H11 hi z
      unfold L1I at z
      obtain ⟨es, v4, rfl, s, ad, f⟩ := z
      exact SqL.of (f _ _ ns1 h10)
    · intro i x σ H11 hx z
      unfold L1I at z
      obtain ⟨es, v4, rfl, s, ad, f⟩ := z
      rw [List.getElem?_map] at hx
      obtain ⟨c, hc, rfl⟩ := Option.map_eq_some_iff.mp hx
      clear h10
      walk_at "rz"
      refine ⟨g, dt, ds, na, es, ss, c, 6, rfl, s.G, s.ok, s.nm, s.l0, s.l4, by decide, s.nd, s.q9, s.nna, fun H12 r es' sv f12 hr G12 ad12 d12 h12 => ?_⟩
      walk_at "rz"
      unfold L1I
      exact ⟨es', _, rfl, s.deed f12 G12 ad12 d12, ad12.trans ad, f.trans (by rw [← ad]; exact f12)⟩
    · intro σ H11 z
      unfold L1I at z
      clear hB L10 L9 G9 fr
      obtain ⟨es, v4, rfl, s, ad, f⟩ := z
      have f11 : FrG B H H11 := fun c u n hc => f c u n (S10 _ _ hc)
      clear h10
      walk_at "rz"
      refine ⟨g, dt, ds, es, ss, rfl, s.G, by have := s.l4; omega, s.ls, s.nd, by have := s.ql; omega, fun v H12 us k12 va12 vw12 => ?_⟩
      walk_at "rz"
      refine ⟨v, us, rfl, va12, fun r5 H13 L ms hr5 k13 h13 pm pw ndL rc st => ?_⟩
      have st' := of_stuck vw12 s.ok st
      have sb : ∀ x ∈ L, x ∈ qE es := fun x hx => by
        have := rc.sub x (by unfold Dm.inL; simpa using hx)
        rw [queued_of vw12] at this
        unfold Dm.inL at this; simpa using this
      have s13 := (s.same k12).same k13
      have f13 : FrG B H H13 := (f11.same k12).same k13
      have lms : ms.length ≤ 9 := by
        have h1 := pm.length_eq
        have h2 := nd_le ndL sb
        have := s.ql
        omega
      walk_at "rz"
      refine tfor_in ?_
      simp only [iList]
      walk_at "rz"
      refine ⟨a, _, rfl, sql_fr f13 n9 hS, fun s2 H14 hs2 k14 h14 => ?_⟩
      obtain ⟨ms2, e2, lm2⟩ := cut_ints (ns := ns) (lo := some 32) (hi := some 63)
      rw [e2] at h14
      have s14 := s13.same k14
      have h134 := k14 _ _ h13
      have f14 : FrG B H H14 := f13.same k14
      have ns2 : s2 ∉ B := fun z => by
        obtain ⟨u, hu⟩ := adHas s13.G rfl s2 (by rw [ad]; exact z)
        rw [hu] at hs2; cases hs2
      have ns5 : r5 ∉ B := fun z => by
        obtain ⟨u, hu⟩ := adHas (s.same k12).G rfl r5 (by rw [ad]; exact z)
        rw [hu] at hr5; cases hr5
      clear h13
      refine ⟨s2, rfl, ⟨_, SqL.of h14⟩, for_list (xs := ms2.map V.int) (L2I CG CT CS a na g dt ds r5 hdv ss B L H14) ?_ ?_ ?_ ?_⟩
      · unfold L2I
        exact ⟨es, _, _, _, rfl, s14, ad, FrG.refl, st', sb⟩
      · intro i σ H15 hi z
        unfold L2I at z
        obtain ⟨es, v4, v6, v7, rfl, s, ad, f, _⟩ := z
        exact SqL.of (f _ _ ns2 h14)
      · intro i x σ H15 hx z
        unfold L2I at z
        clear s14 s13 s st' sb vw12 va12 rc st f11 f13 ad
        obtain ⟨es, v4, v6, v7, rfl, s, ad, f, st, sb⟩ := z
        rw [List.getElem?_map] at hx
        obtain ⟨c, hc, rfl⟩ := Option.map_eq_some_iff.mp hx
        have h5 := f _ _ ns5 h134
        clear h14 h134
        walk_at "rz"
        refine ⟨g, dt, ds, na, es, ss, c, 9, rfl, s.G, s.ok, s.nm, s.l0, s.l4, by decide, s.nd, s.q9, s.nna, fun H16 r6 es' sv f16 hr6 G16 ad16 d16 h16 => ?_⟩
        have s16 := s.deed f16 G16 ad16 d16
        obtain ⟨st2, sb2, nsv⟩ := stay d16 st sb
        have f016 : FrG B H14 H16 := f.trans (by rw [← ad]; exact f16)
        have h516 := f16 _ _ (by rw [ad]; exact ns5) h5
        clear h5
        walk_at "rz"
        refine ⟨g, dt, ds, es', ss, rfl, s16.G, by have := s16.l4; omega, s16.ls, s16.nd, by have := s16.ql; omega, fun v H17 us k17 va17 vw17 => ?_⟩
        walk_at "rz"
        refine ⟨v, us, rfl, va17, fun r7 H18 L' ms' hr7 k18 h18 pm' pw' ndL' rc st' => ?_⟩
        have inm : ∀ x ∈ ms, x ∈ ms' := fun x hx => by
          have hx := pm.mem_iff.mp hx
          have := Dm.stuck_sub (vw_pos vw17) (stuck_of vw17 s16.ok st2) rc (fun y hy => by
            rw [queued_of vw17]
            unfold Dm.inL at hy ⊢
            simpa using sb2 y (by simpa using hy)) x (by unfold Dm.inL; simpa using hx)
          refine pm'.mem_iff.mpr ?_
          unfold Dm.inL at this; simpa using this
        have nin : ∀ x ∈ ms, x ∉ sv := fun x hx => nsv x (pm.mem_iff.mp hx)
        have k68 : Same H16 H18 := k17.trans k18
        have h58 := k68 _ _ h516
        have h68 := k68 _ _ h16
        clear h516 h16
        walk_at "rz"
        refine tcomp_in ?_
        simp only [iList]
        walk_at "rz"
        refine ⟨⟨_, SqL.of h58⟩, compJ_list h58 (by rw [List.length_map]; omega) (CnP r6 r7) (fun H' _ => ⟨rfl, _, rfl⟩) ?_ ?_⟩
        · rintro D j x ys σ1 H19 hx19 at1 ⟨rfl, v0, rfl⟩
          rw [List.getElem?_map] at hx19
          obtain ⟨y, hy, rfl⟩ := Option.map_eq_some_iff.mp hx19
          have hy := List.mem_of_getElem? hy
          have h69 := at1.same _ _ h68
          have h79 := at1.same _ _ h18
          clear h68 h18 h58
          walk_at "rz"
          refine ⟨flt_ints _, ?_⟩
          rw [if_neg (by decide)]
          simp only [inV_ints, decide_eq_false (nin y hy)]
          walk_at "rz"
          refine ⟨flt_ints _, ?_⟩
          rw [if_pos rfl]
          simp only [inV_ints, decide_eq_true (inm y hy)]
          walk_at "rz"
          exact at1.skip (Same.refl _) ⟨rfl, _, rfl⟩
        · rintro C2 ys σ1 H19 hC2 k19 hy19 hle19 ⟨rfl, _⟩
          intro p3 H20 hp3 k20 h20
          refine ne_nil (k20 _ _ hy19) .nil (by decide) h20 ?_
          clear h20 h68 h18 h58 hy19
          walk_at "rz"
          unfold L2I
          exact ⟨es', _, _, _, rfl, ((s16.same k68).same k19).same k20, ad16.trans ad, ((f016.same k68).same k19).same k20, st2, sb2⟩
      · intro σ H15 z
        unfold L2I at z
        clear s14 s13 s st' sb vw12 va12 rc st f11 f13 ad
        obtain ⟨es, v4, v6, v7, rfl, s, ad, f, st, sb⟩ := z
        clear h14 h134
        walk_at "rz"
        refine ⟨g, dt, ds, es, ss, rfl, s.G, by have := s.l4; omega, s.ls, s.nd, by have := s.ql; omega, fun v H16 us k16 va16 vw16 => ?_⟩
        walk_at "rz"
        refine ⟨v, us, rfl, va16, fun r7 H17 L' ms' hr7 k17 h17 pm' pw' ndL' rc st' => ?_⟩
        have s17 := (s.same k16).same k17
        walk_at "rz"
        refine ⟨g, dt, ds, es, ss, rfl, s17.G, by have := s17.l4; omega, by have := s17.ql; omega, fun r8 H18 hr8 k18 h18 => ?_⟩
        have s18 := s17.same k18
        have h718 := k18 _ _ h17
        clear h17
        walk_at "rz"
        refine ⟨g, dt, ds, es, ss, rfl, s18.G, s18.ok, s18.l4, s18.nd, s18.q9, s18.hz, fun H19 r6 es' SV f19 hr6 G19 ad19 A19 h19 => ?_⟩
        have n8 : r8 ∉ adE es := fun z => by
          obtain ⟨u, hu⟩ := adHas s17.G rfl r8 z
          rw [hu] at hr8; cases hr8
        have n7 : r7 ∉ adE es := fun z => by
          obtain ⟨u, hu⟩ := adHas (s.same k16).G rfl r7 z
          rw [hu] at hr7; cases hr7
        have h819 := f19 _ _ n8 h18
        have h719 := f19 _ _ n7 h718
        have lq := s18.ql
        have pl := A19.pm.length_eq
        rw [List.length_append] at pl
        have lE := left_eq A19 vw16 s.ok s.nd (fun e he => (s.G.2.2.2.1 e he).kn) (fun e he => (G19.2.2.2.1 e he).kn) rc st'
        have ndS := List.nodup_append.mp (A19.pm.nodup_iff.mpr s.nd)
        have pQ : (qE es').Perm ms' := ((List.perm_ext_iff_of_nodup ndS.2.1 ndL').mpr lE).trans pm'.symm
        have pS : SV.Perm ((qE es).filter (fre ms')) := by
          refine (List.perm_ext_iff_of_nodup ndS.1 (s.nd.filter _)).mpr fun x => ?_
          rw [List.mem_filter]
          unfold fre
          rw [← A19.pm.mem_iff, List.mem_append]
          simp only [Bool.not_eq_true', decide_eq_false_iff_not]
          rw [← pQ.mem_iff]
          constructor
          · exact fun hx => ⟨.inl hx, fun y => ndS.2.2 x hx x y rfl⟩
          · exact fun ⟨z, y⟩ => z.elim id fun z => absurd z y
        have lp := pS.length_eq
        clear h18 h718
        walk_at "rz"
        refine ⟨SV, rfl, by omega, fun D1 H20 ms1 hD1 k20 h20 pm1 pw1 => ?_⟩
        have h820 := k20 _ _ h819
        have h720 := k20 _ _ h719
        clear h819 h719 h19
        walk_at "rz"
        refine tcomp_in ?_
        simp only [iList]
        walk_at "rz"
        refine ⟨⟨_, SqL.of h820⟩, compJ_list h820 (by rw [List.length_map]; omega) (AfP r7 (qE es) ms') (fun H' _ => ⟨rfl, _, rfl⟩) ?_ ?_⟩
        · rintro D j x ys σ1 H21 hx21 at1 ⟨rfl, v0, rfl⟩
          rw [List.getElem?_map] at hx21
          obtain ⟨y, hy, rfl⟩ := Option.map_eq_some_iff.mp hx21
          have h721 := at1.same _ _ h720
          clear h820 h720 h20
          have e9 : ((qE es).take (j + 1)).filter (fre ms') = ((qE es).take j).filter (fre ms') ++ (if fre ms' y = true then [y] else []) := by
            rw [take_snoc hy, List.filter_append, List.filter_cons, List.filter_nil]
          walk_at "rz"
          refine ⟨flt_ints _, ?_⟩
          rw [if_pos rfl]
          simp only [inV_ints]
          walk_at "rz"
          refine ite2 (fun c => ?_) fun c => ?_
          · walk_at "rz"
            refine at1.put (Same.refl _) fun H5 mu => ⟨?_, _, rfl⟩
            rw [e9, if_pos (by unfold fre; exact c), List.map_append]; rfl
          · refine at1.skip (Same.refl _) ⟨?_, _, rfl⟩
            rw [e9, if_neg (by unfold fre; exact c), List.append_nil]
        · rintro C2 ys σ1 H21 hC2 k21 hy21 hle21 ⟨rfl, _⟩
          rw [List.length_map, List.take_of_length_le (Nat.le_refl _)] at hy21
          have h2021 := k21 _ _ h20
          have h721 := k21 _ _ h720
          clear h820 h720 h20
          walk_at "rz"
          refine ⟨_, rfl, by omega, fun D2 H22 ms2 hD2 k22 h22 pm2 pw2 => ?_⟩
          have e12 : ms1 = ms2 := Dm.sorted_eq ((pm1.trans pS).trans pm2.symm) pw1 pw2
          subst e12
          refine eq_ints (k22 _ _ h2021) h22 ?_
          have h722 := k22 _ _ h721
          clear h721 h22 hy21 h2021
          walk_at "rz"
          have G22 := ((G19.same k20).same k21).same k22
          refine ⟨g, dt, ds, es', ss, rfl, G22, by have := A19.ln; have := s.l4; omega, by omega, fun r9 H23 hr9 k23 h23 => ?_⟩
          have h723 := k23 _ _ h722
          clear h722
          walk_at "rz"
          refine ⟨_, rfl, by omega, fun D3 H24 ms3 hD3 k24 h24 pm3 pw3 => ?_⟩
          have e13 : ms3 = ms' := Dm.sorted_eq (pm3.trans pQ) pw3 pw'
          subst e13
          have h724 := k24 _ _ h723
          clear h723 h23
          walk_at "rz"
          refine eq_ints h24 h724 ?_
          exact q _
end
end K60

set_option Elab.async false
set_option linter.all false
set_option maxRecDepth 100000
set_option maxHeartbeats 4000000
namespace K60
open PySem L2
theorem all_mk {l : PySem.W.OpenLaw} {w : World} {K : PySem.W.Frag} {h : Heap} {mg : Str → Option Value} {fa : Addr} (X : K.In h) (G : h.Ns mainGlobals mg) (hfa : mg "law" = some (.ref fa))
    {f1 : Addr} {od1 an1 : Option Addr} {sl1 : Array (Option Value)} {oc1 kV1 dc1 pm1 cd1 ct1 : Value} (a1 : PySem.W.nsIn K mainGlobals "doomed" = some (some (.ref f1))) (l1 : K.lookup f1 = some ⟨oc1, od1, .func (PySem.W.fnOf "doomed" "doomed" (defArgs s_doomed) (defBody s_doomed) (defScope s_doomed) .none kV1 dc1 pm1 an1 cd1 ct1), sl1⟩) (c1 : PySem.W.codeIn K cd1 "doomed" = true) (k1 : PySem.W.keepIn K (.ref f1) = true)
    {f2 : Addr} {od2 an2 : Option Addr} {sl2 : Array (Option Value)} {oc2 kV2 dc2 pm2 cd2 ct2 : Value} (a2 : PySem.W.nsIn K mainGlobals "free_some" = some (some (.ref f2))) (l2 : K.lookup f2 = some ⟨oc2, od2, .func (PySem.W.fnOf "free_some" "free_some" (defArgs s_free_some) (defBody s_free_some) (defScope s_free_some) .none kV2 dc2 pm2 an2 cd2 ct2), sl2⟩) (c2 : PySem.W.codeIn K cd2 "free_some" = true) (k2 : PySem.W.keepIn K (.ref f2) = true)
    {f3 : Addr} {od3 an3 : Option Addr} {sl3 : Array (Option Value)} {oc3 kV3 dc3 pm3 cd3 ct3 : Value} (a3 : PySem.W.nsIn K mainGlobals "pieces_of" = some (some (.ref f3))) (l3 : K.lookup f3 = some ⟨oc3, od3, .func (PySem.W.fnOf "pieces_of" "pieces_of" (defArgs s_pieces_of) (defBody s_pieces_of) (defScope s_pieces_of) .none kV3 dc3 pm3 an3 cd3 ct3), sl3⟩) (c3 : PySem.W.codeIn K cd3 "pieces_of" = true) (k3 : PySem.W.keepIn K (.ref f3) = true)
    {f4 : Addr} {od4 an4 : Option Addr} {sl4 : Array (Option Value)} {oc4 kV4 dc4 pm4 cd4 ct4 : Value} (a4 : PySem.W.nsIn K mainGlobals "pieces_lost" = some (some (.ref f4))) (l4 : K.lookup f4 = some ⟨oc4, od4, .func (PySem.W.fnOf "pieces_lost" "pieces_lost" (defArgs s_pieces_lost) (defBody s_pieces_lost) (defScope s_pieces_lost) .none kV4 dc4 pm4 an4 cd4 ct4), sl4⟩) (c4 : PySem.W.codeIn K cd4 "pieces_lost" = true) (k4 : PySem.W.keepIn K (.ref f4) = true)
    {f5 : Addr} {od5 an5 : Option Addr} {sl5 : Array (Option Value)} {oc5 kV5 dc5 pm5 cd5 ct5 : Value} (a5 : PySem.W.nsIn K mainGlobals "tools_of" = some (some (.ref f5))) (l5 : K.lookup f5 = some ⟨oc5, od5, .func (PySem.W.fnOf "tools_of" "tools_of" (defArgs s_tools_of) (defBody s_tools_of) (defScope s_tools_of) .none kV5 dc5 pm5 an5 cd5 ct5), sl5⟩) (c5 : PySem.W.codeIn K cd5 "tools_of" = true) (k5 : PySem.W.keepIn K (.ref f5) = true)
    {f6 : Addr} {od6 an6 : Option Addr} {sl6 : Array (Option Value)} {oc6 kV6 dc6 pm6 cd6 ct6 : Value} (a6 : PySem.W.nsIn K mainGlobals "stores_of" = some (some (.ref f6))) (l6 : K.lookup f6 = some ⟨oc6, od6, .func (PySem.W.fnOf "stores_of" "stores_of" (defArgs s_stores_of) (defBody s_stores_of) (defScope s_stores_of) .none kV6 dc6 pm6 an6 cd6 ct6), sl6⟩) (c6 : PySem.W.codeIn K cd6 "stores_of" = true) (k6 : PySem.W.keepIn K (.ref f6) = true)
    {f7 : Addr} {od7 an7 : Option Addr} {sl7 : Array (Option Value)} {oc7 kV7 dc7 pm7 cd7 ct7 : Value} (a7 : PySem.W.nsIn K mainGlobals "told_tool" = some (some (.ref f7))) (l7 : K.lookup f7 = some ⟨oc7, od7, .func (PySem.W.fnOf "told_tool" "told_tool" (defArgs s_told_tool) (defBody s_told_tool) (defScope s_told_tool) .none kV7 dc7 pm7 an7 cd7 ct7), sl7⟩) (c7 : PySem.W.codeIn K cd7 "told_tool" = true) (k7 : PySem.W.keepIn K (.ref f7) = true)
    {f8 : Addr} {od8 an8 : Option Addr} {sl8 : Array (Option Value)} {oc8 kV8 dc8 pm8 cd8 ct8 : Value} (a8 : PySem.W.nsIn K mainGlobals "told_store" = some (some (.ref f8))) (l8 : K.lookup f8 = some ⟨oc8, od8, .func (PySem.W.fnOf "told_store" "told_store" (defArgs s_told_store) (defBody s_told_store) (defScope s_told_store) .none kV8 dc8 pm8 an8 cd8 ct8), sl8⟩) (c8 : PySem.W.codeIn K cd8 "told_store" = true) (k8 : PySem.W.keepIn K (.ref f8) = true)
    {f9 : Addr} {od9 an9 : Option Addr} {sl9 : Array (Option Value)} {oc9 kV9 dc9 pm9 cd9 ct9 : Value} (a9 : PySem.W.nsIn K mainGlobals "hand_out" = some (some (.ref f9))) (l9 : K.lookup f9 = some ⟨oc9, od9, .func (PySem.W.fnOf "hand_out" "hand_out" (defArgs s_hand_out) (defBody s_hand_out) (defScope s_hand_out) .none kV9 dc9 pm9 an9 cd9 ct9), sl9⟩) (c9 : PySem.W.codeIn K cd9 "hand_out" = true) (k9 : PySem.W.keepIn K (.ref f9) = true)
    {f10 : Addr} {od10 an10 : Option Addr} {sl10 : Array (Option Value)} {oc10 kV10 dc10 pm10 cd10 ct10 : Value} (a10 : PySem.W.nsIn K mainGlobals "hand_in" = some (some (.ref f10))) (l10 : K.lookup f10 = some ⟨oc10, od10, .func (PySem.W.fnOf "hand_in" "hand_in" (defArgs s_hand_in) (defBody s_hand_in) (defScope s_hand_in) .none kV10 dc10 pm10 an10 cd10 ct10), sl10⟩) (c10 : PySem.W.codeIn K cd10 "hand_in" = true) (k10 : PySem.W.keepIn K (.ref f10) = true)
    {f11 : Addr} {od11 an11 : Option Addr} {sl11 : Array (Option Value)} {oc11 kV11 dc11 pm11 cd11 ct11 : Value} (a11 : PySem.W.nsIn K mainGlobals "serve_takers" = some (some (.ref f11))) (l11 : K.lookup f11 = some ⟨oc11, od11, .func (PySem.W.fnOf "serve_takers" "serve_takers" (defArgs s_serve_takers) (defBody s_serve_takers) (defScope s_serve_takers) .none kV11 dc11 pm11 an11 cd11 ct11), sl11⟩) (c11 : PySem.W.codeIn K cd11 "serve_takers" = true) (k11 : PySem.W.keepIn K (.ref f11) = true)
    {f12 : Addr} {od12 an12 : Option Addr} {sl12 : Array (Option Value)} {oc12 kV12 dc12 pm12 cd12 ct12 : Value} (a12 : PySem.W.nsIn K mainGlobals "_law_cell_at" = some (some (.ref f12))) (l12 : K.lookup f12 = some ⟨oc12, od12, .func (PySem.W.fnOf "_law_cell_at" "_law_cell_at" (defArgs s__law_cell_at) (defBody s__law_cell_at) (defScope s__law_cell_at) .none kV12 dc12 pm12 an12 cd12 ct12), sl12⟩) (c12 : PySem.W.codeIn K cd12 "_law_cell_at" = true) (k12 : PySem.W.keepIn K (.ref f12) = true)
    {f13 : Addr} {od13 an13 : Option Addr} {sl13 : Array (Option Value)} {oc13 kV13 dc13 pm13 cd13 ct13 : Value} (a13 : PySem.W.nsIn K mainGlobals "_law_stir" = some (some (.ref f13))) (l13 : K.lookup f13 = some ⟨oc13, od13, .func (PySem.W.fnOf "_law_stir" "_law_stir" (defArgs s__law_stir) (defBody s__law_stir) (defScope s__law_stir) .none kV13 dc13 pm13 an13 cd13 ct13), sl13⟩) (c13 : PySem.W.codeIn K cd13 "_law_stir" = true) (k13 : PySem.W.keepIn K (.ref f13) = true)
    {f14 : Addr} {od14 an14 : Option Addr} {sl14 : Array (Option Value)} {oc14 kV14 dc14 pm14 cd14 ct14 : Value} (a14 : PySem.W.nsIn K mainGlobals "_law_view" = some (some (.ref f14))) (l14 : K.lookup f14 = some ⟨oc14, od14, .func (PySem.W.fnOf "_law_view" "_law_view" (defArgs s__law_view) (defBody s__law_view) (defScope s__law_view) .none kV14 dc14 pm14 an14 cd14 ct14), sl14⟩) (c14 : PySem.W.codeIn K cd14 "_law_view" = true) (k14 : PySem.W.keepIn K (.ref f14) = true)
    {f15 : Addr} {od15 an15 : Option Addr} {sl15 : Array (Option Value)} {oc15 kV15 dc15 pm15 cd15 ct15 : Value} (a15 : PySem.W.nsIn K mainGlobals "_law_queued" = some (some (.ref f15))) (l15 : K.lookup f15 = some ⟨oc15, od15, .func (PySem.W.fnOf "_law_queued" "_law_queued" (defArgs s__law_queued) (defBody s__law_queued) (defScope s__law_queued) .none kV15 dc15 pm15 an15 cd15 ct15), sl15⟩) (c15 : PySem.W.codeIn K cd15 "_law_queued" = true) (k15 : PySem.W.keepIn K (.ref f15) = true)
    {f16 : Addr} {od16 an16 : Option Addr} {sl16 : Array (Option Value)} {oc16 kV16 dc16 pm16 cd16 ct16 : Value} (a16 : PySem.W.nsIn K mainGlobals "_law_deed" = some (some (.ref f16))) (l16 : K.lookup f16 = some ⟨oc16, od16, .func (PySem.W.fnOf "_law_deed" "_law_deed" (defArgs s__law_deed) (defBody s__law_deed) (defScope s__law_deed) .none kV16 dc16 pm16 an16 cd16 ct16), sl16⟩) (c16 : PySem.W.codeIn K cd16 "_law_deed" = true) (k16 : PySem.W.keepIn K (.ref f16) = true)
    {f17 : Addr} {od17 an17 : Option Addr} {sl17 : Array (Option Value)} {oc17 kV17 dc17 pm17 cd17 ct17 : Value} (a17 : PySem.W.nsIn K mainGlobals "_law_all_left" = some (some (.ref f17))) (l17 : K.lookup f17 = some ⟨oc17, od17, .func (PySem.W.fnOf "_law_all_left" "_law_all_left" (defArgs s__law_all_left) (defBody s__law_all_left) (defScope s__law_all_left) .none kV17 dc17 pm17 an17 cd17 ct17), sl17⟩) (c17 : PySem.W.codeIn K cd17 "_law_all_left" = true) (k17 : PySem.W.keepIn K (.ref f17) = true)
    {f18 : Addr} {od18 an18 : Option Addr} {sl18 : Array (Option Value)} {oc18 kV18 dc18 pm18 cd18 ct18 : Value} (a18 : PySem.W.nsIn K mainGlobals "law" = some (some (.ref f18))) (l18 : K.lookup f18 = some ⟨oc18, od18, .func (PySem.W.fnOf "law" "law" (defArgs s_law) (defBody s_law) (defScope s_law) .none kV18 dc18 pm18 an18 cd18 ct18), sl18⟩) (c18 : PySem.W.codeIn K cd18 "law" = true) (k18 : PySem.W.keepIn K (.ref f18) = true)
    (z1 : PySem.W.nsIn K mainGlobals "len" = some none)
    (z2 : PySem.W.nsIn K mainGlobals "sorted" = some none)
    (z3 : PySem.W.nsIn K mainGlobals "min" = some none)
    (z4 : PySem.W.nsIn K mainGlobals "sum" = some none)
    (z5 : PySem.W.nsIn K mainGlobals "range" = some none)
    (z6 : PySem.W.nsIn K mainGlobals "list" = some none)
    (z7 : PySem.W.nsIn K mainGlobals "dict" = some none)
    {CT : Addr} (aTool : PySem.W.nsIn K mainGlobals "Tool" = some (some (.ref CT)))
    (pgTool : PySem.W.plainGet K CT Str.empty = true)
    (hdTool : PySem.W.hasDictIn K CT = true)
    (poTool : PySem.W.plainOver K CT = true)
    (saTool : PySem.W.findIn K (.ref CT) "__setattr__" = some (some (.builtin "object.__setattr__")))
    (mkTool : PySem.W.makesIn K CT = true)
    (kcTool : PySem.W.keepIn K (.ref CT) = true)
    (nTool_free : PySem.W.findIn K (.ref CT) "free" = some none)
    (nTool_held : PySem.W.findIn K (.ref CT) "held" = some none)
    (nTool_queue : PySem.W.findIn K (.ref CT) "queue" = some none)
    {fTool_init : Addr} {odTool_init anTool_init : Option Addr} {slTool_init : Array (Option Value)} {ocTool_init kVTool_init dcTool_init pmTool_init cdTool_init ctTool_init : Value} (aTool_init : PySem.W.findIn K (.ref CT) "__init__" = some (some (.ref fTool_init)))
    (iTool_init : PySem.W.isFn K (.ref fTool_init) = true)
    (lTool_init : K.lookup fTool_init = some ⟨ocTool_init, odTool_init, .func (PySem.W.fnOf "__init__" "Tool.__init__" (defArgs s_Tool___init__) (defBody s_Tool___init__) (defScope s_Tool___init__) .none kVTool_init dcTool_init pmTool_init anTool_init cdTool_init ctTool_init), slTool_init⟩)
    (cTool_init : PySem.W.codeIn K cdTool_init "Tool.__init__" = true)
    (kTool_init : PySem.W.keepIn K (.ref fTool_init) = true)
    {CS : Addr} (aStore : PySem.W.nsIn K mainGlobals "Store" = some (some (.ref CS)))
    (pgStore : PySem.W.plainGet K CS Str.empty = true)
    (hdStore : PySem.W.hasDictIn K CS = true)
    (poStore : PySem.W.plainOver K CS = true)
    (saStore : PySem.W.findIn K (.ref CS) "__setattr__" = some (some (.builtin "object.__setattr__")))
    (mkStore : PySem.W.makesIn K CS = true)
    (kcStore : PySem.W.keepIn K (.ref CS) = true)
    (nStore_level : PySem.W.findIn K (.ref CS) "level" = some none)
    (nStore_most : PySem.W.findIn K (.ref CS) "most" = some none)
    (nStore_getters : PySem.W.findIn K (.ref CS) "getters" = some none)
    (nStore_putters : PySem.W.findIn K (.ref CS) "putters" = some none)
    {fStore_init : Addr} {odStore_init anStore_init : Option Addr} {slStore_init : Array (Option Value)} {ocStore_init kVStore_init dcStore_init pmStore_init cdStore_init ctStore_init : Value} (aStore_init : PySem.W.findIn K (.ref CS) "__init__" = some (some (.ref fStore_init)))
    (iStore_init : PySem.W.isFn K (.ref fStore_init) = true)
    (lStore_init : K.lookup fStore_init = some ⟨ocStore_init, odStore_init, .func (PySem.W.fnOf "__init__" "Store.__init__" (defArgs s_Store___init__) (defBody s_Store___init__) (defScope s_Store___init__) .none kVStore_init dcStore_init pmStore_init anStore_init cdStore_init ctStore_init), slStore_init⟩)
    (cStore_init : PySem.W.codeIn K cdStore_init "Store.__init__" = true)
    (kStore_init : PySem.W.keepIn K (.ref fStore_init) = true)
    {CG : Addr} (aGoods : PySem.W.nsIn K mainGlobals "Goods" = some (some (.ref CG)))
    (pgGoods : PySem.W.plainGet K CG Str.empty = true)
    (hdGoods : PySem.W.hasDictIn K CG = true)
    (poGoods : PySem.W.plainOver K CG = true)
    (saGoods : PySem.W.findIn K (.ref CG) "__setattr__" = some (some (.builtin "object.__setattr__")))
    (mkGoods : PySem.W.makesIn K CG = true)
    (kcGoods : PySem.W.keepIn K (.ref CG) = true)
    (nGoods_by_tool : PySem.W.findIn K (.ref CG) "by_tool" = some none)
    (nGoods_by_store : PySem.W.findIn K (.ref CG) "by_store" = some none)
    {fGoods_init : Addr} {odGoods_init anGoods_init : Option Addr} {slGoods_init : Array (Option Value)} {ocGoods_init kVGoods_init dcGoods_init pmGoods_init cdGoods_init ctGoods_init : Value} (aGoods_init : PySem.W.findIn K (.ref CG) "__init__" = some (some (.ref fGoods_init)))
    (iGoods_init : PySem.W.isFn K (.ref fGoods_init) = true)
    (lGoods_init : K.lookup fGoods_init = some ⟨ocGoods_init, odGoods_init, .func (PySem.W.fnOf "__init__" "Goods.__init__" (defArgs s_Goods___init__) (defBody s_Goods___init__) (defScope s_Goods___init__) .none kVGoods_init dcGoods_init pmGoods_init anGoods_init cdGoods_init ctGoods_init), slGoods_init⟩)
    (cGoods_init : PySem.W.codeIn K cdGoods_init "Goods.__init__" = true)
    (kGoods_init : PySem.W.keepIn K (.ref fGoods_init) = true)
    {fGoods_take : Addr} {odGoods_take anGoods_take : Option Addr} {slGoods_take : Array (Option Value)} {ocGoods_take kVGoods_take dcGoods_take pmGoods_take cdGoods_take ctGoods_take : Value} (aGoods_take : PySem.W.findIn K (.ref CG) "take" = some (some (.ref fGoods_take)))
    (iGoods_take : PySem.W.isFn K (.ref fGoods_take) = true)
    (lGoods_take : K.lookup fGoods_take = some ⟨ocGoods_take, odGoods_take, .func (PySem.W.fnOf "take" "Goods.take" (defArgs s_Goods_take) (defBody s_Goods_take) (defScope s_Goods_take) .none kVGoods_take dcGoods_take pmGoods_take anGoods_take cdGoods_take ctGoods_take), slGoods_take⟩)
    (cGoods_take : PySem.W.codeIn K cdGoods_take "Goods.take" = true)
    (kGoods_take : PySem.W.keepIn K (.ref fGoods_take) = true)
    {fGoods_give : Addr} {odGoods_give anGoods_give : Option Addr} {slGoods_give : Array (Option Value)} {ocGoods_give kVGoods_give dcGoods_give pmGoods_give cdGoods_give ctGoods_give : Value} (aGoods_give : PySem.W.findIn K (.ref CG) "give" = some (some (.ref fGoods_give)))
    (iGoods_give : PySem.W.isFn K (.ref fGoods_give) = true)
    (lGoods_give : K.lookup fGoods_give = some ⟨ocGoods_give, odGoods_give, .func (PySem.W.fnOf "give" "Goods.give" (defArgs s_Goods_give) (defBody s_Goods_give) (defScope s_Goods_give) .none kVGoods_give dcGoods_give pmGoods_give anGoods_give cdGoods_give ctGoods_give), slGoods_give⟩)
    (cGoods_give : PySem.W.codeIn K cdGoods_give "Goods.give" = true)
    (kGoods_give : PySem.W.keepIn K (.ref fGoods_give) = true)
    {fGoods_leave : Addr} {odGoods_leave anGoods_leave : Option Addr} {slGoods_leave : Array (Option Value)} {ocGoods_leave kVGoods_leave dcGoods_leave pmGoods_leave cdGoods_leave ctGoods_leave : Value} (aGoods_leave : PySem.W.findIn K (.ref CG) "leave" = some (some (.ref fGoods_leave)))
    (iGoods_leave : PySem.W.isFn K (.ref fGoods_leave) = true)
    (lGoods_leave : K.lookup fGoods_leave = some ⟨ocGoods_leave, odGoods_leave, .func (PySem.W.fnOf "leave" "Goods.leave" (defArgs s_Goods_leave) (defBody s_Goods_leave) (defScope s_Goods_leave) .none kVGoods_leave dcGoods_leave pmGoods_leave anGoods_leave cdGoods_leave ctGoods_leave), slGoods_leave⟩)
    (cGoods_leave : PySem.W.codeIn K cdGoods_leave "Goods.leave" = true)
    (kGoods_leave : PySem.W.keepIn K (.ref fGoods_leave) = true)
    {fGoods_tools : Addr} {odGoods_tools anGoods_tools : Option Addr} {slGoods_tools : Array (Option Value)} {ocGoods_tools kVGoods_tools dcGoods_tools pmGoods_tools cdGoods_tools ctGoods_tools : Value} (aGoods_tools : PySem.W.findIn K (.ref CG) "tools" = some (some (.ref fGoods_tools)))
    (iGoods_tools : PySem.W.isFn K (.ref fGoods_tools) = true)
    (lGoods_tools : K.lookup fGoods_tools = some ⟨ocGoods_tools, odGoods_tools, .func (PySem.W.fnOf "tools" "Goods.tools" (defArgs s_Goods_tools) (defBody s_Goods_tools) (defScope s_Goods_tools) .none kVGoods_tools dcGoods_tools pmGoods_tools anGoods_tools cdGoods_tools ctGoods_tools), slGoods_tools⟩)
    (cGoods_tools : PySem.W.codeIn K cdGoods_tools "Goods.tools" = true)
    (kGoods_tools : PySem.W.keepIn K (.ref fGoods_tools) = true)
    {fGoods_stores : Addr} {odGoods_stores anGoods_stores : Option Addr} {slGoods_stores : Array (Option Value)} {ocGoods_stores kVGoods_stores dcGoods_stores pmGoods_stores cdGoods_stores ctGoods_stores : Value} (aGoods_stores : PySem.W.findIn K (.ref CG) "stores" = some (some (.ref fGoods_stores)))
    (iGoods_stores : PySem.W.isFn K (.ref fGoods_stores) = true)
    (lGoods_stores : K.lookup fGoods_stores = some ⟨ocGoods_stores, odGoods_stores, .func (PySem.W.fnOf "stores" "Goods.stores" (defArgs s_Goods_stores) (defBody s_Goods_stores) (defScope s_Goods_stores) .none kVGoods_stores dcGoods_stores pmGoods_stores anGoods_stores cdGoods_stores ctGoods_stores), slGoods_stores⟩)
    (cGoods_stores : PySem.W.codeIn K cdGoods_stores "Goods.stores" = true)
    (kGoods_stores : PySem.W.keepIn K (.ref fGoods_stores) = true) :
    ∃ fd : FuncData, (∀ (s : Shared) (v : Value), BindsTo s fd ⟨[v], []⟩ [("script", v)]) ∧ ∀ base : Heap, K.In base → base.Ns mainGlobals mg → FnOk l.prog w K mg base CX0 6 fa fd ["script"] (spLaw K) := by
  have e := hfa.symm.trans (PySem.W.mg_of X G a18)
  cases e
  have A_doomed : DefAt K mg "doomed" s_doomed ["view"] := DefAt.mk' X G a1 l1 c1 k1 fun _ _ _ _ _ _ us hl => match us, hl with | [_], _ => rfl
  have A_free_some : DefAt K mg "free_some" s_free_some ["tool", "lost"] := DefAt.mk' X G a2 l2 c2 k2 fun _ _ _ _ _ _ us hl => match us, hl with | [_, _], _ => rfl
  have A_pieces_of : DefAt K mg "pieces_of" s_pieces_of ["tool"] := DefAt.mk' X G a3 l3 c3 k3 fun _ _ _ _ _ _ us hl => match us, hl with | [_], _ => rfl
  have A_pieces_lost : DefAt K mg "pieces_lost" s_pieces_lost ["tool", "lost"] := DefAt.mk' X G a4 l4 c4 k4 fun _ _ _ _ _ _ us hl => match us, hl with | [_, _], _ => rfl
  have A_tools_of : DefAt K mg "tools_of" s_tools_of ["program"] := DefAt.mk' X G a5 l5 c5 k5 fun _ _ _ _ _ _ us hl => match us, hl with | [_], _ => rfl
  have A_stores_of : DefAt K mg "stores_of" s_stores_of ["program"] := DefAt.mk' X G a6 l6 c6 k6 fun _ _ _ _ _ _ us hl => match us, hl with | [_], _ => rfl
  have A_told_tool : DefAt K mg "told_tool" s_told_tool ["tool"] := DefAt.mk' X G a7 l7 c7 k7 fun _ _ _ _ _ _ us hl => match us, hl with | [_], _ => rfl
  have A_told_store : DefAt K mg "told_store" s_told_store ["store"] := DefAt.mk' X G a8 l8 c8 k8 fun _ _ _ _ _ _ us hl => match us, hl with | [_], _ => rfl
  have A_hand_out : DefAt K mg "hand_out" s_hand_out ["tool", "hand", "n"] := DefAt.mk' X G a9 l9 c9 k9 fun _ _ _ _ _ _ us hl => match us, hl with | [_, _, _], _ => rfl
  have A_hand_in : DefAt K mg "hand_in" s_hand_in ["tool", "hand", "n"] := DefAt.mk' X G a10 l10 c10 k10 fun _ _ _ _ _ _ us hl => match us, hl with | [_, _, _], _ => rfl
  have A_serve_takers : DefAt K mg "serve_takers" s_serve_takers ["tool"] := DefAt.mk' X G a11 l11 c11 k11 fun _ _ _ _ _ _ us hl => match us, hl with | [_], _ => rfl
  have A__law_cell_at : DefAt K mg "_law_cell_at" s__law_cell_at ["script", "k"] := DefAt.mk' X G a12 l12 c12 k12 fun _ _ _ _ _ _ us hl => match us, hl with | [_, _], _ => rfl
  have A__law_stir : DefAt K mg "_law_stir" s__law_stir ["cell", "k"] := DefAt.mk' X G a13 l13 c13 k13 fun _ _ _ _ _ _ us hl => match us, hl with | [_, _], _ => rfl
  have A__law_view : DefAt K mg "_law_view" s__law_view ["goods"] := DefAt.mk' X G a14 l14 c14 k14 fun _ _ _ _ _ _ us hl => match us, hl with | [_], _ => rfl
  have A__law_queued : DefAt K mg "_law_queued" s__law_queued ["goods"] := DefAt.mk' X G a15 l15 c15 k15 fun _ _ _ _ _ _ us hl => match us, hl with | [_], _ => rfl
  have A__law_deed : DefAt K mg "_law_deed" s__law_deed ["goods", "names", "cell", "many"] := DefAt.mk' X G a16 l16 c16 k16 fun _ _ _ _ _ _ us hl => match us, hl with | [_, _, _, _], _ => rfl
  have A__law_all_left : DefAt K mg "_law_all_left" s__law_all_left ["goods", "many"] := DefAt.mk' X G a17 l17 c17 k17 fun _ _ _ _ _ _ us hl => match us, hl with | [_, _], _ => rfl
  have hlen : mg "len" = none := PySem.W.mg_none_of X G z1
  have hsorted : mg "sorted" = none := PySem.W.mg_none_of X G z2
  have hmin : mg "min" = none := PySem.W.mg_none_of X G z3
  have hsum : mg "sum" = none := PySem.W.mg_none_of X G z4
  have hrange : mg "range" = none := PySem.W.mg_none_of X G z5
  have hlist : mg "list" = none := PySem.W.mg_none_of X G z6
  have hdict : mg "dict" = none := PySem.W.mg_none_of X G z7
  have CL_Tool : Cls K CT := ⟨pgTool, hdTool, poTool, saTool⟩
  have N_Tool_free : NoAttr K CT "free" := nTool_free
  have N_Tool_held : NoAttr K CT "held" := nTool_held
  have N_Tool_queue : NoAttr K CT "queue" := nTool_queue
  have M_Tool : MakeAt K mg "Tool" CT "Tool.__init__" s_Tool___init__ ["self", "count"] := MakeAt.mk' X G aTool mkTool kcTool aTool_init iTool_init lTool_init cTool_init kTool_init fun _ _ _ _ _ _ us hl => match us, hl with | [_, _], _ => rfl
  have CL_Store : Cls K CS := ⟨pgStore, hdStore, poStore, saStore⟩
  have N_Store_level : NoAttr K CS "level" := nStore_level
  have N_Store_most : NoAttr K CS "most" := nStore_most
  have N_Store_getters : NoAttr K CS "getters" := nStore_getters
  have N_Store_putters : NoAttr K CS "putters" := nStore_putters
  have M_Store : MakeAt K mg "Store" CS "Store.__init__" s_Store___init__ ["self", "level", "most"] := MakeAt.mk' X G aStore mkStore kcStore aStore_init iStore_init lStore_init cStore_init kStore_init fun _ _ _ _ _ _ us hl => match us, hl with | [_, _, _], _ => rfl
  have CL_Goods : Cls K CG := ⟨pgGoods, hdGoods, poGoods, saGoods⟩
  have N_Goods_by_tool : NoAttr K CG "by_tool" := nGoods_by_tool
  have N_Goods_by_store : NoAttr K CG "by_store" := nGoods_by_store
  have M_Goods : MakeAt K mg "Goods" CG "Goods.__init__" s_Goods___init__ ["self", "program"] := MakeAt.mk' X G aGoods mkGoods kcGoods aGoods_init iGoods_init lGoods_init cGoods_init kGoods_init fun _ _ _ _ _ _ us hl => match us, hl with | [_, _], _ => rfl
  have M_Goods_take : MethAt K CG "take" "Goods.take" s_Goods_take ["self", "hand", "name", "n"] := MethAt.mk' aGoods_take iGoods_take lGoods_take cGoods_take kGoods_take fun _ _ _ _ _ _ us hl => match us, hl with | [_, _, _, _], _ => rfl
  have M_Goods_give : MethAt K CG "give" "Goods.give" s_Goods_give ["self", "hand", "name", "n"] := MethAt.mk' aGoods_give iGoods_give lGoods_give cGoods_give kGoods_give fun _ _ _ _ _ _ us hl => match us, hl with | [_, _, _, _], _ => rfl
  have M_Goods_leave : MethAt K CG "leave" "Goods.leave" s_Goods_leave ["self", "hand"] := MethAt.mk' aGoods_leave iGoods_leave lGoods_leave cGoods_leave kGoods_leave fun _ _ _ _ _ _ us hl => match us, hl with | [_, _], _ => rfl
  have M_Goods_tools : MethAt K CG "tools" "Goods.tools" s_Goods_tools ["self"] := MethAt.mk' aGoods_tools iGoods_tools lGoods_tools cGoods_tools kGoods_tools fun _ _ _ _ _ _ us hl => match us, hl with | [_], _ => rfl
  have M_Goods_stores : MethAt K CG "stores" "Goods.stores" s_Goods_stores ["self"] := MethAt.mk' aGoods_stores iGoods_stores lGoods_stores cGoods_stores kGoods_stores fun _ _ _ _ _ _ us hl => match us, hl with | [_], _ => rfl
  have FL := fun_mk (st := s_law) l18 c18 k18
  refine ⟨PySem.W.fnOf "law" "law" (defArgs s_law) (defBody s_law) (defScope s_law) .none kV18 dc18 pm18 an18 cd18 ct18, fun s v => .of_eq rfl, fun base _ _ => ?_⟩
  exact by
    have Gtl := ok_Tool (P := l.prog) (w := w) (base := base) M_Tool CL_Tool N_Tool_free N_Tool_held N_Tool_queue
    have Gsr := ok_Store (P := l.prog) (w := w) (base := base) M_Store CL_Store N_Store_level N_Store_most N_Store_getters N_Store_putters
    have Gout := ok_out (P := l.prog) (w := w) (base := base) A_hand_out CL_Tool N_Tool_free N_Tool_held
    have Gin := ok_in A_hand_in Gout
    have Gsv := ok_serve A_serve_takers CL_Tool N_Tool_free N_Tool_queue Gout
    have Gtd := ok_told (P := l.prog) (w := w) (base := base) A_told_tool CL_Tool N_Tool_free N_Tool_held N_Tool_queue hsorted hlist
    have Gts := ok_toldS (P := l.prog) (w := w) (base := base) A_told_store CL_Store N_Store_level N_Store_getters N_Store_putters hlist
    have Gg := ok_Goods M_Goods CL_Goods N_Goods_by_tool N_Goods_by_store (ok_toolsOf A_tools_of Gtl hdict) (ok_storesOf A_stores_of Gsr hdict)
    have Gtake := ok_take M_Goods_take CL_Goods N_Goods_by_tool CL_Tool N_Tool_free N_Tool_queue Gout
    have Ggive := ok_give M_Goods_give CL_Goods N_Goods_by_tool CL_Tool N_Tool_held Gin Gsv hmin
    have Gtools := ok_tools M_Goods_tools CL_Goods N_Goods_by_tool Gtd
    have Gstores := ok_stores M_Goods_stores CL_Goods N_Goods_by_store Gts
    have Gleave := ok_leave (CS := CS) M_Goods_leave CL_Goods N_Goods_by_tool CL_Tool N_Tool_held Ggive hlist
    have Gpc := Dm.ok_pcs (P := l.prog) (w := w) (base := base) A_pieces_of hsum
    have Gpl := Dm.ok_lost (P := l.prog) (w := w) (base := base) A_pieces_lost hsum
    have Gdm := Dm.ok_doomed A_doomed (Dm.ok_free A_free_some Gpc Gpl) hlen hsorted
    have Gst := ok_stir (P := l.prog) (w := w) (base := base) A__law_stir
    have Gce := ok_cell (P := l.prog) (w := w) (base := base) A__law_cell_at hlen
    have Gqd := ok_qd (CS := CS) A__law_queued Gtools
    have Gvw := ok_vw A__law_view Gtools Gstores
    have Gde := ok_deed A__law_deed Gqd Gst Gtake Ggive Gleave hrange hlen
    have Gal := ok_all A__law_all_left Gqd Gleave hrange
    exact ok_law FL Gce Gst Gg Gde Gdm Gvw Gqd Gal hlen hrange hsorted
theorem walk {l : PySem.W.OpenLaw} {q : Program} {loose : List Str} {XP : (Str → Option Value) → Heap → Prop} {YP : World → Heap → Prop} {d : DefRec} {K : Params → PySem.W.Frag} (hn : l.most = some 63) (hdf : d.params.defaults = [])
    (hY : ∀ (w : World) (h : Heap), YP w h → (K w.params).In h)
    (F : ∀ (w : World) (mg : Str → Option Value) (fa : Addr) (h : Heap), (K w.params).In h → h.Ns mainGlobals mg → mg d.name = some (.ref fa) →
      ∃ fd : FuncData, (∀ (s : Shared) (u : Value), BindsTo s fd ⟨[u], []⟩ [("script", u)]) ∧ ∀ base : Heap, (K w.params).In base → base.Ns mainGlobals mg → FnOk l.prog w (K w.params) mg base CX0 6 fa fd ["script"] (spLaw (K w.params))) :
    PySem.W.WalkO q loose XP YP l.row.toRowW d [] (fun f vs => PySem.call f vs) :=
  L2.walk_of (n := 63) (k := 6) (x := "script") (CX := fun _ => CX0) (sp := fun w => spLaw (K w.params)) hn (by decide) hdf ⟨rfl, by decide, by decide⟩ hY F (fun _ _ a ns hl _ hS => ⟨a, ns, rfl, hS, hl, fun _ => rfl⟩) fun _ _ _ _ _ z => z
end K60
open PySem PySem.W PyProof.Rows
set_option maxRecDepth 100000 in
set_option maxHeartbeats 0 in
theorem PySem.Challenge.cw_rerunyard_k60_whole_doomed_never_served_holds : PySem.Challenge.rw_rerunyard_k60_whole_doomed_never_served.Holds := by
  w_on; o_law; k_head; (case hw => w_witness2)
  k_fill
  refine K60.walk (l := PySem.Challenge.rw_rerunyard_k60_whole_doomed_never_served) rfl rfl (fun w h Y => PySem.W.kIn_of Y) ?F
  case F =>
    intro w mg fa h KX G hmg
    refine' K60.all_mk KX G hmg ?a1 ?l1 ?c1 ?k1 ?a2 ?l2 ?c2 ?k2 ?a3 ?l3 ?c3 ?k3 ?a4 ?l4 ?c4 ?k4 ?a5 ?l5 ?c5 ?k5 ?a6 ?l6 ?c6 ?k6 ?a7 ?l7 ?c7 ?k7 ?a8 ?l8 ?c8 ?k8 ?a9 ?l9 ?c9 ?k9 ?a10 ?l10 ?c10 ?k10 ?a11 ?l11 ?c11 ?k11 ?a12 ?l12 ?c12 ?k12 ?a13 ?l13 ?c13 ?k13 ?a14 ?l14 ?c14 ?k14 ?a15 ?l15 ?c15 ?k15 ?a16 ?l16 ?c16 ?k16 ?a17 ?l17 ?c17 ?k17 ?a18 ?l18 ?c18 ?k18 ?z1 ?z2 ?z3 ?z4 ?z5 ?z6 ?z7 ?aTool ?pgTool ?hdTool ?poTool ?saTool ?mkTool ?kcTool ?nTool_free ?nTool_held ?nTool_queue ?aTool_init ?iTool_init ?lTool_init ?cTool_init ?kTool_init ?aStore ?pgStore ?hdStore ?poStore ?saStore ?mkStore ?kcStore ?nStore_level ?nStore_most ?nStore_getters ?nStore_putters ?aStore_init ?iStore_init ?lStore_init ?cStore_init ?kStore_init ?aGoods ?pgGoods ?hdGoods ?poGoods ?saGoods ?mkGoods ?kcGoods ?nGoods_by_tool ?nGoods_by_store ?aGoods_init ?iGoods_init ?lGoods_init ?cGoods_init ?kGoods_init ?aGoods_take ?iGoods_take ?lGoods_take ?cGoods_take ?kGoods_take ?aGoods_give ?iGoods_give ?lGoods_give ?cGoods_give ?kGoods_give ?aGoods_leave ?iGoods_leave ?lGoods_leave ?cGoods_leave ?kGoods_leave ?aGoods_tools ?iGoods_tools ?lGoods_tools ?cGoods_tools ?kGoods_tools ?aGoods_stores ?iGoods_stores ?lGoods_stores ?cGoods_stores ?kGoods_stores
    (case a1 => k_is); (case l1 => k_is); (case c1 => k_is); (case k1 => k_is); (case a2 => k_is); (case l2 => k_is); (case c2 => k_is); (case k2 => k_is); (case a3 => k_is); (case l3 => k_is); (case c3 => k_is); (case k3 => k_is); (case a4 => k_is); (case l4 => k_is); (case c4 => k_is); (case k4 => k_is); (case a5 => k_is); (case l5 => k_is); (case c5 => k_is); (case k5 => k_is); (case a6 => k_is); (case l6 => k_is); (case c6 => k_is); (case k6 => k_is); (case a7 => k_is); (case l7 => k_is); (case c7 => k_is); (case k7 => k_is); (case a8 => k_is); (case l8 => k_is); (case c8 => k_is); (case k8 => k_is); (case a9 => k_is); (case l9 => k_is); (case c9 => k_is); (case k9 => k_is); (case a10 => k_is); (case l10 => k_is); (case c10 => k_is); (case k10 => k_is); (case a11 => k_is); (case l11 => k_is); (case c11 => k_is); (case k11 => k_is); (case a12 => k_is); (case l12 => k_is); (case c12 => k_is); (case k12 => k_is); (case a13 => k_is); (case l13 => k_is); (case c13 => k_is); (case k13 => k_is); (case a14 => k_is); (case l14 => k_is); (case c14 => k_is); (case k14 => k_is); (case a15 => k_is); (case l15 => k_is); (case c15 => k_is); (case k15 => k_is); (case a16 => k_is); (case l16 => k_is); (case c16 => k_is); (case k16 => k_is); (case a17 => k_is); (case l17 => k_is); (case c17 => k_is); (case k17 => k_is); (case a18 => k_is); (case l18 => k_is); (case c18 => k_is); (case k18 => k_is); (case z1 => k_is); (case z2 => k_is); (case z3 => k_is); (case z4 => k_is); (case z5 => k_is); (case z6 => k_is); (case z7 => k_is); (case aTool => k_is); (case pgTool => k_is); (case hdTool => k_is); (case poTool => k_is); (case saTool => k_is); (case mkTool => k_is); (case kcTool => k_is); (case nTool_free => k_is); (case nTool_held => k_is); (case nTool_queue => k_is); (case aTool_init => k_is); (case iTool_init => k_is); (case lTool_init => k_is); (case cTool_init => k_is); (case kTool_init => k_is); (case aStore => k_is); (case pgStore => k_is); (case hdStore => k_is); (case poStore => k_is); (case saStore => k_is); (case mkStore => k_is); (case kcStore => k_is); (case nStore_level => k_is); (case nStore_most => k_is); (case nStore_getters => k_is); (case nStore_putters => k_is); (case aStore_init => k_is); (case iStore_init => k_is); (case lStore_init => k_is); (case cStore_init => k_is); (case kStore_init => k_is); (case aGoods => k_is); (case pgGoods => k_is); (case hdGoods => k_is); (case poGoods => k_is); (case saGoods => k_is); (case mkGoods => k_is); (case kcGoods => k_is); (case nGoods_by_tool => k_is); (case nGoods_by_store => k_is); (case aGoods_init => k_is); (case iGoods_init => k_is); (case lGoods_init => k_is); (case cGoods_init => k_is); (case kGoods_init => k_is); (case aGoods_take => k_is); (case iGoods_take => k_is); (case lGoods_take => k_is); (case cGoods_take => k_is); (case kGoods_take => k_is); (case aGoods_give => k_is); (case iGoods_give => k_is); (case lGoods_give => k_is); (case cGoods_give => k_is); (case kGoods_give => k_is); (case aGoods_leave => k_is); (case iGoods_leave => k_is); (case lGoods_leave => k_is); (case cGoods_leave => k_is); (case kGoods_leave => k_is); (case aGoods_tools => k_is); (case iGoods_tools => k_is); (case lGoods_tools => k_is); (case cGoods_tools => k_is); (case kGoods_tools => k_is); (case aGoods_stores => k_is); (case iGoods_stores => k_is); (case lGoods_stores => k_is); (case cGoods_stores => k_is); (case kGoods_stores => k_is)
#print axioms PySem.Challenge.cw_rerunyard_k60_whole_doomed_never_served_holds

