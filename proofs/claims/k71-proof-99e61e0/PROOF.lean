import PyProof.Rows.All
import Wide.All
import OpenK.AllK
import Wide.FinOn
import Lean
import PyProof.EqAt
import PyProof.EqKinds
import PyProof.TupleCall
import PyProof.ExcAttrAll.ValueError
import PySem.Challenge.RW_rerunyard_k71_texts_of_no_log
set_option genSizeOf false
set_option Elab.async false
set_option linter.all false
set_option maxRecDepth 100000
/-! THE HAND LAYER, for ints, bools, texts, own classes, LISTS and tuples (index, slices, in, append, pop ..), calls, loops. Paste it whole ahead of your own text; what your proof does not reach may be deleted. -/
namespace L2
open PySem PySem.Spec PyProof.Rows

abbrev Key := Sum Int Str
def keyIs : Key → Value → Bool
  | .inl k, v => Value.isInt k v
  | .inr x, v => Value.isStrOf x v
def keyH (w : World) : Key → Int
  | .inl k => hashInt k
  | .inr x => hashStr w x
theorem keyIs_shape : ∀ {k : Key} {v : Value}, keyIs k v = true → (∃ i t, k = Sum.inl i ∧ v = Value.int i t) ∨ (∃ x t, k = Sum.inr x ∧ v = Value.str x t)
  | .inl i, v, h => by
    obtain ⟨t, e⟩ := Value.isInt_shape (k := i) (v := v) h
    exact .inl ⟨i, t, rfl, e⟩
  | .inr x, v, h => by
    obtain ⟨t, e⟩ := Value.isStrOf_shape (x := x) (v := v) h
    exact .inr ⟨x, t, rfl, e⟩
theorem keyIs_int (i : Int) (t : Tok) : keyIs (.inl i) (.int i t) = true := by simp [keyIs, Value.isInt]
theorem keyIs_str (x : Str) (t : Tok) : keyIs (.inr x) (.str x t) = true := by simp [keyIs, Value.isStrOf]
theorem key_ll (a b : Int) : decide ((Sum.inl a : Key) = Sum.inl b) = (a == b) := by
  by_cases e : a = b
  · subst e; simp
  · have h : ¬ (Sum.inl a : Key) = Sum.inl b := fun q => e (Sum.inl.inj q)
    rw [decide_eq_false h]
    exact (beq_eq_false_iff_ne.mpr e).symm
theorem key_rr (a b : Str) : decide ((Sum.inr a : Key) = Sum.inr b) = decide (a = b) := by
  by_cases e : a = b
  · subst e; simp
  · have h : ¬ (Sum.inr a : Key) = Sum.inr b := fun q => e (Sum.inr.inj q)
    rw [decide_eq_false h, decide_eq_false e]
theorem key_lr (a : Int) (b : Str) : decide ((Sum.inl a : Key) = Sum.inr b) = false := decide_eq_false (fun q => nomatch q)
theorem key_rl (a : Str) (b : Int) : decide ((Sum.inr a : Key) = Sum.inl b) = false := decide_eq_false (fun q => nomatch q)

def mixKind (prog : Program) (w : World) : PySem.KeyKind prog w Key where
  is := keyIs
  hash := keyH w
  inj := fun v a b ha hb => by
    rcases keyIs_shape ha with ⟨i, t, rfl, rfl⟩ | ⟨x, t, rfl, rfl⟩
    · rcases keyIs_shape hb with ⟨j, u, rfl, e⟩ | ⟨y, u, rfl, e⟩
      · injection e with e1 _; rw [e1]
      · exact nomatch e
    · rcases keyIs_shape hb with ⟨j, u, rfl, e⟩ | ⟨y, u, rfl, e⟩
      · exact nomatch e
      · injection e with e1 _; rw [e1]
  byValue := fun k v h => by
    rcases keyIs_shape h with ⟨i, t, rfl, rfl⟩ | ⟨x, t, rfl, rfl⟩ <;> rfl
  pyHash := fun hv h => by
    rcases keyIs_shape hv with ⟨i, t, rfl, rfl⟩ | ⟨x, t, rfl, rfl⟩
    · exact wpAny_pyHash_int h
    · exact wpAny_pyHash_str h
  eqBool := fun hu hv h => by
    rcases keyIs_shape hu with ⟨i, t, rfl, rfl⟩ | ⟨x, t, rfl, rfl⟩
    · rcases keyIs_shape hv with ⟨j, u, rfl, rfl⟩ | ⟨y, u, rfl, rfl⟩
      · rw [key_ll] at h; exact wpAny_eqBool_int h
      · rw [key_lr] at h; exact SeqAt.EqAt.int_str i t y u _ _ _ _ h
    · rcases keyIs_shape hv with ⟨j, u, rfl, rfl⟩ | ⟨y, u, rfl, rfl⟩
      · rw [key_rl] at h; exact SeqAt.EqAt.str_int x t j u _ _ _ _ h
      · rw [key_rr] at h; exact wpAny_eqBool_str h
  «strs» := fun k x t v h => by
    rcases keyIs_shape h with ⟨i, u, rfl, e⟩ | ⟨y, u, rfl, e⟩
    · exact nomatch e
    · injection e with e1 _
      subst e1
      cases v <;> rfl

theorem mixKind_int (prog : Program) (w : World) (i : Int) (t : Tok) : (mixKind prog w).is (.inl i) (.int i t) = true := keyIs_int i t
theorem mixKind_str (prog : Program) (w : World) (x : Str) (t : Tok) : (mixKind prog w).is (.inr x) (.str x t) = true := keyIs_str x t
end L2

namespace L2
open PySem PySem.Spec PyProof.Rows

inductive V where
  | non | bl (b : Bool) | int (i : Int) | str (x : Str) | byt (b : Array UInt8) | flt (b : UInt64) | ref (a : Addr) | ty (n : String)
  deriving DecidableEq

def RelV : V → Value → Prop
  | .non, u => u = Value.none
  | .bl b, u => u = Value.bool b
  | .int i, u => ∃ t, u = Value.int i t
  | .str x, u => ∃ t, u = Value.str x t
  | .byt b, u => ∃ t, u = Value.bytes b t
  | .flt b, u => ∃ t, u = Value.float b t
  | .ref a, u => u = Value.ref a
  | .ty n, u => u = Value.type n

abbrev Vals : List V → List Value → Prop := Paired RelV
theorem Vals.length {xs : List V} {us : List Value} (r : Vals xs us) : xs.length = us.length := Paired.length r
theorem Vals.get : ∀ {xs : List V} {us : List Value} {i : Nat} {x : V}, Vals xs us → xs[i]? = some x → ∃ u, us[i]? = some u ∧ RelV x u
  | _, _, _, _, .nil, e => by simp at e
  | _, _, 0, _, .cons r _, e => by simp at e; subst e; exact ⟨_, rfl, r⟩
  | _, _, i + 1, x, .cons _ t, e => by
    obtain ⟨u, h1, h2⟩ := Vals.get (i := i) (x := x) t (by simpa using e)
    exact ⟨u, by simpa using h1, h2⟩
theorem Vals.set {x : V} {u : Value} (r : RelV x u) : ∀ {xs : List V} {us : List Value} (i : Nat), Vals xs us → Vals (xs.set i x) (us.set i u)
  | _, _, _, .nil => .nil
  | _, _, 0, .cons _ t => .cons r t
  | _, _, i + 1, .cons q t => .cons q (Vals.set r i t)
theorem Vals.append : ∀ {xs ys : List V} {us ws : List Value}, Vals xs us → Vals ys ws → Vals (xs ++ ys) (us ++ ws)
  | _, _, _, _, .nil, s => s
  | _, _, _, _, .cons r t, s => .cons r (Vals.append t s)
theorem Vals.take : ∀ {xs : List V} {us : List Value} (n : Nat), Vals xs us → Vals (xs.take n) (us.take n)
  | _, _, 0, _ => .nil
  | _, _, _ + 1, .nil => .nil
  | _, _, n + 1, .cons r t => .cons r (Vals.take n t)
theorem Vals.drop : ∀ {xs : List V} {us : List Value} (n : Nat), Vals xs us → Vals (xs.drop n) (us.drop n)
  | _, _, 0, r => r
  | _, _, _ + 1, .nil => .nil
  | _, _, n + 1, .cons _ t => Vals.drop n t
def RelO : Option V → Option Value → Prop
  | some v, some u => RelV v u
  | none, none => True
  | _, _ => False
def KV {κ : Type} : List (κ × V) → List (κ × Value) → Prop := Paired fun (p : κ × V) (q : κ × Value) => p.1 = q.1 ∧ RelV p.2 q.2

def kV : Key → V
  | .inl i => .int i
  | .inr x => .str x

inductive HO where
  /-- a list -/
  | lst (xs : List V)
  /-- a tuple (never changes) -/
  | tup (xs : List V)
  /-- a dict whose keys are ints and texts; one whose keys are tuples of ints and texts (the empty one is both) -/
  | dK (kvs : List (Key × V)) | dT (kvs : List (List Key × V))
  /-- a set of ints: its members, its size -/
  | set (S : Int → Bool) (n : Nat)
  /-- an instance of the class at C, its dict at dx, its attributes -/
  | ins (C dx : Addr) (fs : List (Str × V))
  /-- the dict of the instance at x -/
  | own (x : Addr)
  /-- the dict of an exception -/
  | xd (fs : List (Str × V))
  /-- a bound method, f of x -/
  | met (f x : Addr)
  /-- a range object lo, lo + 1, .. below hi -/
  | rng (lo hi : Int)
  /-- a thing that is known to the object (the script; a dict while a loop walks it): read, never written while it is so -/
  | frz (o : Obj) (u : HO)
  /-- a code object's table -/
  | tbl (ps : Array Value)
  /-- any other thing, by what is true of its one object (a def of one's own: SetO a S n := HO.ext fun h => ..) -/
  | ext (φ : Heap → Prop)

abbrev Hp := Addr → Option HO
def upd (H : Hp) (a : Addr) (o : HO) : Hp := fun b => if b = a then some o else H b
theorem upd_same {H : Hp} {a : Addr} {o : HO} : upd H a o a = some o := by unfold upd; rw [if_pos rfl]
theorem upd_ne {H : Hp} {a b : Addr} {o : HO} (h : b ≠ a) : upd H a o b = H b := by unfold upd; rw [if_neg h]
theorem upd_upd {H : Hp} {a : Addr} {o u : HO} : upd (upd H a o) a u = upd H a u := by
  funext b; unfold upd; split <;> rfl
theorem ne_of {H : Hp} {a b : Addr} {o u : HO} (h : H a = some o) (h' : H b = some u) (d : o ≠ u) : a ≠ b := by
  intro e; subst e; rw [h] at h'; exact d (Option.some.inj h')
theorem ne_of_none {H : Hp} {a b : Addr} {o : HO} (h : H a = some o) (h' : H b = none) : a ≠ b := by
  intro e; subst e; rw [h] at h'; cases h'

section
variable (P : Program) (w : World)
def ObjOk (H : Hp) (h : Heap) (a : Addr) : HO → Prop
  | .lst xs => xs.length ≤ sizeLine ∧ ∃ (its : List Value) (n : Nat), Vals xs its ∧ h.get? a = some { cls := .type "list", data := .seq its.toArray n }
  | .tup xs => xs.length ≤ sizeLine ∧ ∃ its : List Value, Vals xs its ∧ IsTup h a its.toArray
  | .dK kvs => kvs.length ≤ sizeLine ∧ (a == sysModules) = false ∧ ∃ vs, KV kvs vs ∧ h.DictOf (mixKind P w) a vs
  | .dT kvs => kvs.length ≤ sizeLine ∧ (a == sysModules) = false ∧ ∃ xs : List (List Key × Addr × Value),
      Paired (fun (p : List Key × V) (q : List Key × Addr × Value) => p.1 = q.1 ∧ H q.2.1 = some (.tup (p.1.map kV)) ∧ RelV p.2 q.2.2) kvs xs ∧
      ∃ o es ep, h.get? a = some o ∧ o.ExactDict ∧ o.data = .dict es ep ∧ es.toList = xs.map (entryOfKey (tupleKind (mixKind P w))) ∧ (xs.map (·.1)).Nodup
  | .set S n => h.SetOf (intKind P w) a S n
  | .ins C dx fs => H dx = some (.own a) ∧ fs.length ≤ 1000 ∧ dx ≠ a ∧ h.get? a = some (PySem.W.instObj C dx) ∧
      ∃ mA, h.Ns1 dx mA ∧ (∀ f, RelO (fs.lookup f) (mA f)) ∧ PySem.Within mA (fs.map (·.1))
  | .own _ => ∃ o, h.get? a = some o
  | .xd fs => ∃ mA, h.Ns1 a mA ∧ ∀ f, RelO (fs.lookup f) (mA f)
  | .rng lo hi => ∃ t u v, h.get? a = some { cls := .type "range", data := .fields #[.int lo t, .int hi u, .int 1 v] }
  | .frz o u => h.get? a = some o ∧ ObjOk H h a u
  | .tbl ps => h.get? a = some { cls := .none, data := .fields ps }
  | .met f x => h.get? a = some (PySem.W.methodObj (.ref f) (.ref x))
  | .ext φ => φ h ∧ (∃ o, h.get? a = some o) ∧ ∀ h1 h2 : Heap, φ h1 → (∀ o, h1.get? a = some o → h2.get? a = some o) → φ h2
def HOk (H : Hp) (h : Heap) : Prop := ∀ a o, H a = some o → ObjOk P w H h a o
end

section
variable {P : Program} {w : World} {H H' : Hp} {h h' : Heap} {a : Addr} {o : HO}
theorem ObjOk.lt (x : ObjOk P w H h a o) : a < h.objs.size := by
  cases o with
  | lst xs => obtain ⟨_, _, _, _, e⟩ := x; exact Heap.lt_size e
  | tup xs => obtain ⟨_, _, _, p⟩ := x; exact p.lt
  | dK kvs => obtain ⟨_, _, _, _, o, _, _, e, _⟩ := x; exact Heap.lt_size e
  | dT kvs => obtain ⟨_, _, _, _, o, _, _, e, _⟩ := x; exact Heap.lt_size e
  | set S n => obtain ⟨o, _, _, _, e, _⟩ := x; exact Heap.lt_size e
  | ins C dx fs => obtain ⟨_, _, _, e, _⟩ := x; exact Heap.lt_size e
  | own y => obtain ⟨_, e⟩ := x; exact Heap.lt_size e
  | xd fs => obtain ⟨_, ⟨_, _, _, e, _⟩, _⟩ := x; exact Heap.lt_size e
  | rng lo hi => obtain ⟨_, _, _, e⟩ := x; exact Heap.lt_size e
  | frz ob u => obtain ⟨e, _⟩ := x; exact Heap.lt_size e
  | tbl ps => exact Heap.lt_size (show h.get? a = some _ from x)
  | met f y => exact Heap.lt_size (show h.get? a = some _ from x)
  | ext φ => obtain ⟨_, ⟨_, e⟩, _⟩ := x; exact Heap.lt_size e
theorem Paired.mapP {α β : Type} {F G : α → β → Prop} : ∀ {l₁ : List α} {l₂ : List β}, Paired F l₁ l₂ → (∀ a b, F a b → G a b) → Paired G l₁ l₂
  | _, _, .nil, _ => .nil
  | _, _, .cons r t, f => .cons (f _ _ r) (Paired.mapP t f)
theorem ObjOk.stay (x : ObjOk P w H h a o) (k : ∀ b u, (b = a ∨ H b = some (.own a)) → h.get? b = some u → h'.get? b = some u)
    (ho : ∀ b, H b = some (.own a) → H' b = some (.own a)) (ht : ∀ b xs, H b = some (.tup xs) → H' b = some (.tup xs)) : ObjOk P w H' h' a o := by
  induction o with
  | lst xs => obtain ⟨z, its, n, r, e⟩ := x; exact ⟨z, its, n, r, k _ _ (.inl rfl) e⟩
  | tup xs => obtain ⟨z, its, r, ob, e, c⟩ := x; exact ⟨z, its, r, ob, k _ _ (.inl rfl) e, c⟩
  | dK kvs => obtain ⟨z, y, vs, r, ob, es, ep, e, c⟩ := x; exact ⟨z, y, vs, r, ob, es, ep, k _ _ (.inl rfl) e, c⟩
  | dT kvs =>
    obtain ⟨z, y, xs, r, ob, es, ep, e, c⟩ := x
    exact ⟨z, y, xs, Paired.mapP r fun p q z => ⟨z.1, ht _ _ z.2.1, z.2.2⟩, ob, es, ep, k _ _ (.inl rfl) e, c⟩
  | set S n => obtain ⟨ob, es, ep, t, e, c⟩ := x; exact ⟨ob, es, ep, t, k _ _ (.inl rfl) e, c⟩
  | ins C dx fs =>
    obtain ⟨d, z, ne, e, mA, ⟨od, es, ep, e2, c⟩, r⟩ := x
    exact ⟨ho _ d, z, ne, k _ _ (.inl rfl) e, mA, ⟨od, es, ep, k _ _ (.inr d) e2, c⟩, r⟩
  | own y => obtain ⟨ob, e⟩ := x; exact ⟨ob, k _ _ (.inl rfl) e⟩
  | xd fs => obtain ⟨mA, ⟨od, es, ep, e, c⟩, r⟩ := x; exact ⟨mA, ⟨od, es, ep, k _ _ (.inl rfl) e, c⟩, r⟩
  | rng lo hi => obtain ⟨t, u, v, e⟩ := x; exact ⟨t, u, v, k _ _ (.inl rfl) e⟩
  | frz ob u ih => obtain ⟨e, q⟩ := x; exact ⟨k _ _ (.inl rfl) e, ih q⟩
  | tbl ps =>
    have e : h.get? a = some { cls := .none, data := .fields ps } := x
    show h'.get? a = some { cls := .none, data := .fields ps }
    exact k a _ (.inl rfl) e
  | met f y =>
    have e : h.get? a = some (PySem.W.methodObj (.ref f) (.ref y)) := x
    show h'.get? a = some (PySem.W.methodObj (.ref f) (.ref y))
    exact k a _ (.inl rfl) e
  | ext φ => obtain ⟨p, ⟨o, e⟩, st⟩ := x; exact ⟨st _ _ p fun o q => k _ _ (.inl rfl) q, ⟨o, k _ _ (.inl rfl) e⟩, st⟩
theorem HOk.lt (x : HOk P w H h) (e : H a = some o) : a < h.objs.size := (x a o e).lt
theorem HOk.fresh (x : HOk P w H h) (e : h.objs.size ≤ a) : H a = none := by
  cases q : H a with
  | none => rfl
  | some u => exact absurd (Nat.lt_of_lt_of_le (x.lt q) e) (Nat.lt_irrefl _)
theorem HOk.kept (x : HOk P w H h) (k : ∀ b u, h.get? b = some u → h'.get? b = some u) : HOk P w H h' := fun a o e =>
  (x a o e).stay (fun b u _ q => k b u q) (fun _ q => q) fun _ _ q => q
theorem HOk.laid (x : HOk P w H h) (k : ∀ b u, h.get? b = some u → h'.get? b = some u) (hp : h.objs.size ≤ a) (new : ObjOk P w (upd H a o) h' a o) : HOk P w (upd H a o) h' := fun b u e => by
  have hn := x.fresh hp
  by_cases hb : b = a
  · subst hb; rw [upd_same] at e; cases e; exact new
  · rw [upd_ne hb] at e
    exact (x b u e).stay (fun c v _ q => k c v q) (fun c q => by rw [upd_ne (ne_of_none q hn)]; exact q) fun c xs q => by rw [upd_ne (ne_of_none q hn)]; exact q
end

def Rd (H : Hp) (a : Addr) (u : HO) : Prop := H a = some u ∨ ∃ o, H a = some (.frz o u)
theorem Rd.of {H : Hp} {a : Addr} {u : HO} (h : H a = some u) : Rd H a u := .inl h
theorem Rd.ok {P : Program} {w : World} {H : Hp} {h : Heap} {a : Addr} {u : HO} (r : Rd H a u) (x : HOk P w H h) : ObjOk P w H h a u := by
  rcases r with r | ⟨o, r⟩
  · exact x a u r
  · obtain ⟨_, q⟩ := x a _ r
    exact q
def Mut : Option HO → Prop
  | some (.lst _) => True
  | some (.dK _) => True
  | some (.dT _) => True
  | some (.set _ _) => True
  | some (.ins _ _ _) => True
  | some (.ext _) => True
  | _ => False
section
variable {P : Program} {w : World} {H : Hp} {h h' : Heap} {x e : Addr} {o' : HO}
theorem HOk.write (ok : HOk P w H h) (mu : Mut (H x)) (he : e = x ∨ H e = some (.own x)) (k : ∀ b u, b ≠ e → h.get? b = some u → h'.get? b = some u) (heo : ∃ u, h'.get? e = some u)
    (new : ObjOk P w (upd H x o') h' x o') : HOk P w (upd H x o') h' := fun b u q => by
  have nown : ∀ c y, H c = some (.own y) → c ≠ x := fun c y r z => by subst z; rw [r] at mu; exact mu
  have ntup : ∀ c xs, H c = some (.tup xs) → c ≠ x := fun c xs r z => by subst z; rw [r] at mu; exact mu
  by_cases hb : b = x
  · subst hb; rw [upd_same] at q; cases q; exact new
  · rw [upd_ne hb] at q
    by_cases hbe : b = e
    · have q' : H b = some (.own x) := by
        rcases he with z | z
        · exact absurd (hbe.trans z) hb
        · rw [hbe]; exact z
      rw [q] at q'; cases q'
      obtain ⟨v, hv⟩ := heo
      exact ⟨v, by rw [hbe]; exact hv⟩
    · refine (ok b u q).stay (fun c v hc r => k c v ?_ r) (fun c r => by rw [upd_ne (nown c b r)]; exact r) fun c xs r => by rw [upd_ne (ntup c xs r)]; exact r
      rcases hc with rfl | hc
      · exact hbe
      · rintro rfl
        rcases he with z | z
        · exact nown c b hc z
        · rw [hc] at z; cases z; exact hb rfl
end

/-! ### kept unless tracked; of the frames at fs (the callers') the slots may change (an exception that passes writes there); of the records at ex (iterators) nothing is said -/
structure Un (fs ex : List Addr) (H H' : Hp) (h h' : Heap) : Prop where
  keep : ∀ b o, h.get? b = some o → H b = none → b ∉ fs → b ∉ ex → h'.get? b = some o
  slot : ∀ b o, h.get? b = some o → H b = none → b ∈ fs → b ∉ ex → ∃ sl, h'.get? b = some { o with slots := sl }
  free : ∀ b o, h.get? b = some o → H b = none → b ∉ ex → H' b = none
  there : ∀ b o, h.get? b = some o → b ∉ ex → ∃ o', h'.get? b = some o'
  tups : ∀ b xs, H b = some (.tup xs) → H' b = some (.tup xs)
  frzs : ∀ b o u, H b = some (.frz o u) → H' b = some (.frz o u)
  tbls : ∀ b ps, H b = some (.tbl ps) → ∃ more, H' b = some (.tbl (ps ++ more))
section
variable {fs fs' ex ex' : List Addr} {H H1 H2 : Hp} {h h1 h2 h' : Heap} {a x e : Addr} {o : HO}
theorem Un.any (u : Un fs ex H H1 h h1) {b : Addr} {ob : Obj} (q : h.get? b = some ob) (n : H b = none) (hx : b ∉ ex) : ∃ sl, h1.get? b = some { ob with slots := sl } := by
  by_cases hb : b ∈ fs
  · exact u.slot b ob q n hb hx
  · exact ⟨ob.slots, u.keep b ob q n hb hx⟩
theorem Un.trans (a : Un fs ex H H1 h h1) (b : Un fs ex H1 H2 h1 h2) : Un fs ex H H2 h h2 where
  keep := fun c ob q n hc hx => b.keep c ob (a.keep c ob q n hc hx) (a.free c ob q n hx) hc hx
  slot := fun c ob q n hc hx => by
    obtain ⟨sl, e1⟩ := a.slot c ob q n hc hx
    obtain ⟨sl', e2⟩ := b.slot c _ e1 (a.free c ob q n hx) hc hx
    exact ⟨sl', e2⟩
  free := fun c ob q n hx => by
    obtain ⟨o', e1⟩ := a.there c ob q hx
    exact b.free c o' e1 (a.free c ob q n hx) hx
  there := fun c ob q hx => by
    obtain ⟨o', e1⟩ := a.there c ob q hx
    exact b.there c o' e1 hx
  tups := fun c xs q => b.tups c xs (a.tups c xs q)
  frzs := fun c ob xs q => b.frzs c ob xs (a.frzs c ob xs q)
  tbls := fun c ps q => by
    obtain ⟨m1, e1⟩ := a.tbls c ps q
    obtain ⟨m2, e2⟩ := b.tbls c _ e1
    exact ⟨m1 ++ m2, by rw [e2, Array.append_assoc]⟩
theorem Un.kept (k : ∀ b u, h.get? b = some u → h'.get? b = some u) : Un fs ex H H h h' :=
  ⟨fun b ob q _ _ _ => k b ob q, fun b ob q _ _ _ => ⟨ob.slots, k b ob q⟩, fun _ _ _ n _ => n, fun b ob q _ => ⟨ob, k b ob q⟩, fun _ _ q => q, fun _ _ _ q => q, fun _ ps q => ⟨#[], by rw [q]; simp⟩⟩
theorem Un.refl : Un fs ex H H h h := Un.kept fun _ _ q => q
theorem Un.laid (k : ∀ b u, h.get? b = some u → h'.get? b = some u) (hp : h.objs.size ≤ a) (hn : H a = none) : Un fs ex H (upd H a o) h h' where
  keep := fun b u q _ _ _ => k b u q
  slot := fun b u q _ _ _ => ⟨u.slots, k b u q⟩
  free := fun b u q n _ => by rw [upd_ne (Nat.ne_of_lt (Nat.lt_of_lt_of_le (Heap.lt_size q) hp))]; exact n
  there := fun b u q _ => ⟨u, k b u q⟩
  tups := fun b xs q => by rw [upd_ne (ne_of_none q hn)]; exact q
  frzs := fun b u xs q => by rw [upd_ne (ne_of_none q hn)]; exact q
  tbls := fun b ps q => ⟨#[], by rw [upd_ne (ne_of_none q hn), q]; simp⟩
theorem Un.write (mu : Mut (H x)) (he : e = x ∨ H e = some (.own x)) (k : ∀ b u, b ≠ e → h.get? b = some u → h'.get? b = some u) (heo : ∃ u, h'.get? e = some u) : Un fs ex H (upd H x o) h h' := by
  have hx : ∀ b, H b = none → b ≠ x := fun b n z => by subst z; rw [n] at mu; exact mu
  have hb : ∀ b, H b = none → b ≠ e := fun b n z => by
    subst z
    rcases he with r | r
    · exact hx b n r
    · rw [n] at r; cases r
  have hm : ∀ b u, H b = some u → ¬ Mut (some u) → b ≠ x := fun b u q nm z => by subst z; rw [q] at mu; exact nm mu
  refine ⟨fun b u q n _ _ => k b u (hb b n) q, fun b u q n _ _ => ⟨u.slots, k b u (hb b n) q⟩, fun b u q n _ => by rw [upd_ne (hx b n)]; exact n, fun b u q _ => ?_,
    fun b xs q => by rw [upd_ne (hm b _ q fun z => z)]; exact q, fun b u xs q => by rw [upd_ne (hm b _ q fun z => z)]; exact q, fun b ps q => ⟨#[], by rw [upd_ne (hm b _ q fun z => z), q]; simp⟩⟩
  by_cases hbe : b = e
  · subst hbe; exact heo
  · exact ⟨u, k b u hbe q⟩
theorem Un.mono (u : Un fs ex H H1 h h1) (hs : ∀ b ∈ fs, b ∈ fs') (hx : ∀ b ∈ ex, b ∈ ex') : Un fs' ex' H H1 h h1 :=
  ⟨fun b ob q n hb he => u.keep b ob q n (fun z => hb (hs b z)) fun z => he (hx b z), fun _ _ q n _ he => u.any q n fun z => he (hx _ z), fun b ob q n he => u.free b ob q n fun z => he (hx b z), fun b ob q he => u.there b ob q fun z => he (hx b z), u.tups, u.frzs, u.tbls⟩
end

/-! ### the heap without what is tracked -/
def trk (h : Heap) (H : Hp) : List Addr := (List.range h.objs.size).filter fun a => (H a).isSome
def hidT (h : Heap) (H : Hp) : Heap := PySem.W.hideAll h (trk h H)
theorem hidT_size (h : Heap) (H : Hp) : (hidT h H).objs.size = h.objs.size := PySem.W.hideAll_size _ _
theorem hidT_get {h : Heap} {H : Hp} {b : Addr} {o : Obj} (e : h.get? b = some o) (n : H b = none) : (hidT h H).get? b = some o :=
  PySem.W.hideAll_get _ e fun hm => by
    have q : (H b).isSome = true := (List.mem_filter.mp hm).2
    rw [n] at q; simp at q
theorem of_hidT {h : Heap} {H : Hp} {b : Addr} {o : Obj} (e : (hidT h H).get? b = some o) : h.get? b = some o ∧ H b = none := by
  have e' : h.get? b = some o := PySem.W.of_hideAll (trk h H) e
  refine ⟨e', ?_⟩
  cases q : H b with
  | none => rfl
  | some x =>
    have hm : b ∈ trk h H := List.mem_filter.mpr ⟨List.mem_range.mpr (Heap.lt_size e'), by simp [q]⟩
    have z : (hidT h H).get? b = none := PySem.W.hideAll_none (trk h H) hm
    rw [z] at e; cases e

/-! ### OpenK's ledger, filled with every new object but one -/
def allNews (g h : Heap) (L : Addr) : List (Addr × Obj) := (List.range h.objs.size).filterMap fun a => if a = L ∨ (g.get? a).isSome = true then none else (h.get? a).map fun o => (a, o)
def rest (g h : Heap) (L d : Addr) : List (Addr × Obj) := (allNews g h L).filter fun p => decide (p.1 ≠ d)
end L2

namespace L2
open PySem PySem.Spec PyProof.Rows

structure Mod (K : PySem.W.Frag) (mg : Str → Option Value) (base : Heap) : Prop where
  kin : K.In base
  glob : base.Ns mainGlobals mg
  blt : ∃ mb, base.Ns builtinsNs mb ∧ ∀ x : Str, x ≠ "__name__" → mb x = bootBuiltins x
  nolimit : base.NoLimit

structure Cx where
  prog : Program
  w : World
  K : PySem.W.Frag
  mg : Str → Option Value
  base : Heap
  A : Around
  N : List Str
  s₀ : Shared
  H₀ : Hp
  env : Env
  outer : List Env
  stack : List Env
  ex : List Addr
  fn : Str → Bool
  calm : Bool
  pn : List (Addr × Obj)
  xe : Value → Shared → Prop
def frs (l : List Env) : List Addr := l.filterMap (·.frame)
abbrev Cx.fs (X : Cx) : List Addr := frs X.outer

def Vis (sc : Scope) (x : Str) : Prop := sc.names.lookup x = some .local ∨ sc.names.lookup x = some .cell ∨ sc.names.lookup x = some .free
def Loc (sc : Scope) (x : Str) : Prop := sc.names.lookup x = some .local ∨ sc.names.lookup x = some .cell
def Look (env : Env) (h : Heap) (m : Str → Option Value) (x : Str) (u : Value) : Prop :=
  (env.kindOf x = some .local ∧ m x = some u) ∨ ((env.kindOf x = some .cell ∨ env.kindOf x = some .free) ∧ ∃ c, env.cells.lookup x = some c ∧ h.IsCell c (some u))

structure Cx.Ok (X : Cx) : Prop where
  mod : Mod X.K X.mg X.base
  kind : X.env.scope.kind = .function
  glob : X.env.globals = mainGlobals
  blt : X.env.builtins = builtinsNs
  above : X.s₀.heap.objs.size ≤ X.env.locals
  inj : ∀ x y c, X.env.cells.lookup x = some c → X.env.cells.lookup y = some c → x = y
  has : ∀ x, (X.env.kindOf x = some .cell ∨ X.env.kindOf x = some .free) → ∃ c, X.env.cells.lookup x = some c
  cab : ∀ x c, X.fn x = true → X.env.cells.lookup x = some c → X.s₀.heap.objs.size ≤ c
  hd : X.calm = true → X.A.handled = none
  frames : X.A.frames = some X.stack
  stk : X.stack = X.outer ∨ (X.stack = X.env :: X.outer ∧ X.env.frame = some X.env.locals)
  exf : ∀ b ∈ X.ex, b ≠ X.env.locals ∧ ∀ x c, X.env.cells.lookup x = some c → c ≠ b
  bs : ∀ b o, X.base.get? b = some o → X.s₀.heap.get? b = some o ∧ X.H₀ b = none
  bsz : X.base.objs.size ≤ X.s₀.heap.objs.size
  noex : ∀ b o, X.base.get? b = some o → b ∉ X.ex
  exfs : ∀ b ∈ X.ex, b ∉ X.fs
  funs : X.s₀.heap.FunFrames X.base X.outer
  frf : ∀ b ∈ X.fs, X.H₀ b = none

structure Inv (X : Cx) (pins : List (Addr × Obj)) (σ : List (Option V)) (H : Hp) (s : Shared) : Prop where
  ok : X.Ok
  os : s.os = X.s₀.os
  bare : AllBare s.gens
  base : Un X.fs X.ex X.H₀ H X.s₀.heap s.heap
  loc : ∃ m, s.heap.Ns X.env.locals m ∧ ∀ (i : Nat) (x : Str) (v : V), X.N[i]? = some x → σ[i]? = some (some v) → Vis X.env.scope x → ∃ u, RelV v u ∧ Look X.env s.heap m x u
  cell : ∀ x c, X.env.cells.lookup x = some c → ∃ v, s.heap.IsCell c v
  free : H X.env.locals = none
  freeC : ∀ x c, X.env.cells.lookup x = some c → H c = none
  pin : ∀ p ∈ X.pn ++ pins, s.heap.get? p.1 = some p.2 ∧ H p.1 = none ∧ p.1 ≠ X.env.locals ∧ p.1 ∉ X.fs ∧ ∀ v, p.2.data ≠ .cell v
  hok : HOk X.prog X.w H s.heap
  len : σ.length = X.N.length

section
variable {X : Cx} {pins : List (Addr × Obj)} {σ : List (Option V)} {H H' : Hp} {s : Shared} {h' : Heap}

theorem Cx.Ok.nofr (ok : X.Ok) {b : Addr} {o : Obj} (e : X.base.get? b = some o) : b ∉ X.fs := fun hb => by
  have := (ok.funs.mem hb).1
  rw [e] at this; cases this
theorem Inv.bs (I : Inv X pins σ H s) : ∀ b o, X.base.get? b = some o → s.heap.get? b = some o ∧ H b = none := fun b o e =>
  ⟨I.base.keep b o (I.ok.bs b o e).1 (I.ok.bs b o e).2 (I.ok.nofr e) (I.ok.noex b o e), I.base.free b o (I.ok.bs b o e).1 (I.ok.bs b o e).2 (I.ok.noex b o e)⟩
theorem Inv.bk (I : Inv X pins σ H s) : ∀ b o, X.base.get? b = some o → s.heap.get? b = some o := fun b o e => (I.bs b o e).1
theorem Inv.mod (I : Inv X pins σ H s) : Mod X.K X.mg X.base := I.ok.mod
theorem Inv.kIn (I : Inv X pins σ H s) : X.K.In s.heap := I.ok.mod.kin.keeps I.bk
theorem Inv.nolimit (I : Inv X pins σ H s) : s.heap.NoLimit := I.ok.mod.nolimit.keeps I.bk
theorem Inv.fr (I : Inv X pins σ H s) : ∃ m, Fr X.base X.env.locals s.heap m :=
  let ⟨m, hn, _⟩ := I.loc
  ⟨m, hn, I.bk, Nat.le_trans I.ok.bsz I.ok.above⟩
theorem Inv.lt (I : Inv X pins σ H s) : X.env.locals < s.heap.objs.size := let ⟨_, hn, _⟩ := I.loc; hn.lt
theorem Inv.sz (I : Inv X pins σ H s) : X.s₀.heap.objs.size ≤ s.heap.objs.size := Nat.le_trans I.ok.above (Nat.le_of_lt I.lt)
theorem Inv.nofs (I : Inv X pins σ H s) {a : Addr} (h : s.heap.objs.size ≤ a) : a ∉ X.fs := fun hb => by
  obtain ⟨_, o, ho, _⟩ := I.ok.funs.mem hb
  exact absurd (Nat.lt_of_lt_of_le (Heap.lt_size ho) (Nat.le_trans I.sz h)) (Nat.lt_irrefl _)
theorem Inv.cne (I : Inv X pins σ H s) : ∀ x c, X.env.cells.lookup x = some c → c ≠ X.env.locals := fun x c e z => by
  obtain ⟨v, o, ho, hd⟩ := I.cell x c e
  obtain ⟨m, ⟨o', es, ep, ho', hd', _⟩, _⟩ := I.loc
  rw [z, ho'] at ho; cases ho; rw [hd'] at hd; cases hd
theorem Inv.funs (I : Inv X pins σ H s) : s.heap.FunFrames X.base X.outer := by
  have all : ∀ (l : List Env), (∀ b ∈ frs l, b ∈ X.fs) → X.s₀.heap.FunFrames X.base l → s.heap.FunFrames X.base l := by
    intro l
    induction l with
    | nil => intro _ _; trivial
    | cons env r ih =>
      intro hs hl
      obtain ⟨hk, ⟨L, o, hf, hn, ho, hd⟩, hr⟩ := hl
      have hL : L ∈ X.fs := hs L (by unfold frs; rw [List.filterMap_cons, hf]; exact List.mem_cons_self)
      obtain ⟨sl, e⟩ := I.base.slot L o ho (I.ok.frf L hL) hL fun z => I.ok.exfs L z hL
      exact ⟨hk, ⟨L, _, hf, hn, e, hd⟩, ih (fun b hb => hs b (by unfold frs; rw [List.filterMap_cons, hf]; exact List.mem_cons_of_mem _ hb)) hr⟩
  exact all X.outer (fun _ hb => hb) I.ok.funs

theorem Inv.stack (I : Inv X pins σ H s) : s.heap.FunFrames X.base X.stack := by
  rcases I.ok.stk with e | ⟨e, hf⟩
  · rw [e]; exact I.funs
  · rw [e]
    obtain ⟨m, hn, _⟩ := I.loc
    refine .cons (by rw [I.ok.kind]; decide) hf hn ?_ I.funs
    exact Heap.get?_none_of_le (Nat.le_trans I.ok.bsz I.ok.above)
theorem Inv.stkSub (I : Inv X pins σ H s) : ∀ b ∈ frs X.stack, b ∈ X.env.locals :: X.fs := fun b hb => by
  rcases I.ok.stk with e | ⟨e, hf⟩
  · rw [e] at hb; exact List.mem_cons_of_mem _ hb
  · rw [e] at hb
    unfold frs at hb
    rw [List.filterMap_cons, hf] at hb
    exact hb
theorem Inv.stkFree (I : Inv X pins σ H s) : ∀ b ∈ frs X.stack, H b = none := fun b hb => by
  rcases List.mem_cons.mp (I.stkSub b hb) with e | hb
  · rw [e]; exact I.free
  · obtain ⟨_, o, ho, _⟩ := I.ok.funs.mem hb
    exact I.base.free b o ho (I.ok.frf b hb) fun z => I.ok.exfs b z hb

theorem Inv.step {g' : Array GenState} {t' : Nat} {d' : Drawn} {ch : List Addr} (I : Inv X pins σ H s)
    (hch : ∀ b ∈ ch, (b ∈ X.ex ∨ X.s₀.heap.objs.size ≤ b) ∧ b ≠ X.env.locals ∧ (∀ x c, X.env.cells.lookup x = some c → c ≠ b) ∧ ∀ p ∈ X.pn ++ pins, p.1 ≠ b)
    (keep : ∀ b o, b ≠ X.env.locals → b ∉ X.fs → b ∉ ch → s.heap.get? b = some o → H b = none → h'.get? b = some o)
    (slot : ∀ b o, b ≠ X.env.locals → b ∈ X.fs → b ∉ ch → s.heap.get? b = some o → H b = none → ∃ sl, h'.get? b = some { o with slots := sl }) (free : ∀ b o, b ∉ ch → s.heap.get? b = some o → H b = none → H' b = none)
    (there : ∀ b o, b ∉ ch → s.heap.get? b = some o → ∃ o', h'.get? b = some o')
    (tups : ∀ b xs, H b = some (.tup xs) → H' b = some (.tup xs)) (frzs : ∀ b o u, H b = some (.frz o u) → H' b = some (.frz o u)) (tbls : ∀ b ps, H b = some (.tbl ps) → ∃ more, H' b = some (.tbl (ps ++ more)))
    (ns : ∀ m, s.heap.Ns X.env.locals m → h'.Ns X.env.locals m) (hok : HOk X.prog X.w H' h') (hg : AllBare g') :
    Inv X pins σ H' { s with heap := h', gens := g', drawn := d', toks := t' } := by
  have neL : ∀ b o, X.s₀.heap.get? b = some o → b ≠ X.env.locals := fun b o e => Nat.ne_of_lt (Nat.lt_of_lt_of_le (Heap.lt_size e) I.ok.above)
  have neC : ∀ b o, X.s₀.heap.get? b = some o → b ∉ X.ex → b ∉ ch := fun b o e hx hb => by
    rcases (hch b hb).1 with z | z
    · exact hx z
    · exact absurd (Nat.lt_of_lt_of_le (Heap.lt_size e) z) (Nat.lt_irrefl _)
  have cellK : ∀ x c, X.env.cells.lookup x = some c → ∀ v, s.heap.IsCell c v → h'.IsCell c v := fun x c e v ⟨o, ho, hd⟩ => by
    have nch : c ∉ ch := fun z => (hch c z).2.2.1 x c e rfl
    by_cases hc : c ∈ X.fs
    · obtain ⟨sl, q⟩ := slot c o (I.cne x c e) hc nch ho (I.freeC x c e)
      exact ⟨_, q, hd⟩
    · exact ⟨o, keep c o (I.cne x c e) hc nch ho (I.freeC x c e), hd⟩
  refine ⟨I.ok, I.os, hg, ⟨fun b o e n hb hx => ?_, fun b o e n hb hx => ?_, fun b o e n hx => ?_, fun b o e hx => ?_, fun b xs e => tups b xs (I.base.tups b xs e), fun b o xs e => frzs b o xs (I.base.frzs b o xs e), fun b ps e => ?_⟩, ?_, fun x c e => ?_, ?_, fun x c e => ?_, fun p hp => ?_, hok, I.len⟩
  · exact keep b o (neL b o e) hb (neC b o e hx) (I.base.keep b o e n hb hx) (I.base.free b o e n hx)
  · obtain ⟨sl, e1⟩ := I.base.slot b o e n hb hx
    obtain ⟨sl', e2⟩ := slot b _ (neL b o e) hb (neC b o e hx) e1 (I.base.free b o e n hx)
    exact ⟨sl', e2⟩
  · obtain ⟨o', e1⟩ := I.base.there b o e hx
    exact free b o' (neC b o e hx) e1 (I.base.free b o e n hx)
  · obtain ⟨o', e1⟩ := I.base.there b o e hx
    exact there b o' (neC b o e hx) e1
  · obtain ⟨m1, e1⟩ := I.base.tbls b ps e
    obtain ⟨m2, e2⟩ := tbls b _ e1
    exact ⟨m1 ++ m2, by rw [e2, Array.append_assoc]⟩
  · obtain ⟨m, hn, hl⟩ := I.loc
    refine ⟨m, ns m hn, fun i x v e1 e2 e3 => ?_⟩
    obtain ⟨u, r, l⟩ := hl i x v e1 e2 e3
    refine ⟨u, r, ?_⟩
    rcases l with l | ⟨k, c, e, z⟩
    · exact .inl l
    · exact .inr ⟨k, c, e, cellK x c e _ z⟩
  · obtain ⟨v, z⟩ := I.cell x c e
    exact ⟨v, cellK x c e v z⟩
  · obtain ⟨m, ⟨o, _, _, ho, _⟩, _⟩ := I.loc
    exact free _ o (fun z => (hch _ z).2.1 rfl) ho I.free
  · obtain ⟨v, o, ho, hd⟩ := I.cell x c e
    exact free c o (fun z => (hch c z).2.2.1 x c e rfl) ho (I.freeC x c e)
  · obtain ⟨e, n, ne, nf, d⟩ := I.pin p hp
    have nch : p.1 ∉ ch := fun z => (hch p.1 z).2.2.2 p hp rfl
    exact ⟨keep p.1 p.2 ne nf nch e n, free p.1 p.2 nch e n, ne, nf, d⟩
theorem Inv.un {t' : Nat} (I : Inv X pins σ H s) (u : Un X.fs [] H H' s.heap h') (hok : HOk X.prog X.w H' h') : Inv X pins σ H' { s with heap := h', toks := t' } := by
  obtain ⟨m, ⟨o, es, ep, ho, r⟩, _⟩ := id I.loc
  obtain ⟨sl, hL⟩ := u.any ho I.free (by simp)
  exact I.step (g' := s.gens) (d' := s.drawn) (ch := []) (fun _ z => nomatch z) (fun b o _ hb _ e n => u.keep b o e n hb (by simp)) (fun b o _ hb _ e n => u.slot b o e n hb (by simp)) (fun b o _ e n => u.free b o e n (by simp)) (fun b o _ e => u.there b o e (by simp)) u.tups u.frzs u.tbls (fun m' hm => by
    obtain ⟨o', es', ep', ho', r'⟩ := hm
    rw [ho] at ho'; cases ho'
    exact ⟨_, es', ep', hL, r'⟩) hok I.bare
theorem Inv.call {g' : Array GenState} {t' : Nat} {d' : Drawn} {ch : List Addr} (I : Inv X pins σ H s) (u : Un (frs X.stack) ch H H' s.heap h') (hok : HOk X.prog X.w H' h') (hg : AllBare g')
    (hch : ∀ b ∈ ch, (b ∈ X.ex ∨ X.s₀.heap.objs.size ≤ b) ∧ b ≠ X.env.locals ∧ (∀ x c, X.env.cells.lookup x = some c → c ≠ b) ∧ ∀ p ∈ X.pn ++ pins, p.1 ≠ b) :
    Inv X pins σ H' { s with heap := h', gens := g', drawn := d', toks := t' } := by
  obtain ⟨m, ⟨o, es, ep, ho, r⟩, _⟩ := id I.loc
  obtain ⟨sl, hL⟩ := u.any ho I.free fun z => (hch _ z).2.1 rfl
  exact I.step (ch := ch) hch (fun b o hL hb hc e n => u.keep b o e n (fun z => (List.mem_cons.mp (I.stkSub b z)).elim hL hb) hc) (fun b o _ _ hc e n => u.any e n hc) (fun b o hc e n => u.free b o e n hc) (fun b o hc e => u.there b o e hc) u.tups u.frzs u.tbls (fun m' hm => by
    obtain ⟨o', es', ep', ho', r'⟩ := hm
    rw [ho] at ho'; cases ho'
    exact ⟨_, es', ep', hL, r'⟩) hok hg
theorem Inv.turned {t' : Nat} {it : Addr} (I : Inv X pins σ H s) (k : ∀ b o, b ≠ it → s.heap.get? b = some o → h'.get? b = some o) (hn : H it = none) (hL : it ≠ X.env.locals)
    (h1 : it ∈ X.ex ∨ X.s₀.heap.objs.size ≤ it) (h2 : ∀ x c, X.env.cells.lookup x = some c → c ≠ it) (h3 : ∀ p ∈ X.pn ++ pins, p.1 ≠ it) : Inv X pins σ H { s with heap := h', toks := t' } := by
  have nit : ∀ b u, H b = some u → b ≠ it := fun b u e z => by rw [z, hn] at e; cases e
  refine I.step (g' := s.gens) (d' := s.drawn) (ch := [it]) (fun b hb => ?_) (fun b o _ _ hc e _ => k b o (fun z => hc (by simp [z])) e) (fun b o _ _ hc e _ => ⟨o.slots, k b o (fun z => hc (by simp [z])) e⟩) (fun _ _ _ _ n => n)
    (fun b o hc e => ⟨o, k b o (fun z => hc (by simp [z])) e⟩) (fun _ _ e => e) (fun _ _ _ e => e) (fun b ps e => ⟨#[], by rw [e]; simp⟩) (fun m hm => ?_) (fun b u e => ?_) I.bare
  · have e : b = it := by simpa using hb
    subst e
    exact ⟨h1, hL, h2, h3⟩
  · obtain ⟨o, es, ep, ho, r⟩ := hm
    exact ⟨o, es, ep, k _ o (Ne.symm hL) ho, r⟩
  · refine (I.hok b u e).stay (fun c v hc q => k c v ?_ q) (fun _ q => q) fun _ _ q => q
    rcases hc with z | z
    · rw [z]; exact nit b u e
    · exact nit c _ z
theorem Inv.tok (I : Inv X pins σ H s) (t : Nat) : Inv X pins σ H { s with toks := t } := I.un (h' := s.heap) (t' := t) Un.refl I.hok
theorem Inv.kept {t' : Nat} (I : Inv X pins σ H s) (k : ∀ b u, s.heap.get? b = some u → h'.get? b = some u) : Inv X pins σ H { s with heap := h', toks := t' } := I.un (Un.kept k) (I.hok.kept k)
theorem Inv.laid {a : Addr} {o : HO} {t' : Nat} (I : Inv X pins σ H s) (k : ∀ b u, s.heap.get? b = some u → h'.get? b = some u) (hp : s.heap.objs.size ≤ a) (new : ObjOk X.prog X.w (upd H a o) h' a o) :
    Inv X pins σ (upd H a o) { s with heap := h', toks := t' } := I.un (Un.laid k hp (I.hok.fresh hp)) (I.hok.laid k hp new)
theorem Inv.write {x e : Addr} {o : HO} {t' : Nat} (I : Inv X pins σ H s) (mu : Mut (H x)) (he : e = x ∨ H e = some (.own x)) (k : ∀ b u, b ≠ e → s.heap.get? b = some u → h'.get? b = some u) (heo : ∃ u, h'.get? e = some u)
    (new : ObjOk X.prog X.w (upd H x o) h' x o) : Inv X pins σ (upd H x o) { s with heap := h', toks := t' } := I.un (Un.write mu he k heo) (I.hok.write mu he k heo new)
theorem Inv.pins_of {pins' : List (Addr × Obj)} (I : Inv X pins σ H s) (h : ∀ p ∈ pins', s.heap.get? p.1 = some p.2 ∧ H p.1 = none ∧ p.1 ≠ X.env.locals ∧ p.1 ∉ X.fs ∧ ∀ v, p.2.data ≠ .cell v) : Inv X pins' σ H s :=
  ⟨I.ok, I.os, I.bare, I.base, I.loc, I.cell, I.free, I.freeC, fun p hp => (List.mem_append.mp hp).elim (fun z => I.pin p (List.mem_append_left _ z)) (h p), I.hok, I.len⟩

theorem nodup_ix {N : List Str} (hN : N.Nodup) {i j : Nat} {x : Str} (a : N[i]? = some x) (b : N[j]? = some x) : i = j := by
  obtain ⟨h1, e1⟩ := List.getElem?_eq_some_iff.mp a
  obtain ⟨h2, e2⟩ := List.getElem?_eq_some_iff.mp b
  exact (List.getElem_inj hN).mp (e1.trans e2.symm)

theorem store_ok2 {M : Model} {A : Around} {E : Value → Shared → Prop} {i : Nat} {x : Str} {v : V} {u : Value} {Q : Unit → Shared → Prop} (I : Inv X pins σ H s) (hN : X.N.Nodup) (hi : X.N[i]? = some x) (hx : Loc X.env.scope x) (r : RelV v u)
    (h : ∀ s', Inv X pins (σ.set i (some v)) H s' → (∃ a, Heap.SameBut a s.heap s'.heap ∧ (a = X.env.locals ∨ X.env.cells.lookup x = some a)) → Q () s') (hf : X.fn x = true ∨ X.env.scope.names.lookup x = some .local := by first | exact .inl rfl | exact .inr rfl | assumption) : wpAny M A (storeName X.env x u) Q E s := by
  obtain ⟨m, hn, hl⟩ := id I.loc
  have hcls : (X.env.scope.kind == .class || (X.env.scope.kind == .module && X.env.locals != X.env.globals)) = false := by rw [I.ok.kind]; rfl
  have hiσ : i < σ.length := by rw [I.len]; exact (List.getElem?_eq_some_iff.mp hi).1
  have cne := I.cne
  have tracked : ∀ {a : Addr} {h' : Heap}, (∃ o, s.heap.get? a = some o ∧ H a = none) → Heap.SameBut a s.heap h' → HOk X.prog X.w H h' := fun {a h'} ha hs b ob e => by
    obtain ⟨_, _, hfree⟩ := ha
    refine (I.hok b ob e).stay (fun c w' hc q => (hs.2 c ?_).trans q) (fun _ q => q) fun _ _ q => q
    rintro rfl
    rcases hc with rfl | hc
    · rw [hfree] at e; cases e
    · rw [hfree] at hc; cases hc
  rcases hx with hk | hk
  · refine wpAny_storeName_local hk hn (fun h' hn' hs => ?_) hcls
    obtain ⟨oL, _, _, hoL, _⟩ := id hn
    refine h _ ⟨I.ok, I.os, I.bare, ⟨fun b o e n hb hx => ?_, fun b o e n hb hx => ?_, I.base.free, fun b o e hx => ?_, I.base.tups, I.base.frzs, I.base.tbls⟩, ⟨_, hn', fun j y v' e1 e2 e3 => ?_⟩, fun y c e => ?_, I.free, I.freeC, fun p hp => ?_, tracked ⟨oL, hoL, I.free⟩ hs, by simpa using I.len⟩ ⟨_, hs, .inl rfl⟩
    · exact (hs.2 b (Nat.ne_of_lt (Nat.lt_of_lt_of_le (Heap.lt_size e) I.ok.above))).trans (I.base.keep b o e n hb hx)
    · obtain ⟨sl, e1⟩ := I.base.slot b o e n hb hx
      exact ⟨sl, (hs.2 b (Nat.ne_of_lt (Nat.lt_of_lt_of_le (Heap.lt_size e) I.ok.above))).trans e1⟩
    · obtain ⟨o', e1⟩ := I.base.there b o e hx
      exact ⟨o', (hs.2 b (Nat.ne_of_lt (Nat.lt_of_lt_of_le (Heap.lt_size e) I.ok.above))).trans e1⟩
    · by_cases hj : j = i
      · subst hj
        rw [hi] at e1; cases e1
        rw [List.getElem?_set_self hiσ] at e2
        cases e2
        exact ⟨u, r, .inl ⟨hk, by simp⟩⟩
      · rw [List.getElem?_set_ne (Ne.symm hj)] at e2
        obtain ⟨u', r', q⟩ := hl j y v' e1 e2 e3
        refine ⟨u', r', ?_⟩
        rcases q with ⟨k, e⟩ | ⟨k, c, e, z⟩
        · refine .inl ⟨k, ?_⟩
          have : y ≠ x := fun e => hj (nodup_ix hN e1 (e ▸ hi))
          simp [this, e]
        · exact .inr ⟨k, c, e, z.sameBut hs (cne y c e)⟩
    · obtain ⟨w', z⟩ := I.cell y c e
      exact ⟨w', z.sameBut hs (cne y c e)⟩
    · obtain ⟨e, n, ne, nf, d⟩ := I.pin p hp
      exact ⟨(hs.2 p.1 ne).trans e, n, ne, nf, d⟩
  · have hfn : X.fn x = true := by
      rcases hf with z | z
      · exact z
      · rw [z] at hk; cases hk
    obtain ⟨c, hc⟩ := I.ok.has x (.inl hk)
    obtain ⟨w', z⟩ := I.cell x c hc
    refine wpAny_storeName_cell I.ok.kind hk hc z (fun h' hc' hs => ?_)
    obtain ⟨oc, hoc, hocd⟩ := id z
    refine h { s with heap := h' } ⟨I.ok, I.os, I.bare, ⟨fun b o e n hb hx => ?_, fun b o e n hb hx => ?_, I.base.free, fun b o e hx => ?_, I.base.tups, I.base.frzs, I.base.tbls⟩, ⟨m, hn.sameBut hs (Ne.symm (cne x c hc)), fun j y v' e1 e2 e3 => ?_⟩, fun y c' e => ?_, I.free, I.freeC, fun p hp => ?_, tracked ⟨oc, hoc, I.freeC x c hc⟩ hs, by simpa using I.len⟩ ⟨c, hs, .inr hc⟩
    · exact (hs.2 b (Nat.ne_of_lt (Nat.lt_of_lt_of_le (Heap.lt_size e) (I.ok.cab x c hfn hc)))).trans (I.base.keep b o e n hb hx)
    · obtain ⟨sl, e1⟩ := I.base.slot b o e n hb hx
      exact ⟨sl, (hs.2 b (Nat.ne_of_lt (Nat.lt_of_lt_of_le (Heap.lt_size e) (I.ok.cab x c hfn hc)))).trans e1⟩
    · obtain ⟨o', e1⟩ := I.base.there b o e hx
      exact ⟨o', (hs.2 b (Nat.ne_of_lt (Nat.lt_of_lt_of_le (Heap.lt_size e) (I.ok.cab x c hfn hc)))).trans e1⟩
    · by_cases hj : j = i
      · subst hj
        rw [hi] at e1; cases e1
        rw [List.getElem?_set_self hiσ] at e2
        cases e2
        exact ⟨u, r, .inr ⟨.inl hk, c, hc, hc'⟩⟩
      · rw [List.getElem?_set_ne (Ne.symm hj)] at e2
        obtain ⟨u', r', q⟩ := hl j y v' e1 e2 e3
        refine ⟨u', r', ?_⟩
        rcases q with q | ⟨k, c', e, z'⟩
        · exact .inl q
        · refine .inr ⟨k, c', e, z'.sameBut hs ?_⟩
          rintro rfl
          exact hj (nodup_ix hN e1 (I.ok.inj _ _ _ e hc ▸ hi))
    · by_cases hcc : c' = c
      · subst hcc; exact ⟨_, hc'⟩
      · obtain ⟨w2, z2⟩ := I.cell y c' e
        exact ⟨w2, z2.sameBut hs hcc⟩
    · obtain ⟨e, n, ne, nf, d⟩ := I.pin p hp
      refine ⟨(hs.2 p.1 ?_).trans e, n, ne, nf, d⟩
      intro q
      rw [q, hoc] at e
      have q' : oc = p.2 := Option.some.inj e
      exact d w' (by rw [← q']; exact hocd)
theorem store_ok {M : Model} {A : Around} {E : Value → Shared → Prop} {i : Nat} {x : Str} {v : V} {u : Value} {Q : Unit → Shared → Prop} (I : Inv X pins σ H s) (hN : X.N.Nodup) (hi : X.N[i]? = some x) (hx : Loc X.env.scope x) (r : RelV v u)
    (h : ∀ s', Inv X pins (σ.set i (some v)) H s' → Q () s') (hf : X.fn x = true ∨ X.env.scope.names.lookup x = some .local := by first | exact .inl rfl | exact .inr rfl | assumption) : wpAny M A (storeName X.env x u) Q E s :=
  store_ok2 I hN hi hx r (fun s' I' _ => h s' I') hf
theorem Inv.call' {s' : Shared} {ch : List Addr} (I : Inv X pins σ H s) (ho : s'.os = s.os) (u : Un (frs X.stack) ch H H' s.heap s'.heap) (hok : HOk X.prog X.w H' s'.heap) (hg : AllBare s'.gens)
    (hch : ∀ b ∈ ch, (b ∈ X.ex ∨ X.s₀.heap.objs.size ≤ b) ∧ b ≠ X.env.locals ∧ (∀ x c, X.env.cells.lookup x = some c → c ≠ b) ∧ ∀ p ∈ X.pn ++ pins, p.1 ≠ b) : Inv X pins σ H' s' := by
  obtain ⟨h', g', d', t', o'⟩ := s'
  have e : o' = s.os := ho
  subst e
  exact I.call (g' := g') (t' := t') (d' := d') u hok hg hch
end

/-! ### the judgements -/
abbrev XK := Value → Option Addr → Hp → Prop
abbrev St := List (Option V)
abbrev VK := V → Hp → Prop
abbrev TE := St → Hp → VK → Prop
abbrev TT := St → Hp → (Bool → Hp → Prop) → Prop
abbrev TA := St → Hp → (List V → Hp → Prop) → Prop
structure Ends where
  nx : St → Hp → Prop
  rt : VK
  bk : St → Hp → Prop := fun _ _ => False
  ct : St → Hp → Prop := fun _ _ => False
abbrev TS := Ends → St → Hp → Prop

def EP (X : Cx) (pins : List (Addr × Obj)) (σ : St) (Q : VK) (u : Value) (s' : Shared) : Prop := ∃ v H', Inv X pins σ H' s' ∧ RelV v u ∧ Q v H'
def TP (X : Cx) (pins : List (Addr × Obj)) (σ : St) (Q : Bool → Hp → Prop) (b : Bool) (s' : Shared) : Prop := ∃ H', Inv X pins σ H' s' ∧ Q b H'
def AP (X : Cx) (pins : List (Addr × Obj)) (σ : St) (Q : List V → Hp → Prop) (us : List Value) (s' : Shared) : Prop := ∃ vs H', Inv X pins σ H' s' ∧ Vals vs us ∧ Q vs H'
def SP (X : Cx) (pins : List (Addr × Obj)) (D : Ends) (f : Flow) (s' : Shared) : Prop :=
  match f with
  | .next => ∃ σ' H', Inv X pins σ' H' s' ∧ D.nx σ' H'
  | .brk => ∃ σ' H', Inv X pins σ' H' s' ∧ D.bk σ' H'
  | .cont => ∃ σ' H', Inv X pins σ' H' s' ∧ D.ct σ' H'
  | .ret u => ∃ v σ' H', Inv X pins σ' H' s' ∧ RelV v u ∧ D.rt v H'

def PE (X : Cx) (e : Expr) (t : TE) : Prop :=
  ∀ (pins : List (Addr × Obj)) (s : Shared) (σ : St) (H : Hp) (Q : VK), Inv X pins σ H s → t σ H Q → wpAny (model X.prog X.w) X.A (eval e X.env) (EP X pins σ Q) X.xe s
def PT (X : Cx) (e : Expr) (t : TT) : Prop :=
  ∀ (pins : List (Addr × Obj)) (s : Shared) (σ : St) (H : Hp) (Q : Bool → Hp → Prop), Inv X pins σ H s → t σ H Q → wpAny (model X.prog X.w) X.A (isTrue e X.env (eval e X.env)) (TP X pins σ Q) X.xe s
def PW (X : Cx) (e : Expr) (t : TT) : Prop :=
  ∀ (whole : Sem Value) (pins : List (Addr × Obj)) (s : Shared) (σ : St) (H : Hp) (Q : Bool → Hp → Prop), Inv X pins σ H s → t σ H Q → wpAny (model X.prog X.w) X.A (isTrue e X.env whole) (TP X pins σ Q) X.xe s
theorem PW.pt {X : Cx} {e : Expr} {t : TT} (h : PW X e t) : PT X e t := h _
def PA (X : Cx) (es : List Expr) (t : TA) : Prop :=
  ∀ (pos : Pos) (pins : List (Addr × Obj)) (s : Shared) (σ : St) (H : Hp) (Q : List V → Hp → Prop), Inv X pins σ H s → t σ H Q → wpAny (model X.prog X.w) X.A (spliced (backTo pos (starEach es X.env))) (AP X pins σ Q) X.xe s
def PS (X : Cx) (st : Stmt) (t : TS) : Prop :=
  ∀ (pins : List (Addr × Obj)) (s : Shared) (σ : St) (H : Hp) (D : Ends), Inv X pins σ H s → t D σ H → wpAny (model X.prog X.w) X.A (exec st X.env) (SP X pins D) X.xe s
def PSs (X : Cx) (st : List Stmt) (t : TS) : Prop :=
  ∀ (pins : List (Addr × Obj)) (s : Shared) (σ : St) (H : Hp) (D : Ends), Inv X pins σ H s → t D σ H → wpAny (model X.prog X.w) X.A (execs st X.env) (SP X pins D) X.xe s
theorem thn {α : Type} {t : Sem α} {Q Q' : α → Shared → Prop} {M : Model} {A : Around} {E : Value → Shared → Prop} {s : Shared} (h : wpAny M A t Q E s) (hQ : ∀ a s, Q a s → Q' a s) : wpAny M A t Q' E s := wpAny_mono h hQ fun _ _ x => x
end L2

namespace L2
open PySem PySem.Spec PyProof.Rows
section
variable {X : Cx}

/-! ### names and constants -/
def tVar (i : Nat) : TE := fun σ H Q => ∃ v, σ[i]? = some (some v) ∧ Q v H
def tC (v : V) : TE := fun _ H Q => Q v H
theorem pe_var {i : Nat} {x : Str} {pos : Pos} (hN : X.N[i]? = some x) (hv : Vis X.env.scope x) (hd : (x == ("__debug__" : Str)) = false := by decide) (hcd : (x == ("__classdict__" : Str)) = false := by decide) : PE X (.Name x pos) (tVar i) := by
  intro pins s σ H Q I h
  obtain ⟨v, e, h⟩ := h
  obtain ⟨m, hn, hl⟩ := I.loc
  obtain ⟨u, r, l⟩ := hl i x v hN e hv
  have fin : EP X pins σ Q u s := ⟨v, H, I, r, h⟩
  rcases l with ⟨hk, hm⟩ | ⟨hk, c, hc, hcell⟩
  · exact wpAny_Name (wpAny_loadName_local I.ok.kind hk hn hm fin) hd
  · rcases hk with hk | hk
    · exact wpAny_Name (wpAny_loadName_cell I.ok.kind hk hc hcell fin) hd
    · exact wpAny_Name (wpAny_loadName_free I.ok.kind hk hc hcell fin hcd) hd
theorem pe_int {i j pos} : PE X (.Constant (.int i) j pos) (tC (.int i)) := fun _ _ _ H _ I h => wpAny_Constant_int ⟨.int i, H, I.tok _, ⟨_, rfl⟩, h⟩
theorem pe_bl {b j pos} : PE X (.Constant (.bool b) j pos) (tC (.bl b)) := fun _ _ _ H _ I h => Constant_bool ⟨.bl b, H, I, rfl, h⟩
theorem pe_non {j pos} : PE X (.Constant .none j pos) (tC .non) := fun _ _ _ H _ I h => Constant_none ⟨.non, H, I, rfl, h⟩
theorem pe_str {x j pos} : PE X (.Constant (.str x) j pos) (tC (.str x)) := fun _ _ _ H _ I h => Calls.Constant_str ⟨.str x, H, I.tok _, ⟨_, rfl⟩, h⟩

def Gl (X : Cx) (x : Str) : Prop := X.env.kindOf x = some .globalImplicit
theorem ld_glob {E : Value → Shared → Prop} {pins : List (Addr × Obj)} {s : Shared} {σ : St} {H : Hp} {x : Str} {u : Value} {pos : Pos} {Q : Value → Shared → Prop} (I : Inv X pins σ H s) (hg : Gl X x) (hm : X.mg x = some u) (h : Q u s)
    (hd : (x == ("__debug__" : Str)) = false := by decide) : wpAny (model X.prog X.w) X.A (eval (.Name x pos) X.env) Q E s :=
  Calls.Name_function_global I.ok.kind hg (Calls.loadGlobal_global (by rw [I.ok.glob]; exact I.mod.glob.keeps I.bk) hm h) hd
theorem ld_blt {E : Value → Shared → Prop} {pins : List (Addr × Obj)} {s : Shared} {σ : St} {H : Hp} {x : Str} {u : Value} {pos : Pos} {Q : Value → Shared → Prop} (I : Inv X pins σ H s) (hg : Gl X x) (hm : X.mg x = none) (hv : bootBuiltins x = some u) (h : Q u s)
    (hn : x ≠ "__name__" := by decide) (hd : (x == ("__debug__" : Str)) = false := by decide) : wpAny (model X.prog X.w) X.A (eval (.Name x pos) X.env) Q E s := by
  obtain ⟨mb, h1, h2⟩ := I.mod.blt
  exact Calls.Name_function_global I.ok.kind hg (Calls.loadGlobal_builtin (by rw [I.ok.glob]; exact I.mod.glob.keeps I.bk) hm (by rw [I.ok.blt]; exact h1.keeps I.bk) ((h2 x hn).trans hv) h) hd
theorem pe_glob {x : Str} {v : V} {u : Value} {pos : Pos} (hg : Gl X x) (hm : X.mg x = some u) (r : RelV v u) (hd : (x == ("__debug__" : Str)) = false := by decide) : PE X (.Name x pos) (tC v) :=
  fun _ _ _ H _ I h => ld_glob I hg hm ⟨v, H, I, r, h⟩ hd
theorem pe_bltn {x : Str} {v : V} {u : Value} {pos : Pos} (hg : Gl X x) (hm : X.mg x = none) (hv : bootBuiltins x = some u) (r : RelV v u) (hn : x ≠ "__name__" := by decide) (hd : (x == ("__debug__" : Str)) = false := by decide) : PE X (.Name x pos) (tC v) :=
  fun _ _ _ H _ I h => ld_blt I hg hm hv ⟨v, H, I, r, h⟩ hn hd

/-! ### arithmetic -/
variable {a b : Expr} {ta tb : TE} {pos : Pos}
/-! ### comparisons -/
def PC (X : Cx) (op : CmpOp) (a b : Expr) (t : TE) : Prop :=
  ∀ (pins : List (Addr × Obj)) (s : Shared) (σ : St) (H : Hp) (Q : VK), Inv X pins σ H s → t σ H Q →
    wpAny (model X.prog X.w) X.A (eval a X.env) (fun v s₁ => wpAny (model X.prog X.w) X.A (eval b X.env) (fun u s₂ => wpAny (model X.prog X.w) X.A (compareOp op v u) (EP X pins σ Q) X.xe s₂) X.xe s₁) X.xe s
theorem nobehind (b : Expr) {op : CmpOp} (h : op ≠ .In) (h2 : op ≠ .NotIn) : behindInMarks op b = false := by
  have e1 : (op == CmpOp.In) = false := by cases op <;> first | rfl | exact absurd rfl h
  have e2 : (op == CmpOp.NotIn) = false := by cases op <;> first | rfl | exact absurd rfl h2
  cases b <;> simp [behindInMarks, e1, e2]
def tB (t : TE) : TT := fun σ H Q => t σ H fun x H1 => ∃ c, x = .bl c ∧ Q c H1
theorem pt_cmp {op : CmpOp} {t : TE} (h : PC X op a b t) (h1 : behindInMarks op b = false := by first | exact nobehind _ (by decide) (by decide) | rfl) : PT X (.Compare a [op] [b] pos) (tB t) := by
  intro pins s σ H Q I hw
  refine wpAny_isTrue_Compare1 (thn (h pins s σ H _ I hw) fun v s1 h1 => thn h1 fun u s2 h2 => thn h2 fun c s3 ⟨x, H1, I1, r1, q1⟩ => ?_) h1
  obtain ⟨d, rfl, q⟩ := q1
  cases r1
  exact wpAny_truthy_bool ⟨H1, I1, q⟩
theorem pt_val {e : Expr} {t : TE} (h : PE X e t) (he : ∀ whole, isTrue e X.env whole = (do let v ← whole; standAt e.pos; holding [v] (truthy v)) := by intro _; rfl) : PT X e (tB t) := by
  intro pins s σ H Q I hw
  refine isTrue_plain (thn (h pins s σ H _ I hw) fun v s1 ⟨x, H1, I1, r1, q1⟩ => ?_) (he _)
  obtain ⟨d, rfl, q⟩ := q1
  cases r1
  exact wpAny_truthy_bool ⟨H1, I1, q⟩

/-! ### and, or, not -/
variable {tA tB' : TT} {rest : List Expr}
def tAnd (t u : TT) : TT := fun σ H Q => t σ H fun c H1 => if c = true then u σ H1 Q else Q false H1
def tOr (t u : TT) : TT := fun σ H Q => t σ H fun c H1 => if c = true then Q true H1 else u σ H1 Q
def tNot (t : TT) : TT := fun σ H Q => t σ H fun c H1 => Q (!c) H1
theorem pw_and1 (ha : PT X a tA) : PW X (.BoolOp .And [a] pos) tA := by
  intro wh pins s σ H Q I h
  refine isTrue_and (thn (ha pins s σ H Q I h) fun c s1 e => ?_)
  cases c with
  | true => exact isTrue_and_nil e
  | false => exact e
theorem pw_or1 (ha : PT X a tA) : PW X (.BoolOp .Or [a] pos) tA := by
  intro wh pins s σ H Q I h
  refine isTrue_or (thn (ha pins s σ H Q I h) fun c s1 e => ?_)
  cases c with
  | false => exact isTrue_or_nil e
  | true => exact e
theorem pw_and (ha : PT X a tA) (hb : PW X (.BoolOp .And (b :: rest) pos) tB') : PW X (.BoolOp .And (a :: b :: rest) pos) (tAnd tA tB') := by
  intro wh pins s σ H Q I h
  refine isTrue_and (thn (ha pins s σ H _ I h) fun c s1 ⟨H1, I1, q1⟩ => ?_)
  cases c with
  | true => exact hb wh pins s1 σ H1 Q I1 q1
  | false => exact ⟨H1, I1, q1⟩
theorem pw_or (ha : PT X a tA) (hb : PW X (.BoolOp .Or (b :: rest) pos) tB') : PW X (.BoolOp .Or (a :: b :: rest) pos) (tOr tA tB') := by
  intro wh pins s σ H Q I h
  refine isTrue_or (thn (ha pins s σ H _ I h) fun c s1 ⟨H1, I1, q1⟩ => ?_)
  cases c with
  | true => exact ⟨H1, I1, q1⟩
  | false => exact hb wh pins s1 σ H1 Q I1 q1
theorem pt_not (ha : PT X a tA) : PT X (.UnaryOp .Not a pos) (tNot tA) := by
  intro pins s σ H Q I h
  exact isTrue_not (ha pins s σ H (fun c H1 => Q (!c) H1) I h)
def tAndV (ta tb : TE) : TE := fun σ H Q => ta σ H fun x H1 => ∃ c, x = .bl c ∧ if c = true then tb σ H1 Q else Q (.bl false) H1
def tOrV (ta tb : TE) : TE := fun σ H Q => ta σ H fun x H1 => ∃ c, x = .bl c ∧ if c = true then Q (.bl true) H1 else tb σ H1 Q
def tNotV (ta : TE) : TE := fun σ H Q => ta σ H fun x H1 => ∃ c, x = .bl c ∧ Q (.bl (!c)) H1
theorem pe_one {op} {t : TE} (h : PE X a t) : PE X (.BoolOp op [a] pos) t := fun pins s σ H Q I hw => BoolOp_one (h pins s σ H Q I hw)
theorem pe_and (ha : PE X a ta) (hb : PE X (.BoolOp .And (b :: rest) pos) tb) : PE X (.BoolOp .And (a :: b :: rest) pos) (tAndV ta tb) := by
  intro pins s σ H Q I h
  refine BoolOp_and (thn (ha pins s σ H _ I h) fun v s1 ⟨x, H1, I1, r1, q1⟩ => ?_)
  obtain ⟨c, rfl, q1⟩ := q1
  cases r1
  refine wpAny_truthy_bool ?_
  cases c with
  | true => exact hb pins s1 σ H1 Q I1 q1
  | false => exact ⟨.bl false, H1, I1, rfl, q1⟩
theorem pe_or (ha : PE X a ta) (hb : PE X (.BoolOp .Or (b :: rest) pos) tb) : PE X (.BoolOp .Or (a :: b :: rest) pos) (tOrV ta tb) := by
  intro pins s σ H Q I h
  refine BoolOp_or (thn (ha pins s σ H _ I h) fun v s1 ⟨x, H1, I1, r1, q1⟩ => ?_)
  obtain ⟨c, rfl, q1⟩ := q1
  cases r1
  refine wpAny_truthy_bool ?_
  cases c with
  | false => exact hb pins s1 σ H1 Q I1 q1
  | true => exact ⟨.bl true, H1, I1, rfl, q1⟩
theorem pe_not (ha : PE X a ta) : PE X (.UnaryOp .Not a pos) (tNotV ta) := by
  intro pins s σ H Q I h
  refine UnaryOp_ (thn (ha pins s σ H _ I h) fun v s1 ⟨x, H1, I1, r1, q1⟩ => ?_)
  obtain ⟨c, rfl, q1⟩ := q1
  cases r1
  exact not_of (wpAny_truthy_bool ⟨.bl (!c), H1, I1, rfl, q1⟩)
def tIf (t : TT) (ta tb : TE) : TE := fun σ H Q => t σ H fun c H1 => if c = true then ta σ H1 Q else tb σ H1 Q
theorem pe_ifExp {c : Expr} (hc : PT X c tA) (ha : PE X a ta) (hb : PE X b tb) : PE X (.IfExp c a b pos) (tIf tA ta tb) := by
  intro pins s σ H Q I h
  refine wpAny_IfExp (thn (hc pins s σ H _ I h) fun d s1 ⟨H1, I1, q1⟩ => ?_)
  cases d with
  | true => exact ha pins s1 σ H1 Q I1 q1
  | false => exact hb pins s1 σ H1 Q I1 q1
end
end L2

namespace L2
open PySem PySem.Spec PyProof.Rows

/-! ### a list, a tuple that is read: tracked, frozen, or an object of the module -/
def SqL (K : PySem.W.Frag) (H : Hp) (a : Addr) (xs : List V) : Prop :=
  Rd H a (.lst xs) ∨
    ∃ (o : Obj) (its : Array Value) (n : Nat), K.lookup a = some o ∧ o.cls = .type "list" ∧ o.dict = none ∧ o.data = .seq its n ∧ its.size ≤ sizeLine ∧ Vals xs its.toList
def SqT (K : PySem.W.Frag) (H : Hp) (a : Addr) (xs : List V) : Prop :=
  Rd H a (.tup xs) ∨
    ∃ (o : Obj) (its : Array Value) (n : Nat), K.lookup a = some o ∧ o.cls = .type "tuple" ∧ o.data = .seq its n ∧ its.size ≤ sizeLine ∧ Vals xs its.toList
def absV : Value → Option V
  | .none => some .non
  | .bool b => some (.bl b)
  | .int i _ => some (.int i)
  | .str x _ => some (.str x)
  | .bytes b _ => some (.byt b)
  | .float b _ => some (.flt b)
  | .ref a => some (.ref a)
  | .type n => some (.ty n)
  | _ => none
theorem RelV.abs {x : V} {u : Value} (r : RelV x u) : absV u = some x := by
  cases x with
  | non => cases r; rfl
  | bl _ => cases r; rfl
  | int _ => obtain ⟨t, rfl⟩ := r; rfl
  | str _ => obtain ⟨t, rfl⟩ := r; rfl
  | byt _ => obtain ⟨t, rfl⟩ := r; rfl
  | flt _ => obtain ⟨t, rfl⟩ := r; rfl
  | ref _ => cases r; rfl
  | ty _ => cases r; rfl
theorem RelV.inj {x y : V} {u : Value} (r : RelV x u) (q : RelV y u) : x = y := Option.some.inj (r.abs.symm.trans q.abs)
theorem Vals.inj : ∀ {xs ys : List V} {us : List Value}, Vals xs us → Vals ys us → xs = ys
  | _, _, _, .nil, .nil => rfl
  | _, _, _, .cons r t, .cons r' t' => by rw [r.inj r', Vals.inj t t']
section
variable {X : Cx} {pins : List (Addr × Obj)} {σ : St} {H : Hp} {s : Shared} {a : Addr} {xs ys : List V}
theorem SqL.of {K : PySem.W.Frag} (h : H a = some (.lst xs)) : SqL K H a xs := .inl (.inl h)
theorem SqT.of {K : PySem.W.Frag} (h : H a = some (.tup xs)) : SqT K H a xs := .inl (.inl h)
theorem Inv.list (I : Inv X pins σ H s) (h : SqL X.K H a xs) : ∃ its : List Value, Vals xs its ∧ PlainL s.heap a its.toArray ∧ xs.length ≤ sizeLine := by
  rcases h with h | ⟨o, its, n, hk, hc, hd, hs, hz, r⟩
  · obtain ⟨z, its, n, r, e⟩ := h.ok I.hok
    exact ⟨its, r, ⟨_, n, e, rfl, rfl, rfl⟩, z⟩
  · refine ⟨its.toList, r, ⟨o, n, I.kIn a o hk, hc, hd, by simpa using hs⟩, ?_⟩
    have e := r.length
    simp only [Array.length_toList] at e
    omega
theorem Inv.tuple (I : Inv X pins σ H s) (h : SqT X.K H a xs) : ∃ its : List Value, Vals xs its ∧ IsTup s.heap a its.toArray ∧ xs.length ≤ sizeLine := by
  rcases h with h | ⟨o, its, n, hk, hc, hs, hz, r⟩
  · obtain ⟨z, its, r, p⟩ := h.ok I.hok
    exact ⟨its, r, p, z⟩
  · refine ⟨its.toList, r, ⟨o, I.kIn a o hk, hc, n, by simpa using hs⟩, ?_⟩
    have e := r.length
    simp only [Array.length_toList] at e
    omega
theorem Inv.list_inj (I : Inv X pins σ H s) (h : SqL X.K H a xs) (h' : SqL X.K H a ys) : xs = ys := by
  obtain ⟨its, r, ⟨o, n, e, _, _, d⟩, _⟩ := I.list h
  obtain ⟨its', r', ⟨o', n', e', _, _, d'⟩, _⟩ := I.list h'
  rw [e] at e'; cases e'
  rw [d] at d'
  injection d' with d1 _
  have : its = its' := by simpa using congrArg Array.toList d1
  subst this
  exact r.inj r'
theorem Inv.tuple_inj (I : Inv X pins σ H s) (h : SqT X.K H a xs) (h' : SqT X.K H a ys) : xs = ys := by
  obtain ⟨its, r, ⟨o, e, _, n, d⟩, _⟩ := I.tuple h
  obtain ⟨its', r', ⟨o', e', _, n', d'⟩, _⟩ := I.tuple h'
  rw [e] at e'; cases e'
  rw [d] at d'
  injection d' with d1 _
  have : its = its' := by simpa using congrArg Array.toList d1
  subst this
  exact r.inj r'
end

/-! ### another wish about exceptions -/
abbrev Cx.wish (X : Cx) (E : Value → Shared → Prop) : Cx := { X with xe := E }
abbrev Cx.nox (X : Cx) : Cx := X.wish fun _ _ => False
theorem Cx.Ok.wish {X : Cx} (ok : X.Ok) (E : Value → Shared → Prop) : (X.wish E).Ok :=
  ⟨ok.mod, ok.kind, ok.glob, ok.blt, ok.above, ok.inj, ok.has, ok.cab, ok.hd, ok.frames, ok.stk, ok.exf, ok.bs, ok.bsz, ok.noex, ok.exfs, ok.funs, ok.frf⟩
theorem Cx.Ok.unwish {X : Cx} {E : Value → Shared → Prop} (ok : (X.wish E).Ok) : X.Ok :=
  ⟨ok.mod, ok.kind, ok.glob, ok.blt, ok.above, ok.inj, ok.has, ok.cab, ok.hd, ok.frames, ok.stk, ok.exf, ok.bs, ok.bsz, ok.noex, ok.exfs, ok.funs, ok.frf⟩
section
variable {X : Cx} {pins : List (Addr × Obj)} {σ : St} {H : Hp} {s : Shared} {E : Value → Shared → Prop}
theorem Inv.wish (I : Inv X pins σ H s) (E : Value → Shared → Prop) : Inv (X.wish E) pins σ H s := ⟨I.ok.wish E, I.os, I.bare, I.base, I.loc, I.cell, I.free, I.freeC, I.pin, I.hok, I.len⟩
theorem Inv.unwish (I : Inv (X.wish E) pins σ H s) : Inv X pins σ H s := ⟨I.ok.unwish, I.os, I.bare, I.base, I.loc, I.cell, I.free, I.freeC, I.pin, I.hok, I.len⟩
theorem SP.unwish {D : Ends} {f : Flow} {s' : Shared} (h : SP (X.wish E) pins D f s') : SP X pins D f s' := by
  cases f with
  | next => obtain ⟨σ', H', I, q⟩ := h; exact ⟨σ', H', I.unwish, q⟩
  | brk => obtain ⟨σ', H', I, q⟩ := h; exact ⟨σ', H', I.unwish, q⟩
  | cont => obtain ⟨σ', H', I, q⟩ := h; exact ⟨σ', H', I.unwish, q⟩
  | ret u => obtain ⟨v, σ', H', I, r, q⟩ := h; exact ⟨v, σ', H', I.unwish, r, q⟩
theorem PE.nox {e : Expr} {t : TE} (h : PE X.nox e t) : PE X e t := fun pins s σ H Q I hw =>
  wpAny_mono (h pins s σ H Q (I.wish _) hw) (fun _ _ ⟨v, H', I', r, q⟩ => ⟨v, H', I'.unwish, r, q⟩) fun _ _ z => False.elim z
theorem PT.nox {e : Expr} {t : TT} (h : PT X.nox e t) : PT X e t := fun pins s σ H Q I hw =>
  wpAny_mono (h pins s σ H Q (I.wish _) hw) (fun _ _ ⟨H', I', q⟩ => ⟨H', I'.unwish, q⟩) fun _ _ z => False.elim z
theorem PSs.nox {st : List Stmt} {t : TS} (h : PSs X.nox st t) : PSs X st t := fun pins s σ H D I hw =>
  wpAny_mono (h pins s σ H D (I.wish _) hw) (fun _ _ q => q.unwish) fun _ _ z => False.elim z
end

/-! ### blocks and small statements -/
section
variable {X : Cx} {st : Stmt} {rest : List Stmt} {t u : TS} {e : Expr} {te : TE} {pos : Pos}
def tNext : TS := fun D σ H => D.nx σ H
def tSeq (t u : TS) : TS := fun D σ H => t { D with nx := u D } σ H
theorem pss_nil : PSs X [] tNext := fun _ _ σ H _ I h => wpAny_execs_nil ⟨σ, H, I, h⟩
theorem pss_cons (h1 : PS X st t) (h2 : PSs X rest u) : PSs X (st :: rest) (tSeq t u) := by
  intro pins s σ H D I h
  refine wpAny_execs_cons (thn (h1 pins s σ H { D with nx := u D } I h) fun f s1 q => ?_)
  cases f with
  | next =>
    obtain ⟨σ', H', I', q⟩ := q
    exact h2 pins s1 σ' H' D I' q
  | ret v => exact q
  | brk => exact q
  | cont => exact q
theorem pss_one (h1 : PS X st t) : PSs X [st] t := by
  intro pins s σ H D I h
  refine wpAny_execs_cons (thn (h1 pins s σ H D I h) fun f s1 q => ?_)
  cases f with
  | next => exact wpAny_execs_nil q
  | ret v => exact q
  | brk => exact q
  | cont => exact q
def tBreak : TS := fun D σ H => D.bk σ H
def tCont : TS := fun D σ H => D.ct σ H
theorem Inv.quiet {pins : List (Addr × Obj)} {σ : St} {H : Hp} {s : Shared} (I : Inv X pins σ H s) : interactive X.env = false := by simp [interactive, I.ok.kind]
def tDrop (te : TE) : TS := fun D σ H => te σ H fun _ H1 => D.nx σ H1
theorem ps_expr (he : PE X e te) (hs : swapsWith e none pos.line X.env = pure false := by rfl) : PS X (.Expr e pos) (tDrop te) := by
  intro pins s σ H D I h
  exact wpAny_Expr_any (thn (he pins s σ H _ I h) fun v s1 ⟨x, H1, I1, r1, q1⟩ => ⟨σ, H1, I1, q1⟩) I.quiet hs
def tRet (te : TE) : TS := fun D σ H => te σ H D.rt
theorem ps_ret (he : PE X e te) : PS X (.Return (some e) pos) (tRet te) := by
  intro pins s σ H D I h
  exact wpAny_Return_some (thn (he pins s σ H _ I h) fun v s1 ⟨x, H1, I1, r1, q1⟩ => ⟨x, σ, H1, I1, r1, q1⟩)
def tRetN : TS := fun D _ H => D.rt .non H
def tIfS (c : TT) (t u : TS) : TS := fun D σ H => c σ H fun b H1 => if b = true then t D σ H1 else u D σ H1
theorem ps_if {c : Expr} {a b : List Stmt} {tc : TT} (hc : PT X c tc) (ha : PSs X a t) (hb : PSs X b u) : PS X (.If c a b pos) (tIfS tc t u) := by
  intro pins s σ H D I h
  refine wpAny_If (thn (hc pins s σ H _ I h) fun d s1 ⟨H1, I1, q1⟩ => ?_)
  cases d with
  | true => exact ha pins s1 σ H1 D I1 q1
  | false => exact hb pins s1 σ H1 D I1 q1
end

/-! ### targets -/
abbrev TG := V → St → Hp → (St → Hp → Prop) → Prop
abbrev TGs := List V → St → Hp → (St → Hp → Prop) → Prop
def PG (X : Cx) (target : Expr) (t : TG) : Prop :=
  ∀ (pins : List (Addr × Obj)) (s : Shared) (σ : St) (H : Hp) (v : V) (u : Value) (Q : St → Hp → Prop), Inv X pins σ H s → RelV v u → t v σ H Q →
    wpAny (model X.prog X.w) X.A (assign target X.env u) (fun _ s' => ∃ σ' H', Inv X pins σ' H' s' ∧ Q σ' H') X.xe s
def PGs (X : Cx) (ts : List Expr) (t : TGs) : Prop :=
  ∀ (pins : List (Addr × Obj)) (s : Shared) (σ : St) (H : Hp) (vs : List V) (us : List Value) (Q : St → Hp → Prop), Inv X pins σ H s → Vals vs us → t vs σ H Q →
    wpAny (model X.prog X.w) X.A (assignInOrder ((assignEach ts X.env).map (·.2)) us) (fun _ s' => ∃ σ' H', Inv X pins σ' H' s' ∧ Q σ' H') X.xe s
abbrev TSet := V → V → V → Hp → (Hp → Prop) → Prop
def PSet (X : Cx) (t : TSet) : Prop :=
  ∀ (pins : List (Addr × Obj)) (s : Shared) (σ : St) (H : Hp) (o i v : V) (ov iv u : Value) (Q : Hp → Prop), Inv X pins σ H s → RelV o ov → RelV i iv → RelV v u → t o i v H Q →
    wpAny (model X.prog X.w) X.A (setItem ov iv u) (fun _ s' => ∃ H', Inv X pins σ H' s' ∧ Q H') X.xe s
section
variable {X : Cx} {pos : Pos}
def gName (i : Nat) : TG := fun v σ H Q => Q (σ.set i (some v)) H
theorem pg_name {i : Nat} {x : Str} (hN : X.N.Nodup) (hi : X.N[i]? = some x) (hx : Loc X.env.scope x) (hf : X.fn x = true ∨ X.env.scope.names.lookup x = some .local := by first | exact .inl rfl | exact .inr rfl | assumption) : PG X (.Name x pos) (gName i) := by
  intro pins s σ H v u Q I r h
  exact wpAny_assign_Name (store_ok I hN hi hx r (fun s' I' => ⟨_, H, I', h⟩) hf)
def gNil : TGs := fun vs σ H Q => vs = [] ∧ Q σ H
def gCons (t : TG) (u : TGs) : TGs := fun vs σ H Q => ∃ v r, vs = v :: r ∧ t v σ H fun σ' H' => u r σ' H' Q
theorem pgs_nil : PGs X [] gNil := by
  intro pins s σ H vs us Q I r h
  obtain ⟨e, h⟩ := h
  subst e
  cases r
  exact assignInOrder_nil ⟨σ, H, I, h⟩
theorem pgs_cons {e : Expr} {es : List Expr} {t : TG} {u : TGs} (h1 : PG X e t) (h2 : PGs X es u)
    (hs : (assignEach (e :: es) X.env).map (·.2) = assign e X.env :: (assignEach es X.env).map (·.2) := by rfl) : PGs X (e :: es) (gCons t u) := by
  intro pins s σ H vs us Q I r h
  obtain ⟨v, vr, e1, h⟩ := h
  subst e1
  cases r with
  | cons r rr =>
    rw [hs]
    refine assignInOrder_cons (thn (h1 pins s σ H _ _ _ I r h) fun _ s1 ⟨σ1, H1, I1, q1⟩ => ?_)
    exact h2 pins s1 σ1 H1 _ _ Q I1 rr q1
def gTup (K : PySem.W.Frag) (n : Nat) (t : TGs) : TG := fun v σ H Q => ∃ a xs, v = .ref a ∧ SqT K H a xs ∧ xs.length = n ∧ t xs σ H Q
theorem pg_tup {es : List Expr} {k : Nat} {t : TGs} {n : Nat} (hc : X.calm = true) (h : PGs X es t)
    (hn : (assignEach es X.env).length = n := by rfl) (hst : (assignEach es X.env).findIdx? (·.1) = none := by rfl) : PG X (.Tuple es k pos) (gTup X.K n t) := by
  intro pins s σ H v u Q I r hw
  obtain ⟨a, xs, e1, hq, hl, hw⟩ := hw
  subst e1
  cases r
  obtain ⟨its, rv, ht, hz⟩ := I.tuple hq
  refine assign_Tuple_tuple (I.ok.hd hc) ht (by simp [hn, ← hl, rv.length]) hst fun h' hx => ?_
  have I1 : Inv X pins σ H { s with heap := h' } := I.kept (t' := s.toks) fun b o e => hx b o (Nat.ne_of_lt (Heap.lt_size e)) e
  exact h pins _ σ H xs _ Q I1 (by simpa using rv) hw
def gSub (to ti : TE) (t : TSet) : TG := fun v σ H Q => to σ H fun o H1 => ti σ H1 fun i H2 => t o i v H2 fun H3 => Q σ H3
theorem pg_sub {o i : Expr} {to ti : TE} {t : TSet} (ho : PE X o to) (hi : PE X i ti) (hs : PSet X t)
    (ha : ∀ v, assign (.Subscript o i pos) X.env v = (do
      let ov ← holding [v] (eval o X.env)
      let iv ← holding [v, ov] (eval i X.env)
      standAt pos
      holding [v, ov, iv] (setItem ov iv v)
      release [v, ov, iv] []) := by intro _; rfl) : PG X (.Subscript o i pos) (gSub to ti t) := by
  intro pins s σ H v u Q I r h
  rw [ha]
  refine wpAny_bind (wpAny_holding (thn (ho pins s σ H _ I h) fun ov s1 ⟨x, H1, I1, r1, q1⟩ => ?_))
  refine wpAny_bind (wpAny_holding (thn (hi pins s1 σ H1 _ I1 q1) fun iv s2 ⟨y, H2, I2, r2, q2⟩ => ?_))
  refine wpAny_bind (wpAny_standAt (wpAny_bind (wpAny_holding (thn (hs pins s2 σ H2 x y v ov iv u _ I2 r1 r2 r q2) fun _ s3 ⟨H3, I3, q3⟩ => ?_))))
  exact wpAny_release ⟨σ, H3, I3, q3⟩
def tAsg (te : TE) (g : TG) : TS := fun D σ H => te σ H fun x H1 => g x σ H1 D.nx
theorem ps_asg {tg e : Expr} {te : TE} {g : TG} (he : PE X e te) (hg : PG X tg g) (hs : swapsWithSole [tg] e pos.line X.env = pure false := by rfl) (hw : swappedStores [tg] e X.env = pure none := by rfl)
    (h1 : (assignEach [tg] X.env).map (·.2) = [assign tg X.env] := by rfl) : PS X (.Assign [tg] e pos) (tAsg te g) := by
  intro pins s σ H D I h
  refine wpAny_Assign_stores (thn (he pins s σ H _ I h) fun v s1 ⟨x, H1, I1, r1, q1⟩ => ?_) hs hw
  rw [h1]
  exact thn (hg pins s1 σ H1 x v _ I1 r1 q1) fun _ s2 q => q
theorem ps_set {i : Nat} {x : Str} {e : Expr} {te : TE} {pos' : Pos} (hN : X.N.Nodup) (hi : X.N[i]? = some x) (hx : Loc X.env.scope x) (he : PE X e te) (hs : swapsWith e (some (.Name x pos')) pos.line X.env = pure false := by rfl) (hf : X.fn x = true ∨ X.env.scope.names.lookup x = some .local := by first | exact .inl rfl | exact .inr rfl | assumption) :
    PS X (.Assign [.Name x pos'] e pos) (tAsg te (gName i)) := by
  intro pins s σ H D I h
  refine wpAny_Assign_Name (thn (he pins s σ H _ I h) fun v s1 ⟨y, H1, I1, r1, q1⟩ => ?_) hs
  exact store_ok I1 hN hi hx r1 (fun s2 I2 => ⟨_, H1, I2, q1⟩) hf
end

/-! ### while -/
section
variable {X : Cx} {pos : Pos}
end

/-! ### what a loop or a comprehension walks -/
structure It where
  go : Nat → Hp → Prop
  yld : Nat → Hp → V → Hp → Prop
  stop : Nat → Hp → Prop
def FpOk (X : Cx) (pins : List (Addr × Obj)) (H : Hp) (b : Addr) : Prop :=
  H b = none ∧ b ≠ X.env.locals ∧ b ∉ X.fs ∧ (b ∈ X.ex ∨ X.s₀.heap.objs.size ≤ b) ∧ (∀ x c, X.env.cells.lookup x = some c → c ≠ b) ∧ ∀ p ∈ X.pn ++ pins, p.1 ≠ b
theorem Inv.fpOk {X : Cx} {pins : List (Addr × Obj)} {σ : St} {H H' : Hp} {s : Shared} {b : Addr} (I : Inv X pins σ H s) (hb : s.heap.objs.size ≤ b) (hn : H' b = none) : FpOk X pins H' b := by
  refine ⟨hn, Nat.ne_of_gt (Nat.lt_of_lt_of_le I.lt hb), I.nofs hb, .inr (Nat.le_trans I.sz hb), fun x c e z => ?_, fun p hp z => ?_⟩
  · obtain ⟨v, q⟩ := I.cell x c e
    exact absurd (Nat.lt_of_lt_of_le q.lt (by rw [z]; exact hb)) (Nat.lt_irrefl _)
  · exact absurd (Nat.lt_of_lt_of_le (Heap.lt_size (I.pin p hp).1) (by rw [z]; exact hb)) (Nat.lt_irrefl _)
structure Turn (P : Program) (w : World) (K : PySem.W.Frag) (tg : Expr) (J : It) (fp : List Addr) (it : Addr) (tn : Nat → Heap → Prop) : Prop where
  mem : it ∈ fp
  obj : ∀ i h, tn i h → ∀ b ∈ fp, ∃ o, h.get? b = some o ∧ ∀ v, o.data ≠ .cell v
  keep : ∀ i h h', tn i h → (∀ b ∈ fp, ∀ o, h.get? b = some o → h'.get? b = some o) → tn i h'
  item : ∀ (X : Cx), X.prog = P → X.w = w → X.K = K → X.calm = true → ∀ (i : Nat) (pins : List (Addr × Obj)) (s : Shared) (σ : St) (H : Hp) (E : Value → Shared → Prop), Inv X pins σ H s → (∀ b ∈ fp, FpOk X pins H b) → tn i s.heap → J.go i H →
    wpAny (model P w) X.A (pyNext (.ref it)) (fun r s1 => ∃ u, r = some u ∧
      wpAny (model P w) X.A (letOwnedTupleGo tg (.ref it) u) (fun _ s2 => ∃ x H', Inv X pins σ H' s2 ∧ RelV x u ∧ J.yld i H x H' ∧ tn (i + 1) s2.heap ∧ ∀ b ∈ fp, H' b = none) E s1) E s
  done : ∀ (X : Cx), X.prog = P → X.w = w → X.K = K → X.calm = true → ∀ (i : Nat) (pins : List (Addr × Obj)) (s : Shared) (σ : St) (H : Hp) (E : Value → Shared → Prop), Inv X pins σ H s → (∀ b ∈ fp, FpOk X pins H b) → tn i s.heap → J.stop i H →
    wpAny (model P w) X.A (pyNext (.ref it)) (fun r s1 => r = none ∧ Inv X pins σ H s1) E s
  self : ∀ (A : Around) (i : Nat) (s : Shared) (Q : Value → Shared → Prop) (E : Value → Shared → Prop), tn i s.heap → Q (.ref it) s → wpAny (model P w) A (pyIter (.ref it)) Q E s
abbrev TI := St → Hp → (It → Hp → Prop) → Prop
def PIE (X : Cx) (pins : List (Addr × Obj)) (σ : St) (tg : Expr) (R : It → Hp → Prop) (itv : Value) (s2 : Shared) : Prop :=
  ∃ (it : Addr) (fp : List Addr) (tn : Nat → Heap → Prop) (J : It) (H' : Hp), itv = .ref it ∧ Inv X pins σ H' s2 ∧ Turn X.prog X.w X.K tg J fp it tn ∧ tn 0 s2.heap ∧ (∀ b ∈ fp, FpOk X pins H' b) ∧ R J H'
def PI (X : Cx) (tg iter : Expr) (wi : TI) : Prop :=
  ∀ (pins : List (Addr × Obj)) (s : Shared) (σ : St) (H : Hp) (R : It → Hp → Prop), Inv X pins σ H s → wi σ H R →
    wpAny (model X.prog X.w) X.A (eval iter X.env) (fun v s1 => wpAny (model X.prog X.w) X.A (pyIter v) (PIE X pins σ tg R) X.xe s1) X.xe s

theorem go_of {M : Model} {A : Around} {E : Value → Shared → Prop} {s : Shared} {tg : Expr} {it : Addr} {u : Value} {o : Obj} {n : String} {vs : Array Value} {Q : Unit → Shared → Prop} (ho : s.heap.get? it = some o) (hc : o.cls = .type n) (hd : o.data = .fields vs)
    (hn : ["enumerate", "zip", "dict_itemiterator", "dict_reverseitemiterator", "odict_iterator", "itertools.zip_longest", "itertools.pairwise"].contains n = false) (hQ : Q () s) : wpAny M A (letOwnedTupleGo tg (.ref it) u) Q E s := by
  unfold letOwnedTupleGo
  cases tg <;> first
    | exact wpAny_pure hQ
    | (cases u <;> first
        | exact wpAny_pure hQ
        | (refine wpAny_bind (wpAny_load ho ?_)
           rw [hc, hd]
           show wpAny M A (if (["enumerate", "zip", "dict_itemiterator", "dict_reverseitemiterator", "odict_iterator", "itertools.zip_longest", "itertools.pairwise"].contains n && vs[0]? == some (rawInt _)) = true then _ else _) Q E s
           rw [if_neg (by intro h; rw [hn, Bool.false_and] at h; cases h)]
           exact wpAny_pure hQ))

def Itl (K : PySem.W.Frag) (a : Addr) : It :=
  ⟨fun i H => ∃ xs x, SqL K H a xs ∧ xs[i]? = some x, fun i H x H' => H' = H ∧ ∀ xs, SqL K H a xs → xs[i]? = some x, fun i H => ∃ xs, SqL K H a xs ∧ xs.length ≤ i⟩
def Itt (K : PySem.W.Frag) (a : Addr) : It :=
  ⟨fun i H => ∃ xs x, SqT K H a xs ∧ xs[i]? = some x, fun i H x H' => H' = H ∧ ∀ xs, SqT K H a xs → xs[i]? = some x, fun i H => ∃ xs, SqT K H a xs ∧ xs.length ≤ i⟩
def Itr (lo : Int) (n : Nat) : It := ⟨fun i _ => i < n, fun i H x H' => H' = H ∧ x = .int (lo + i), fun i _ => n ≤ i⟩
theorem turn_list {P : Program} {w : World} {K : PySem.W.Frag} {tg : Expr} (a it : Addr) : Turn P w K tg (Itl K a) [it] it (fun i h => h.IsListIter it a i) where
  mem := by simp
  obj := fun i h st b hb => by
    have e : b = it := by simpa using hb
    subst e
    obtain ⟨o, e, c, d⟩ := st
    exact ⟨o, e, fun v z => by rw [d] at z; cases z⟩
  keep := fun i h h' st k => st.at fun o e => k it (by simp) o e
  item := by
    intro X hP hw hK hc i pins s σ H E I hf st hg
    subst hP hw hK
    obtain ⟨xs, x, hq, hx⟩ := hg
    obtain ⟨its, rv, p, hz⟩ := I.list hq
    obtain ⟨u, hu, ru⟩ := rv.get hx
    obtain ⟨f0, f1, f2, f3, f4, f5⟩ := hf it (by simp)
    refine wpAny_pyNext_list_item st p.isList (x := u) (by simpa using hu) fun h' st' sb => ?_
    have I1 : Inv X pins σ H { s with heap := h' } := I.turned (t' := s.toks) (fun b o hb e => (sb.2 b hb).trans e) f0 f1 f3 f4 f5
    obtain ⟨o, e, c, d⟩ := id st'
    exact ⟨u, rfl, go_of (s := { s with heap := h' }) e c d (by decide) ⟨x, H, I1, ru, ⟨rfl, fun ys hy => by rw [I.list_inj hy hq]; exact hx⟩, st', fun b hb => (hf b hb).1⟩⟩
  done := by
    intro X hP hw hK hc i pins s σ H E I hf st hg
    subst hP hw hK
    obtain ⟨xs, hq, hx⟩ := hg
    obtain ⟨its, rv, p, hz⟩ := I.list hq
    obtain ⟨f0, f1, f2, f3, f4, f5⟩ := hf it (by simp)
    have hl := rv.length
    exact wpAny_pyNext_list_end (I.ok.hd hc) st p.isList (by simp; omega) fun h' eb => ⟨rfl, I.turned (t' := s.toks) (fun b o hb e => eb b o hb e) f0 f1 f3 f4 f5⟩
  self := fun _ _ _ _ _ st h => wpAny_pyIter_listiter st h
theorem turn_tuple {P : Program} {w : World} {K : PySem.W.Frag} {tg : Expr} (a it : Addr) : Turn P w K tg (Itt K a) [it] it (fun i h => h.IsTupleIter it a i) where
  mem := by simp
  obj := fun i h st b hb => by
    have e : b = it := by simpa using hb
    subst e
    obtain ⟨o, e, c, d⟩ := st
    exact ⟨o, e, fun v z => by rw [d] at z; cases z⟩
  keep := fun i h h' st k => st.at fun o e => k it (by simp) o e
  item := by
    intro X hP hw hK hc i pins s σ H E I hf st hg
    subst hP hw hK
    obtain ⟨xs, x, hq, hx⟩ := hg
    obtain ⟨its, rv, p, hz⟩ := I.tuple hq
    obtain ⟨u, hu, ru⟩ := rv.get hx
    obtain ⟨f0, f1, f2, f3, f4, f5⟩ := hf it (by simp)
    refine wpAny_pyNext_tuple_item st (show s.heap.IsTuple a its.toArray from p) (x := u) (by simpa using hu) fun h' st' sb => ?_
    have I1 : Inv X pins σ H { s with heap := h' } := I.turned (t' := s.toks) (fun b o hb e => (sb.2 b hb).trans e) f0 f1 f3 f4 f5
    obtain ⟨o, e, c, d⟩ := id st'
    exact ⟨u, rfl, go_of (s := { s with heap := h' }) e c d (by decide) ⟨x, H, I1, ru, ⟨rfl, fun ys hy => by rw [I.tuple_inj hy hq]; exact hx⟩, st', fun b hb => (hf b hb).1⟩⟩
  done := by
    intro X hP hw hK hc i pins s σ H E I hf st hg
    subst hP hw hK
    obtain ⟨xs, hq, hx⟩ := hg
    obtain ⟨its, rv, p, hz⟩ := I.tuple hq
    obtain ⟨f0, f1, f2, f3, f4, f5⟩ := hf it (by simp)
    have hl := rv.length
    exact wpAny_pyNext_tuple_end (I.ok.hd hc) st (show s.heap.IsTuple a its.toArray from p) (by simp; omega) fun h' eb => ⟨rfl, I.turned (t' := s.toks) (fun b o hb e => eb b o hb e) f0 f1 f3 f4 f5⟩
  self := fun _ _ _ _ _ st h => wpAny_pyIter_tupleiter st h
theorem turn_range {P : Program} {w : World} {K : PySem.W.Frag} {tg : Expr} (it : Addr) (lo : Int) (n : Nat) : Turn P w K tg (Itr lo n) [it] it (fun i h => IsRangeIter h it (lo + (i : Nat) * 1) ((n : Int) - (i : Nat)) 1) where
  mem := by simp
  obj := fun i h st b hb => by
    have e : b = it := by simpa using hb
    subst e
    exact ⟨_, st, fun v z => by
      have z' : Data.fields _ = Data.cell v := z
      cases z'⟩
  keep := fun i h h' st k => k it (by simp) _ st
  item := by
    intro X hP hw hK hc i pins s σ H E I hf st hg
    subst hP hw hK
    obtain ⟨f0, f1, f2, f3, f4, f5⟩ := hf it (by simp)
    have W := Walks.range (prog := X.prog) (w := X.w) (I.ok.hd hc) it lo 1 n
    refine W.item i s _ _ hg st fun v h' tk hv st' kk => ?_
    obtain ⟨t, rfl⟩ := hv
    have I1 : Inv X pins σ H { s with heap := h', toks := tk } := I.turned (fun b o hb e => kk b o (by simpa using hb) e) f0 f1 f3 f4 f5
    refine ⟨_, rfl, go_of (s := { s with heap := h', toks := tk }) (n := "range_iterator") st' rfl rfl (by decide) ⟨.int (lo + i), H, I1, ⟨t, ?_⟩, ⟨rfl, rfl⟩, st', fun b hb => (hf b hb).1⟩⟩
    rw [Int.mul_one]
  done := by
    intro X hP hw hK hc i pins s σ H E I hf st hg
    subst hP hw hK
    obtain ⟨f0, f1, f2, f3, f4, f5⟩ := hf it (by simp)
    exact wpAny_pyNext_range_end (I.ok.hd hc) st (by have : n ≤ i := hg; omega) fun h' eb => ⟨rfl, I.turned (t' := s.toks) (fun b o hb e => eb b o hb e) f0 f1 f3 f4 f5⟩
  self := fun _ _ _ _ _ st h => wpAny_pyIter_rangeiter st h
end L2

namespace L2
open PySem PySem.Spec PyProof.Rows
section
variable {X : Cx} {tg : Expr}
def iList (K : PySem.W.Frag) (tl : TE) : TI := fun σ H R => tl σ H fun x H1 => ∃ a, x = .ref a ∧ (∃ xs, SqL K H1 a xs) ∧ R (Itl K a) H1
def iTup (K : PySem.W.Frag) (tl : TE) : TI := fun σ H R => tl σ H fun x H1 => ∃ a, x = .ref a ∧ (∃ xs, SqT K H1 a xs) ∧ R (Itt K a) H1
theorem pi_list {l : Expr} {tl : TE} (hl : PE X l tl) : PI X tg l (iList X.K tl) := by
  intro pins s σ H R I h
  refine thn (hl pins s σ H _ I h) fun v s1 ⟨x, H1, I1, r1, q1⟩ => ?_
  obtain ⟨a, e, ⟨xs, hq⟩, q⟩ := q1
  subst e
  cases r1
  obtain ⟨its, rv, p, hz⟩ := I1.list hq
  refine wpAny_pyIter_list p.isList ?_
  refine ⟨s1.heap.objs.size, [s1.heap.objs.size], _, _, H1, rfl, I1.kept (t' := s1.toks) fun b o e => Heap.get?_push_of_some _ e, turn_list a _, ⟨_, Heap.get?_push_size _ rfl, rfl, rfl⟩, fun b hb => ?_, q⟩
  have e : b = s1.heap.objs.size := by simpa using hb
  subst e
  exact I1.fpOk (Nat.le_refl _) (I1.hok.fresh (Nat.le_refl _))
theorem pi_tup {l : Expr} {tl : TE} (hl : PE X l tl) : PI X tg l (iTup X.K tl) := by
  intro pins s σ H R I h
  refine thn (hl pins s σ H _ I h) fun v s1 ⟨x, H1, I1, r1, q1⟩ => ?_
  obtain ⟨a, e, ⟨xs, hq⟩, q⟩ := q1
  subst e
  cases r1
  obtain ⟨its, rv, p, hz⟩ := I1.tuple hq
  refine wpAny_pyIter_tuple (show s1.heap.IsTuple a its.toArray from p) ?_
  refine ⟨s1.heap.objs.size, [s1.heap.objs.size], _, _, H1, rfl, I1.kept (t' := s1.toks) fun b o e => Heap.get?_push_of_some _ e, turn_tuple a _, ⟨_, Heap.get?_push_size _ rfl, rfl, rfl⟩, fun b hb => ?_, q⟩
  have e : b = s1.heap.objs.size := by simpa using hb
  subst e
  exact I1.fpOk (Nat.le_refl _) (I1.hok.fresh (Nat.le_refl _))
theorem range_it {pins : List (Addr × Obj)} {σ : St} {H : Hp} {s : Shared} {R : It → Hp → Prop} {E : Value → Shared → Prop} {lo hi : Int} {t u v : Tok} {tk : Nat} (I : Inv X pins σ H s) (h1 : -(2 ^ 62) ≤ lo) (h2 : lo < 2 ^ 62) (h3 : -(2 ^ 62) ≤ hi) (h4 : hi < 2 ^ 62)
    (q : R (Itr lo (hi - lo).toNat) H) : wpAny (model X.prog X.w) X.A (pyIter (.ref s.heap.objs.size)) (PIE X pins σ tg R) E { s with heap := s.heap.push { cls := .type "range", data := .fields #[.int lo t, .int hi u, .int 1 v] }, toks := tk } := by
  refine wpAny_pyIter_range (IsRange.new ..) (small_one h1 h2 h3 h4) ?_
  have I1 : Inv X pins σ H { s with heap := s.heap.push { cls := .type "range", data := .fields #[.int lo t, .int hi u, .int 1 v] }, toks := tk } := I.kept fun b o e => Heap.get?_push_of_some _ e
  refine ⟨(s.heap.push { cls := .type "range", data := .fields #[.int lo t, .int hi u, .int 1 v] }).objs.size, [(s.heap.push { cls := .type "range", data := .fields #[.int lo t, .int hi u, .int 1 v] }).objs.size], _, _, H, rfl,
    I1.kept (t' := tk) fun b o e => Heap.get?_push_of_some _ e, turn_range _ lo (hi - lo).toNat, ?_, fun b hb => ?_, q⟩
  · have e1 : lo + ((0 : Nat) : Int) * 1 = lo := by simp
    have e2 : (((hi - lo).toNat : Nat) : Int) - ((0 : Nat) : Int) = Builtin.Range.rangeSize lo hi 1 := by rw [rangeSize_one]; split <;> omega
    show IsRangeIter _ _ (lo + ((0 : Nat) : Int) * 1) ((((hi - lo).toNat : Nat) : Int) - ((0 : Nat) : Int)) 1
    rw [e1, e2]
    exact Heap.get?_push_size _ rfl
  · have e : b = (s.heap.push { cls := .type "range", data := .fields #[.int lo t, .int hi u, .int 1 v] }).objs.size := by simpa using hb
    subst e
    exact I1.fpOk (Nat.le_refl _) (I1.hok.fresh (Nat.le_refl _))
def iRng1 (ta : TA) : TI := fun σ H R => ta σ H fun vs H1 => ∃ j : Int, vs = [.int j] ∧ -(2 ^ 62) ≤ j ∧ j < 2 ^ 62 ∧ R (Itr 0 j.toNat) H1
theorem pi_range1 {a : Expr} {ta : TA} {p pos : Pos} (hg : Gl X "range") (hm : X.mg "range" = none) (ha : PA X [a] ta) (hs : starEach [a] X.env = [(false, eval a X.env)] := by rfl) : PI X tg (.Call (.Name "range" p) [a] [] pos) (iRng1 ta) := by
  intro pins s σ H R I h
  refine Call_ (ld_blt I hg hm boot_range (PyProof.Rows.callWith_type1 (thn (ha pos pins s σ H _ I h) fun us s1 ⟨vs, H1, I1, r1, q1⟩ => ?_) hs rfl))
  obtain ⟨j, e, q1, q2, q⟩ := q1
  subst e
  cases r1 with
  | cons r rr =>
    cases rr
    obtain ⟨t, rfl⟩ := r
    exact call_range_1 (range_it I1 (by omega) (by omega) q1 q2 (by simpa using q))
/-! ### for -/
def tFor (wi : TI) (g : TG) (tb : TS) : TS := fun D σ H => wi σ H fun J H1 => ∃ W : Nat → Nat → St → Hp → Prop, (∃ m, W 0 m σ H1) ∧ ∀ i m σ H, W i m σ H →
  (J.stop i H ∧ D.nx σ H) ∨ (J.go i H ∧ ∃ N : St → Hp → Prop, (∀ σ' H', N σ' H' → ∃ m', m' < m ∧ W (i + 1) m' σ' H') ∧ ∀ x H', J.yld i H x H' → g x σ H' fun σ2 H2 => tb { D with nx := N, ct := N, bk := D.nx } σ2 H2)
def pinsAt (fp : List Addr) (h : Heap) : List (Addr × Obj) := fp.filterMap fun b => (h.get? b).map fun o => (b, o)
theorem mem_pinsAt {fp : List Addr} {h : Heap} {b : Addr} {o : Obj} (hb : b ∈ fp) (e : h.get? b = some o) : (b, o) ∈ pinsAt fp h := List.mem_filterMap.mpr ⟨b, hb, by rw [e]; rfl⟩
theorem of_pinsAt {fp : List Addr} {h : Heap} {p : Addr × Obj} (hp : p ∈ pinsAt fp h) : p.1 ∈ fp ∧ h.get? p.1 = some p.2 := by
  obtain ⟨b, hb, e⟩ := List.mem_filterMap.mp hp
  cases q : h.get? b with
  | none => rw [q] at e; cases e
  | some o =>
    rw [q] at e
    have e' : (b, o) = p := Option.some.inj e
    subst e'
    exact ⟨hb, q⟩
theorem Inv.pinned {pins : List (Addr × Obj)} {σ : St} {H : Hp} {s : Shared} {fp : List Addr} (I : Inv X pins σ H s) (hf : ∀ b ∈ fp, FpOk X pins H b) (ho : ∀ b ∈ fp, ∃ o, s.heap.get? b = some o ∧ ∀ v, o.data ≠ .cell v) : Inv X (pins ++ pinsAt fp s.heap) σ H s :=
  I.pins_of fun p hp => (List.mem_append.mp hp).elim (fun z => I.pin p (List.mem_append_right _ z)) fun z => by
    obtain ⟨hb, e⟩ := of_pinsAt z
    obtain ⟨f0, f1, f2, _⟩ := hf p.1 hb
    obtain ⟨o, e', d⟩ := ho p.1 hb
    rw [e] at e'; cases e'
    exact ⟨e, f0, f1, f2, d⟩
theorem Inv.unpinned {pins pl : List (Addr × Obj)} {σ : St} {H : Hp} {s : Shared} (I : Inv X (pins ++ pl) σ H s) : Inv X pins σ H s := I.pins_of fun p hp => I.pin p (List.mem_append_right _ (List.mem_append_left _ hp))
theorem ps_for {iter : Expr} {body : List Stmt} {wi : TI} {g : TG} {tb : TS} {pos : Pos} (hp : PassesOwn (model X.prog X.w) X.A X.env X.xe) (hc : X.calm = true) (hi : PI X tg iter wi) (hg : PG X tg g) (hb : PSs X body tb)
    (hs : ∀ x, foldedSetIterable iter X.env x = pure x := by intro _; rfl) : PS X (.For tg iter body [] pos) (tFor wi g tb) := by
  intro pins s σ H D I h
  refine wpAny_For (thn (hi pins s σ H _ I h) fun v s1 h1 => thn h1 fun itv s2 h2 => ?_) hs
  obtain ⟨it, fp, tn, J, H2, e, I2, T, st2, f2, W, ⟨m0, w0⟩, turn⟩ := h2
  subst e
  -- what stays true of the iterator's objects through the loop
  have stat : ∀ {H' : Hp}, (∀ b ∈ fp, H' b = none) → ∀ b ∈ fp, FpOk X pins H' b := fun hn b hb => ⟨hn b hb, (f2 b hb).2⟩
  refine codeAny_forLoop_any (fun n s' => ∃ i σ' H', Inv X pins σ' H' s' ∧ tn i s'.heap ∧ (∀ b ∈ fp, H' b = none) ∧ W i n σ' H') ?_ m0 ⟨0, σ, H2, I2, st2, fun b hb => (f2 b hb).1, w0⟩
  rintro n s3 ⟨i, σ3, H3, I3, st3, fr3, w3⟩
  rcases turn i n σ3 H3 w3 with ⟨stop, qn⟩ | ⟨go, N, hN, step⟩
  · refine wpAny_passesOwn hp (thn (T.done X rfl rfl rfl hc i pins s3 σ3 H3 X.xe I3 (stat fr3) st3 stop) fun r s4 ⟨hr, I4⟩ => ?_)
    subst hr
    exact wpAny_execs_nil ⟨σ3, H3, I4, qn⟩
  · refine wpAny_passesOwn hp (thn (T.item X rfl rfl rfl hc i pins s3 σ3 H3 X.xe I3 (stat fr3) st3 go) fun r s4 ⟨u, hr, h4⟩ => ?_)
    subst hr
    refine wpAny_passesOwn hp (thn h4 fun _ s5 ⟨x, H5, I5, r5, y5, st5, fr5⟩ => ?_)
    have I5' := I5.pinned (stat fr5) (T.obj _ _ st5)
    refine wpAny_passesOwn hp (thn (hg _ s5 σ3 H5 x u _ I5' r5 (step x H5 y5)) fun _ s6 ⟨σ6, H6, I6, q6⟩ => ?_)
    refine wpAny_passesOwn hp (thn (hb _ s6 σ6 H6 _ I6 q6) fun f s7 q7 => ?_)
    have again : ∀ {σ7 : St} {H7 : Hp}, Inv X (pins ++ pinsAt fp s5.heap) σ7 H7 s7 → N σ7 H7 → ∃ m, m < n ∧ ∃ i σ' H', Inv X pins σ' H' s7 ∧ tn i s7.heap ∧ (∀ b ∈ fp, H' b = none) ∧ W i m σ' H' := fun {σ7 H7} I7 n7 => by
      obtain ⟨m', hm, w7⟩ := hN σ7 H7 n7
      refine ⟨m', hm, i + 1, σ7, H7, I7.unpinned, T.keep _ _ _ st5 fun b hb o e => (I7.pin (b, o) (List.mem_append_right _ (List.mem_append_right _ (mem_pinsAt hb e)))).1, fun b hb => ?_, w7⟩
      obtain ⟨o, e, d⟩ := T.obj _ _ st5 b hb
      exact (I7.pin (b, o) (List.mem_append_right _ (List.mem_append_right _ (mem_pinsAt hb e)))).2.1
    cases f with
    | next => obtain ⟨σ7, H7, I7, n7⟩ := q7; exact again I7 n7
    | cont => obtain ⟨σ7, H7, I7, n7⟩ := q7; exact again I7 n7
    | brk => obtain ⟨σ7, H7, I7, q7⟩ := q7; exact ⟨σ7, H7, I7.unpinned, q7⟩
    | ret v => obtain ⟨x7, σ7, H7, I7, r7, q7⟩ := q7; exact ⟨x7, σ7, H7, I7.unpinned, r7, q7⟩
end

/-! ### the forms one uses -/
theorem for_list {K : PySem.W.Frag} {a : Addr} {xs : List V} {g : TG} {tb : TS} {D : Ends} {σ : St} {H : Hp} (Pv : Nat → St → Hp → Prop) (h0 : Pv 0 σ H) (hl : ∀ i σ H, i ≤ xs.length → Pv i σ H → SqL K H a xs)
    (hs : ∀ i x σ H, xs[i]? = some x → Pv i σ H → g x σ H fun σ2 H2 => tb { D with nx := Pv (i + 1), ct := Pv (i + 1), bk := D.nx } σ2 H2) (hd : ∀ σ H, Pv xs.length σ H → D.nx σ H) :
    ∃ W : Nat → Nat → St → Hp → Prop, (∃ m, W 0 m σ H) ∧ ∀ i m σ H, W i m σ H →
      ((Itl K a).stop i H ∧ D.nx σ H) ∨ ((Itl K a).go i H ∧ ∃ N : St → Hp → Prop, (∀ σ' H', N σ' H' → ∃ m', m' < m ∧ W (i + 1) m' σ' H') ∧ ∀ x H', (Itl K a).yld i H x H' → g x σ H' fun σ2 H2 => tb { D with nx := N, ct := N, bk := D.nx } σ2 H2) := by
  refine ⟨fun i m σ H => m = xs.length - i ∧ i ≤ xs.length ∧ Pv i σ H, ⟨xs.length, by simp, Nat.zero_le _, h0⟩, ?_⟩
  rintro i m σ H ⟨rfl, hi, p⟩
  have q := hl i σ H hi p
  by_cases hlt : i < xs.length
  · refine .inr ⟨⟨xs, xs[i], q, by simp [hlt]⟩, Pv (i + 1), fun σ' H' p' => ⟨xs.length - (i + 1), by omega, rfl, hlt, p'⟩, fun x H' y => ?_⟩
    obtain ⟨e, y⟩ := y
    subst e
    exact hs i x σ _ (y xs q) p
  · have e : i = xs.length := by omega
    subst e
    exact .inl ⟨⟨xs, q, Nat.le_refl _⟩, hd σ H p⟩
theorem for_tup {K : PySem.W.Frag} {a : Addr} {xs : List V} {g : TG} {tb : TS} {D : Ends} {σ : St} {H : Hp} (Pv : Nat → St → Hp → Prop) (h0 : Pv 0 σ H) (hl : ∀ i σ H, i ≤ xs.length → Pv i σ H → SqT K H a xs)
    (hs : ∀ i x σ H, xs[i]? = some x → Pv i σ H → g x σ H fun σ2 H2 => tb { D with nx := Pv (i + 1), ct := Pv (i + 1), bk := D.nx } σ2 H2) (hd : ∀ σ H, Pv xs.length σ H → D.nx σ H) :
    ∃ W : Nat → Nat → St → Hp → Prop, (∃ m, W 0 m σ H) ∧ ∀ i m σ H, W i m σ H →
      ((Itt K a).stop i H ∧ D.nx σ H) ∨ ((Itt K a).go i H ∧ ∃ N : St → Hp → Prop, (∀ σ' H', N σ' H' → ∃ m', m' < m ∧ W (i + 1) m' σ' H') ∧ ∀ x H', (Itt K a).yld i H x H' → g x σ H' fun σ2 H2 => tb { D with nx := N, ct := N, bk := D.nx } σ2 H2) := by
  refine ⟨fun i m σ H => m = xs.length - i ∧ i ≤ xs.length ∧ Pv i σ H, ⟨xs.length, by simp, Nat.zero_le _, h0⟩, ?_⟩
  rintro i m σ H ⟨rfl, hi, p⟩
  have q := hl i σ H hi p
  by_cases hlt : i < xs.length
  · refine .inr ⟨⟨xs, xs[i], q, by simp [hlt]⟩, Pv (i + 1), fun σ' H' p' => ⟨xs.length - (i + 1), by omega, rfl, hlt, p'⟩, fun x H' y => ?_⟩
    obtain ⟨e, y⟩ := y
    subst e
    exact hs i x σ _ (y xs q) p
  · have e : i = xs.length := by omega
    subst e
    exact .inl ⟨⟨xs, q, Nat.le_refl _⟩, hd σ H p⟩
theorem for_range {lo : Int} {n : Nat} {g : TG} {tb : TS} {D : Ends} {σ : St} {H : Hp} (Pv : Nat → St → Hp → Prop) (h0 : Pv 0 σ H)
    (hs : ∀ i σ H, i < n → Pv i σ H → g (.int (lo + i)) σ H fun σ2 H2 => tb { D with nx := Pv (i + 1), ct := Pv (i + 1), bk := D.nx } σ2 H2) (hd : ∀ σ H, Pv n σ H → D.nx σ H) :
    ∃ W : Nat → Nat → St → Hp → Prop, (∃ m, W 0 m σ H) ∧ ∀ i m σ H, W i m σ H →
      ((Itr lo n).stop i H ∧ D.nx σ H) ∨ ((Itr lo n).go i H ∧ ∃ N : St → Hp → Prop, (∀ σ' H', N σ' H' → ∃ m', m' < m ∧ W (i + 1) m' σ' H') ∧ ∀ x H', (Itr lo n).yld i H x H' → g x σ H' fun σ2 H2 => tb { D with nx := N, ct := N, bk := D.nx } σ2 H2) := by
  refine ⟨fun i m σ H => m = n - i ∧ i ≤ n ∧ Pv i σ H, ⟨n, by simp, Nat.zero_le _, h0⟩, ?_⟩
  rintro i m σ H ⟨rfl, hi, p⟩
  by_cases hlt : i < n
  · refine .inr ⟨hlt, Pv (i + 1), fun σ' H' p' => ⟨n - (i + 1), by omega, rfl, hlt, p'⟩, fun x H' y => ?_⟩
    obtain ⟨e, y⟩ := y
    subst e y
    exact hs i σ _ hlt p
  · have e : i = n := by omega
    subst e
    exact .inl ⟨Nat.le_refl _, hd σ H p⟩
end L2

namespace L2
open PySem PySem.Spec PyProof.Rows

abbrev R2 := V → V → Hp → VK → Prop
def OpR (X : Cx) (f : Value → Value → Sem Value) (r : R2) : Prop :=
  ∀ (pins : List (Addr × Obj)) (s : Shared) (σ : St) (H : Hp) (x y : V) (v u : Value) (Q : VK), Inv X pins σ H s → RelV x v → RelV y u → r x y H Q →
    wpAny (model X.prog X.w) X.A (f v u) (EP X pins σ Q) X.xe s
def UnR (X : Cx) (f : Value → Sem Value) (r : V → Hp → VK → Prop) : Prop :=
  ∀ (pins : List (Addr × Obj)) (s : Shared) (σ : St) (H : Hp) (x : V) (v : Value) (Q : VK), Inv X pins σ H s → RelV x v → r x H Q →
    wpAny (model X.prog X.w) X.A (f v) (EP X pins σ Q) X.xe s
def CallR (X : Cx) (f : Value) (r : List V → Hp → VK → Prop) : Prop :=
  ∀ (pins : List (Addr × Obj)) (s : Shared) (σ : St) (H : Hp) (xs : List V) (us : List Value) (Q : VK), Inv X pins σ H s → Vals xs us → r xs H Q →
    wpAny (model X.prog X.w) X.A (call f us) (EP X pins σ Q) X.xe s
def TruR (X : Cx) (r : V → Hp → (Bool → Hp → Prop) → Prop) : Prop :=
  ∀ (pins : List (Addr × Obj)) (s : Shared) (σ : St) (H : Hp) (x : V) (v : Value) (Q : Bool → Hp → Prop), Inv X pins σ H s → RelV x v → r x H Q →
    wpAny (model X.prog X.w) X.A (truthy v) (TP X pins σ Q) X.xe s

def tOp (r : R2) (ta tb : TE) : TE := fun σ H Q => ta σ H fun x H1 => tb σ H1 fun y H2 => r x y H2 Q
def tUn (r : V → Hp → VK → Prop) (ta : TE) : TE := fun σ H Q => ta σ H fun x H1 => r x H1 Q
def rI (C : Int → Int → Prop) (g : Int → Int → V) : R2 := fun x y H Q => ∃ i j, x = .int i ∧ y = .int j ∧ C i j ∧ Q (g i j) H
def rI0 (g : Int → Int → V) : R2 := fun x y H Q => ∃ i j, x = .int i ∧ y = .int j ∧ Q (g i j) H
def rU (g : Int → V) : V → Hp → VK → Prop := fun x H Q => ∃ i, x = .int i ∧ Q (g i) H

section
variable {X : Cx} {a b c : Expr} {ta tb tc : TE} {pos : Pos}

theorem binT (ha : PE X a ta) (hb : PE X b tb) {pins : List (Addr × Obj)} {s : Shared} {σ : St} {H : Hp} {R : V → V → Hp → Prop} (I : Inv X pins σ H s)
    (h : ta σ H fun x H1 => tb σ H1 fun y H2 => R x y H2) {Q : Value → Shared → Prop} {f : Value → Value → Sem Value}
    (hf : ∀ v u s2 x y H2, Inv X pins σ H2 s2 → RelV x v → RelV y u → R x y H2 → wpAny (model X.prog X.w) X.A (f v u) Q X.xe s2) :
    wpAny (model X.prog X.w) X.A (eval a X.env) (fun v s₁ => wpAny (model X.prog X.w) X.A (eval b X.env) (fun u s₂ => wpAny (model X.prog X.w) X.A (f v u) Q X.xe s₂) X.xe s₁) X.xe s := by
  refine thn (ha pins s σ H _ I h) fun v s1 ⟨x, H1, I1, r1, q1⟩ => ?_
  refine thn (hb pins s1 σ H1 _ I1 q1) fun u s2 ⟨y, H2, I2, r2, q2⟩ => ?_
  exact hf v u s2 x y H2 I2 r1 r2 q2

theorem pe_op {op : Operator} {r : R2} (ho : OpR X (binaryOp op) r) (ha : PE X a ta) (hb : PE X b tb) : PE X (.BinOp a op b pos) (tOp r ta tb) := by
  intro pins s σ H Q I h
  exact wpAny_BinOp (binT ha hb I h fun v u s2 x y H2 I2 rx ry q => ho pins s2 σ H2 x y v u Q I2 rx ry q)
theorem pe_un {op : UnaryOp} {r : V → Hp → VK → Prop} (ho : UnR X (unaryOp op) r) (ha : PE X a ta) : PE X (.UnaryOp op a pos) (tUn r ta) := by
  intro pins s σ H Q I h
  exact UnaryOp_ (thn (ha pins s σ H _ I h) fun v s1 ⟨x, H1, I1, r1, q1⟩ => ho pins s1 σ H1 x v Q I1 r1 q1)
/-! ### ints -/
theorem opI {f : Value → Value → Sem Value} {C : Int → Int → Prop} {g : Int → Int → Int}
    (rule : ∀ (i j : Int) (t u : Tok) (s : Shared) (Q : Value → Shared → Prop) (E : Value → Shared → Prop), C i j → Q (.int (g i j) s.toks) { s with toks := s.toks + 1 } → wpAny (model X.prog X.w) X.A (f (.int i t) (.int j u)) Q E s) :
    OpR X f (rI C fun i j => .int (g i j)) := by
  intro pins s σ H x y v u Q I rx ry h
  obtain ⟨i, j, rfl, rfl, hc, q⟩ := h
  obtain ⟨t, rfl⟩ := rx
  obtain ⟨t', rfl⟩ := ry
  exact rule i j t t' s _ _ hc ⟨.int (g i j), H, I.tok _, ⟨_, rfl⟩, q⟩
theorem opI0 {f : Value → Value → Sem Value} {g : Int → Int → Int}
    (rule : ∀ (i j : Int) (t u : Tok) (s : Shared) (Q : Value → Shared → Prop) (E : Value → Shared → Prop), Q (.int (g i j) s.toks) { s with toks := s.toks + 1 } → wpAny (model X.prog X.w) X.A (f (.int i t) (.int j u)) Q E s) :
    OpR X f (rI0 fun i j => .int (g i j)) := by
  intro pins s σ H x y v u Q I rx ry h
  obtain ⟨i, j, rfl, rfl, q⟩ := h
  obtain ⟨t, rfl⟩ := rx
  obtain ⟨t', rfl⟩ := ry
  exact rule i j t t' s _ _ ⟨.int (g i j), H, I.tok _, ⟨_, rfl⟩, q⟩
theorem opB0 {f : Value → Value → Sem Value} {g : Int → Int → Bool}
    (rule : ∀ (i j : Int) (t u : Tok) (s : Shared) (Q : Value → Shared → Prop) (E : Value → Shared → Prop), Q (.bool (g i j)) s → wpAny (model X.prog X.w) X.A (f (.int i t) (.int j u)) Q E s) :
    OpR X f (rI0 fun i j => .bl (g i j)) := by
  intro pins s σ H x y v u Q I rx ry h
  obtain ⟨i, j, rfl, rfl, q⟩ := h
  obtain ⟨t, rfl⟩ := rx
  obtain ⟨t', rfl⟩ := ry
  exact rule i j t t' s _ _ ⟨.bl (g i j), H, I, rfl, q⟩

def CDiv (i j : Int) : Prop := 0 < j ∧ j < 1073741824
def CPow (i j : Int) : Prop := 0 ≤ j ∧ j ≤ 1000000 ∧ i.natAbs < 2 ^ 64
def CMul (i j : Int) : Prop := (-(2 ^ 64) < i ∧ i < 2 ^ 64) ∨ (-(2 ^ 64) < j ∧ j < 2 ^ 64)
theorem CMul.ok {i j : Int} (h : CMul i j) : IntMulOk i j := by
  rcases h with ⟨h1, h2⟩ | ⟨h1, h2⟩
  · exact .of_left (intBits_le_64 h1 h2)
  · exact .of_right (intBits_le_64 h1 h2)
theorem two_pow_nn (k : Nat) : (0 : Int) ≤ 2 ^ k := by
  rw [two_pow_cast]
  exact Int.natCast_nonneg _

theorem op_add : OpR X (binaryOp .Add) (rI0 fun i j => .int (i + j)) := opI0 fun _ _ _ _ _ _ _ q => add_int q
theorem op_sub : OpR X (binaryOp .Sub) (rI0 fun i j => .int (i - j)) := opI0 fun _ _ _ _ _ _ _ q => sub_int q
theorem op_mul : OpR X (binaryOp .Mult) (rI CMul fun i j => .int (i * j)) := opI fun _ _ _ _ _ _ _ hc q => mul_int q hc.ok
theorem op_fdiv : OpR X (binaryOp .FloorDiv) (rI CDiv fun i j => .int (i / j)) := opI fun i j _ _ _ _ _ hc q => by
  have h1 : (0 : Int) < j := hc.1
  have h2 : j < 1073741824 := hc.2
  exact floordiv_int (by omega) (by rw [Int.fdiv_eq_ediv_of_nonneg i (by omega)]; exact q) (.inl (PyProof.noPylong_small (by omega)))
theorem op_mod : OpR X (binaryOp .Mod) (rI (fun _ j => 0 < j) fun i j => .int (i % j)) := opI fun i j _ _ _ _ _ hc q => by
  have h1 : (0 : Int) < j := hc
  exact mod_int' (by omega) (by rw [Int.fmod_eq_emod_of_nonneg i (by omega)]; exact q)
theorem op_pow : OpR X (binaryOp .Pow) (rI CPow fun i j => .int (i ^ j.toNat)) := opI fun _ _ _ _ _ _ _ hc q => pow_int_small hc.1 hc.2.1 hc.2.2 q
theorem op_shr : OpR X (binaryOp .RShift) (rI (fun _ j => 0 ≤ j) fun i j => .int (i / 2 ^ j.toNat)) := opI fun i j _ _ _ _ _ hc q =>
  rshift_int hc (by rw [Int.fdiv_eq_ediv_of_nonneg i (two_pow_nn _)]; exact q)
theorem unI {f : Value → Sem Value} {g : Int → Int}
    (rule : ∀ (i : Int) (t : Tok) (s : Shared) (Q : Value → Shared → Prop) (E : Value → Shared → Prop), Q (.int (g i) s.toks) { s with toks := s.toks + 1 } → wpAny (model X.prog X.w) X.A (f (.int i t)) Q E s) :
    UnR X f (rU fun i => .int (g i)) := by
  intro pins s σ H x v Q I rx h
  obtain ⟨i, rfl, q⟩ := h
  obtain ⟨t, rfl⟩ := rx
  exact rule i t s _ _ ⟨.int (g i), H, I.tok _, ⟨_, rfl⟩, q⟩
theorem un_neg : UnR X (unaryOp .USub) (rU fun i => .int (-i)) := unI fun _ _ _ _ _ q => neg_int q
/-! ### bools among ints: n += (a < b) -/
end

/-! ### comparisons -/
def scal : V → V → Bool
  | .non, .non => true | .non, .int _ => true | .int _, .non => true | .non, .bl _ => true | .bl _, .non => true | .non, .str _ => true | .str _, .non => true
  | .int _, .int _ => true | .bl _, .bl _ => true | .str _, .str _ => true | .byt _, .byt _ => true
  | .int _, .str _ => true | .str _, .int _ => true | .bl _, .str _ => true | .str _, .bl _ => true
  | _, _ => false
def rEq : R2 := fun x y H Q => scal x y = true ∧ Q (.bl (decide (x = y))) H
def rNe : R2 := fun x y H Q => scal x y = true ∧ Q (.bl (!decide (x = y))) H

theorem dec_int {i j : Int} : decide (V.int i = V.int j) = (i == j) := by
  rw [Bool.eq_iff_iff]
  simp
theorem dec_bl {i j : Bool} : decide (V.bl i = V.bl j) = (i == j) := by
  rw [Bool.eq_iff_iff]
  simp
theorem dec_str {i j : Str} : decide (V.str i = V.str j) = (i == j) := by
  rw [Bool.eq_iff_iff]
  simp
theorem dec_byt {i j : Array UInt8} : decide (V.byt i = V.byt j) = (i.toList == j.toList) := by
  rw [Bool.eq_iff_iff]
  cases i
  cases j
  simp

section
variable {X : Cx} {a b c : Expr} {ta tb tc : TE} {pos : Pos}
theorem fin_bl {pins : List (Addr × Obj)} {σ : St} {H : Hp} {s : Shared} {Q : VK} {k k' : Bool} (I : Inv X pins σ H s) (q : Q (.bl k) H) (e : k = k') : EP X pins σ Q (.bool k') s := by
  subst e
  exact ⟨.bl k, H, I, rfl, q⟩
theorem op_eq : OpR X (compareOp .Eq) rEq := by
  intro pins s σ H x y v u Q I rx ry h
  obtain ⟨hs, q⟩ := h
  cases x with
  | non =>
    cases rx
    cases y with
    | non => cases ry; exact PySem.EqNone.eq_none_none (fin_bl I q (by simp))
    | bl j => cases ry; exact PySem.EqNone.eq_none_bool (fin_bl I q (by simp))
    | int j => obtain ⟨t', rfl⟩ := ry; exact PySem.EqNone.eq_none_int (fin_bl I q (by simp))
    | str j => obtain ⟨t', rfl⟩ := ry; exact PySem.EqNone.eq_none_str (fin_bl I q (by simp))
    | _ => exact absurd (show false = true from hs) Bool.false_ne_true
  | bl i =>
    cases rx
    cases y with
    | non => cases ry; exact PySem.EqNone.eq_bool_none (fin_bl I q (by simp))
    | bl j => cases ry; exact eq_bool (fin_bl I q dec_bl)
    | str j => obtain ⟨t', rfl⟩ := ry; exact PySem.EqMixed.eq_bool_str (fin_bl I q (by simp))
    | _ => exact absurd (show false = true from hs) Bool.false_ne_true
  | int i =>
    obtain ⟨t, rfl⟩ := rx
    cases y with
    | non => cases ry; exact PySem.EqNone.eq_int_none (fin_bl I q (by simp))
    | int j => obtain ⟨t', rfl⟩ := ry; exact eq_int (fin_bl I q dec_int)
    | str j => obtain ⟨t', rfl⟩ := ry; exact PySem.EqMixed.eq_int_str (fin_bl I q (by simp))
    | _ => exact absurd (show false = true from hs) Bool.false_ne_true
  | str i =>
    obtain ⟨t, rfl⟩ := rx
    cases y with
    | non => cases ry; exact PySem.EqNone.eq_str_none (fin_bl I q (by simp))
    | bl j => cases ry; exact PySem.EqMixed.eq_str_bool (fin_bl I q (by simp))
    | int j => obtain ⟨t', rfl⟩ := ry; exact PySem.EqMixed.eq_str_int (fin_bl I q (by simp))
    | str j => obtain ⟨t', rfl⟩ := ry; exact eq_str (fin_bl I q dec_str)
    | _ => exact absurd (show false = true from hs) Bool.false_ne_true
  | byt i =>
    obtain ⟨t, rfl⟩ := rx
    cases y with
    | byt j => obtain ⟨t', rfl⟩ := ry; exact PySem.W.eq_bytes (fin_bl I q dec_byt)
    | _ => exact absurd (show false = true from hs) Bool.false_ne_true
  | _ => cases y <;> exact absurd (show false = true from hs) Bool.false_ne_true
theorem op_ne : OpR X (compareOp .NotEq) rNe := by
  intro pins s σ H x y v u Q I rx ry h
  obtain ⟨hs, q⟩ := h
  cases x with
  | non =>
    cases rx
    cases y with
    | non => cases ry; exact PySem.EqNone.ne_none_none (fin_bl I q (by simp))
    | bl j => cases ry; exact PySem.EqNone.ne_none_bool (fin_bl I q (by simp))
    | int j => obtain ⟨t', rfl⟩ := ry; exact PySem.EqNone.ne_none_int (fin_bl I q (by simp))
    | str j => obtain ⟨t', rfl⟩ := ry; exact PySem.EqNone.ne_none_str (fin_bl I q (by simp))
    | _ => exact absurd (show false = true from hs) Bool.false_ne_true
  | bl i =>
    cases rx
    cases y with
    | non => cases ry; exact PySem.EqNone.ne_bool_none (fin_bl I q (by simp))
    | bl j => cases ry; exact ne_bool (fin_bl I q (congrArg not dec_bl))
    | str j => obtain ⟨t', rfl⟩ := ry; exact PySem.EqMixed.ne_bool_str (fin_bl I q (by simp))
    | _ => exact absurd (show false = true from hs) Bool.false_ne_true
  | int i =>
    obtain ⟨t, rfl⟩ := rx
    cases y with
    | non => cases ry; exact PySem.EqNone.ne_int_none (fin_bl I q (by simp))
    | int j => obtain ⟨t', rfl⟩ := ry; exact ne_int (fin_bl I q (congrArg not dec_int))
    | str j => obtain ⟨t', rfl⟩ := ry; exact PySem.EqMixed.ne_int_str (fin_bl I q (by simp))
    | _ => exact absurd (show false = true from hs) Bool.false_ne_true
  | str i =>
    obtain ⟨t, rfl⟩ := rx
    cases y with
    | non => cases ry; exact PySem.EqNone.ne_str_none (fin_bl I q (by simp))
    | bl j => cases ry; exact PySem.EqMixed.ne_str_bool (fin_bl I q (by simp))
    | int j => obtain ⟨t', rfl⟩ := ry; exact PySem.EqMixed.ne_str_int (fin_bl I q (by simp))
    | str j => obtain ⟨t', rfl⟩ := ry; exact ne_str (fin_bl I q (congrArg not dec_str))
    | _ => exact absurd (show false = true from hs) Bool.false_ne_true
  | byt i =>
    obtain ⟨t, rfl⟩ := rx
    cases y with
    | byt j => obtain ⟨t', rfl⟩ := ry; exact PySem.W.ne_bytes (fin_bl I q (congrArg not dec_byt))
    | _ => exact absurd (show false = true from hs) Bool.false_ne_true
  | _ => cases y <;> exact absurd (show false = true from hs) Bool.false_ne_true

theorem op_lt : OpR X (compareOp .Lt) (rI0 fun i j => .bl (decide (i < j))) := opB0 fun _ _ _ _ _ _ _ q => lt_int q
theorem op_le : OpR X (compareOp .LtE) (rI0 fun i j => .bl (decide (i ≤ j))) := opB0 fun _ _ _ _ _ _ _ q => le_int q
theorem op_gt : OpR X (compareOp .Gt) (rI0 fun i j => .bl (decide (j < i))) := opB0 fun _ _ _ _ _ _ _ q => gt_int q
theorem op_ge : OpR X (compareOp .GtE) (rI0 fun i j => .bl (decide (j ≤ i))) := opB0 fun _ _ _ _ _ _ _ q => ge_int q
theorem op_in_str : OpR X (compareOp .In) (fun x y H Q => ∃ i j, x = .str i ∧ y = .str j ∧ Q (.bl (!(Builtin.Str.occurrences j i 0 j.length 1).isEmpty)) H) := by
  intro pins s σ H x y v u Q I rx ry h
  obtain ⟨i, j, rfl, rfl, q⟩ := h
  obtain ⟨t, rfl⟩ := rx
  obtain ⟨t', rfl⟩ := ry
  exact in_str (fin_bl I q rfl)

theorem op_isN : OpR X (compareOp .Is) (fun x y H Q => y = .non ∧ Q (.bl (decide (x = .non))) H) := by
  intro pins s σ H x y v u Q I rx ry h
  obtain ⟨rfl, q⟩ := h
  cases ry
  refine is_none_gen (fin_bl I q ?_)
  cases x <;> first
    | (cases rx; rfl)
    | (obtain ⟨t, rfl⟩ := rx; rfl)
theorem OpR.or {f : Value → Value → Sem Value} {r r' : R2} (h : OpR X f r) (h' : OpR X f r') : OpR X f (fun x y H Q => r x y H Q ∨ r' x y H Q) := by
  intro pins s σ H x y v u Q I rx ry q
  rcases q with q | q
  · exact h pins s σ H x y v u Q I rx ry q
  · exact h' pins s σ H x y v u Q I rx ry q

theorem nomark (b : Expr) {op : CmpOp} (h : op ≠ .In := by decide) (h2 : op ≠ .NotIn := by decide) : behindInMarks op b = false := by
  have e1 : (op == CmpOp.In) = false := by cases op <;> first | rfl | exact absurd rfl h
  have e2 : (op == CmpOp.NotIn) = false := by cases op <;> first | rfl | exact absurd rfl h2
  cases b <;> simp [behindInMarks, e1, e2]
theorem pe_cmpR {op : CmpOp} {r : R2} (ho : OpR X (compareOp op) r) (ha : PE X a ta) (hb : PE X b tb) (hm : behindInMarks op b = false) : PE X (.Compare a [op] [b] pos) (tOp r ta tb) := by
  intro pins s σ H Q I h
  exact wpAny_Compare1 (binT ha hb I h fun v u s2 x y H2 I2 rx ry q => ho pins s2 σ H2 x y v u Q I2 rx ry q) hm
def tTest (t : TE) : TT := fun σ H Q => t σ H fun x H' => ∃ k, x = .bl k ∧ Q k H'
theorem pt_cmpR {op : CmpOp} {r : R2} (ho : OpR X (compareOp op) r) (ha : PE X a ta) (hb : PE X b tb) (hm : behindInMarks op b = false) : PT X (.Compare a [op] [b] pos) (tTest (tOp r ta tb)) := by
  intro pins s σ H Q I h
  refine wpAny_isTrue_Compare1 (thn (ha pins s σ H _ I h) fun v s1 ⟨x, H1, I1, r1, q1⟩ => thn (hb pins s1 σ H1 _ I1 q1) fun u s2 ⟨y, H2, I2, r2, q2⟩ =>
    thn (ho pins s2 σ H2 x y v u _ I2 r1 r2 q2) fun c s3 ⟨z, H3, I3, r3, k, e, q3⟩ => ?_) hm
  subst e
  cases r3
  exact wpAny_truthy_bool ⟨H3, I3, q3⟩
def tChain (r r' : R2) (ta tb tc : TE) : TE := fun σ H Q => ta σ H fun x H1 => tb σ H1 fun y H2 => r x y H2 fun z H3 => ∃ k, z = .bl k ∧
  (if k = true then tc σ H3 fun w' H4 => r' y w' H4 Q else Q (.bl false) H3)
theorem pe_chain {op op' : CmpOp} {r r' : R2} (ho : OpR X (compareOp op) r) (ho' : OpR X (compareOp op') r') (ha : PE X a ta) (hb : PE X b tb) (hc : PE X c tc)
    (hm : lastMarks [op, op'] [b, c] = false := by with_unfolding_all rfl) : PE X (.Compare a [op, op'] [b, c] pos) (tChain r r' ta tb tc) := by
  intro pins s σ H Q I h
  refine Compare_chain (thn (ha pins s σ H _ I h) fun v s1 ⟨x, H1, I1, r1, q1⟩ => chain_link (thn (hb pins s1 σ H1 _ I1 q1) fun u s2 ⟨y, H2, I2, r2, q2⟩ =>
    thn (ho pins s2 σ H2 x y v u _ I2 r1 r2 q2) fun d s3 ⟨z, H3, I3, r3, k, e, q3⟩ => ?_)) hm
  subst e
  cases r3
  refine wpAny_truthy_bool ?_
  cases k with
  | false => exact ite_ff ⟨.bl false, H3, I3, rfl, q3⟩
  | true => exact ite_tt (chain_last (thn (hc pins s3 σ H3 _ I3 q3) fun w' s4 ⟨z', H4, I4, r4, q4⟩ => ho' pins s4 σ H4 y z' u w' Q I4 r2 r4 q4))
theorem pt_chain {op op' : CmpOp} {r r' : R2} (ho : OpR X (compareOp op) r) (ho' : OpR X (compareOp op') r') (ha : PE X a ta) (hb : PE X b tb) (hc : PE X c tc)
    (hm : lastMarks [op, op'] [b, c] = false := by with_unfolding_all rfl) : PT X (.Compare a [op, op'] [b, c] pos) (tTest (tChain r r' ta tb tc)) := by
  intro pins s σ H Q I h
  refine isTrue_chain (thn (ha pins s σ H _ I h) fun v s1 ⟨x, H1, I1, r1, q1⟩ => test_link (thn (hb pins s1 σ H1 _ I1 q1) fun u s2 ⟨y, H2, I2, r2, q2⟩ =>
    thn (ho pins s2 σ H2 x y v u _ I2 r1 r2 q2) fun d s3 ⟨z, H3, I3, r3, k, e, q3⟩ => ?_)) hm
  subst e
  cases r3
  refine wpAny_truthy_bool ?_
  cases k with
  | false =>
    obtain ⟨k', e', q'⟩ := q3
    cases e'
    exact ite_ff ⟨H3, I3, q'⟩
  | true =>
    refine ite_tt (test_last (thn (hc pins s3 σ H3 _ I3 q3) fun w' s4 ⟨z', H4, I4, r4, q4⟩ => thn (ho' pins s4 σ H4 y z' u w' _ I4 r2 r4 q4) fun d' s5 ⟨z2, H5, I5, r5, k2, e2, q5⟩ => ?_))
    subst e2
    cases r5
    exact wpAny_truthy_bool ⟨H5, I5, q5⟩

/-! ### truth -/
def TruV (K : PySem.W.Frag) (x : V) (H : Hp) (k : Bool) : Prop :=
  match x with
  | .non => k = false
  | .bl b => k = b
  | .int i => k = (i != 0)
  | .str y => y.length ≤ sizeLine ∧ k = ((y.length : Int) != 0)
  | .byt y => y.size ≤ sizeLine ∧ k = ((y.size : Int) != 0)
  | .ref p => (∃ xs, SqL K H p xs ∧ k = !xs.isEmpty) ∨ (∃ xs, SqT K H p xs ∧ k = !xs.isEmpty) ∨ ∃ kvs, H p = some (.dK kvs) ∧ k = !kvs.isEmpty
  | _ => False
theorem isEmpty_kv {κ : Type} {kvs : List (κ × V)} {vs : List (κ × Value)} (r : KV kvs vs) : (!vs.isEmpty) = !kvs.isEmpty := by
  cases r <;> rfl
theorem isEmpty_of {xs : List V} {its : List Value} (r : Vals xs its) : (!its.toArray.isEmpty) = !xs.isEmpty := by
  cases r <;> simp
theorem line63 : (sizeLine : Nat) < 2 ^ 63 := by rw [sizeLine_eq]; decide
theorem tru_ok : TruR X (fun x H Q => ∃ k, TruV X.K x H k ∧ Q k H) := by
  intro pins s σ H x v Q I rx h
  obtain ⟨k, e, q⟩ := h
  have hl := line63
  have hs : sizeLine = 16777216 := sizeLine_eq
  cases x with
  | non =>
    cases rx
    have e' : k = false := e
    subst e'
    exact truthy_none ⟨H, I, q⟩
  | bl b =>
    cases rx
    have e' : k = b := e
    subst e'
    exact wpAny_truthy_bool ⟨H, I, q⟩
  | int i =>
    obtain ⟨t, rfl⟩ := rx
    have e' : k = (i != 0) := e
    subst e'
    exact PySem.P.truthy_int ⟨H, I, q⟩
  | str y =>
    obtain ⟨t, rfl⟩ := rx
    obtain ⟨hy, e'⟩ : y.length ≤ sizeLine ∧ k = ((y.length : Int) != 0) := e
    subst e'
    exact PySem.P.truthy_str (by omega) ⟨H, I.tok _, q⟩
  | byt y =>
    obtain ⟨t, rfl⟩ := rx
    obtain ⟨hy, e'⟩ : y.size ≤ sizeLine ∧ k = ((y.size : Int) != 0) := e
    subst e'
    exact PySem.W.truthy_bytes (by omega) ⟨H, I.tok _, q⟩
  | ref p =>
    cases rx
    have e' : (∃ xs, SqL X.K H p xs ∧ k = !xs.isEmpty) ∨ (∃ xs, SqT X.K H p xs ∧ k = !xs.isEmpty) ∨ ∃ kvs, H p = some (.dK kvs) ∧ k = !kvs.isEmpty := e
    rcases e' with ⟨xs, hx, e'⟩ | ⟨xs, hx, e'⟩ | ⟨kvs, hx, e'⟩
    · subst e'
      obtain ⟨its, r, pl, hz⟩ := I.list hx
      have hlen := r.length
      exact wpAny_truthy_list pl.isList (by simp only [List.size_toArray]; omega) ⟨H, I.tok _, by rw [isEmpty_of r]; exact q⟩
    · subst e'
      obtain ⟨its, r, pl, hz⟩ := I.tuple hx
      have hlen := r.length
      exact truthy_tuple pl (by simp only [List.size_toArray]; omega) ⟨H, I.tok _, by rw [isEmpty_of r]; exact q⟩
    · subst e'
      obtain ⟨hz, hS, vs, r, m⟩ : kvs.length ≤ sizeLine ∧ (p == sysModules) = false ∧ ∃ vs, KV kvs vs ∧ s.heap.DictOf (mixKind X.prog X.w) p vs := I.hok p _ hx
      have hlen : kvs.length = vs.length := Paired.length r
      exact wpAny_truthy_dict hS m (by omega) ⟨H, I.tok _, by rw [isEmpty_kv r]; exact q⟩
  | _ => exact (show False from e).elim
theorem pt_truth (ha : PE X a ta) (he : ∀ whole, isTrue a X.env whole = (do let v ← whole; standAt a.pos; holding [v] (truthy v))) :
    PT X a (fun σ H Q => ta σ H fun x H' => ∃ k, TruV X.K x H' k ∧ Q k H') := by
  intro pins s σ H Q I h
  exact isTrue_plain (thn (ha pins s σ H _ I h) fun v s1 ⟨x, H1, I1, r1, q1⟩ => tru_ok pins s1 σ H1 x v Q I1 r1 q1) (he _)

/-! ### strs and bytes -/
theorem op_add_str : OpR X (binaryOp .Add) (fun x y H Q => ∃ i j, x = .str i ∧ y = .str j ∧ i.length + j.length ≤ sizeLine ∧ Q (.str (i ++ j)) H) := by
  intro pins s σ H x y v u Q I rx ry h
  obtain ⟨i, j, rfl, rfl, hz, q⟩ := h
  obtain ⟨t, rfl⟩ := rx
  obtain ⟨t', rfl⟩ := ry
  exact add_str (fun t' tk => ⟨.str (i ++ j), H, I.tok _, ⟨_, rfl⟩, q⟩) hz
/-! ### scalar builtins, by CallR -/
theorem vals1 {x : V} {us : List Value} (r : Vals [x] us) : ∃ u, us = [u] ∧ RelV x u := by
  cases r with
  | cons r1 r2 => cases r2; exact ⟨_, rfl, r1⟩
theorem vals2 {x y : V} {us : List Value} (r : Vals [x, y] us) : ∃ u w', us = [u, w'] ∧ RelV x u ∧ RelV y w' := by
  cases r with
  | cons r1 r2 =>
    cases r2 with
    | cons r3 r4 => cases r4; exact ⟨_, _, rfl, r1, r3⟩
theorem call_min2 (hc : X.calm = true) : CallR X (.builtin "min") (fun xs H Q => ∃ i j, xs = [.int i, .int j] ∧ Q (.int (if j < i then j else i)) H) := by
  intro pins s σ H xs us Q I r h
  obtain ⟨i, j, rfl, q⟩ := h
  obtain ⟨u, w', rfl, ⟨t, rfl⟩, ⟨t', rfl⟩⟩ := vals2 r
  refine min_two_ints (I.ok.hd hc) fun h' tk k => ⟨_, H, I.kept k, ?_, q⟩
  by_cases hj : j < i
  · rw [if_pos hj, if_pos hj]; exact ⟨_, rfl⟩
  · rw [if_neg hj, if_neg hj]; exact ⟨_, rfl⟩
theorem call_int1 : CallR X (.type "int") (fun xs H Q => (∃ i, xs = [.int i] ∧ Q (.int i) H) ∨ ∃ k, xs = [.bl k] ∧ Q (.int (if k then 1 else 0)) H) := by
  intro pins s σ H xs us Q I r h
  rcases h with ⟨i, rfl, q⟩ | ⟨k, rfl, q⟩
  · obtain ⟨u, rfl, t, rfl⟩ := vals1 r
    exact call_int_int ⟨.int i, H, I, ⟨_, rfl⟩, q⟩
  · obtain ⟨u, rfl, r1⟩ := vals1 r
    cases r1
    exact call_int_bool ⟨.int (if k then 1 else 0), H, I.tok _, ⟨_, rfl⟩, q⟩
end
end L2

namespace L2
open PySem PySem.Spec PyProof.Rows

/-! ### an instance, its attributes a map -/
structure ObjM (h : Heap) (x dx C : Addr) (mA : Str → Option Value) : Prop where
  obj : h.get? x = some (PySem.W.instObj C dx)
  ns : h.Ns1 dx mA
  ne : dx ≠ x

theorem lookIn_ns {h : Heap} {dx : Addr} {mA : Str → Option Value} (n : h.Ns1 dx mA) : ∃ od, h.get? dx = some od ∧ ∀ name, PySem.W.lookIn name od = some (mA name) := by
  obtain ⟨o, es, ep, ho, hd, hk, _, hm⟩ := n
  refine ⟨o, ho, fun name => ?_⟩
  have e := hm name
  unfold nsFind findBy at e
  rw [← Array.find?_toList] at e
  unfold PySem.W.lookIn
  rw [hd]
  dsimp only
  split
  · rename_i y q
    rw [q] at e
    exact congrArg some e
  · rename_i q
    rw [q] at e
    have a : es.toList.any (·.refKey) = false := by
      rw [List.any_eq_false]
      intro y hy
      obtain ⟨z, t, hkey⟩ := hk y (Array.mem_toList_iff.mp hy)
      simp [DictEntry.refKey, hkey]
    have a' : ¬ es.toList.any (·.refKey) = true := by rw [a]; exact Bool.false_ne_true
    rw [if_neg a']
    exact congrArg some e

theorem ObjM.look {h : Heap} {x dx C : Addr} {mA : Str → Option Value} (I : ObjM h x dx C mA) : ∃ od, PySem.W.InstAt h x (PySem.W.instObj C dx) C (some od) ∧ ∀ name, PySem.W.lookIn name od = some (mA name) :=
  let ⟨od, ho, hl⟩ := lookIn_ns I.ns
  ⟨od, ⟨I.obj, rfl, rfl, ho⟩, hl⟩

section
variable {prog : Program} {w : World} {A : Around} {E : Value → Shared → Prop} {s : Shared} {K : PySem.W.Frag} {x dx C f : Addr} {mA : Str → Option Value} {name : Str} {v : Value}

end

/-! ### the attributes as a list of pairs -/
def putF (f : Str) (v : V) : List (Str × V) → List (Str × V)
  | [] => [(f, v)]
  | (g, x) :: r => if g = f then (g, v) :: r else (g, x) :: putF f v r
theorem RelO.some_of {v : V} {o : Option Value} (r : RelO (some v) o) : ∃ u, o = some u ∧ RelV v u := by
  cases o with
  | none => exact (show False from r).elim
  | some u => exact ⟨u, rfl, r⟩
section
variable {P : Program} {w : World} {H H' : Hp} {h h' : Heap} {a C dx : Addr} {fs fs' : List (Str × V)}
end

/-! ### what of the text a class must have -/
structure Cls (K : PySem.W.Frag) (C : Addr) : Prop where
  pg : PySem.W.plainGet K C Str.empty = true
  hd : PySem.W.hasDictIn K C = true
  po : PySem.W.plainOver K C = true
  sa : PySem.W.findIn K (.ref C) "__setattr__" = some (some (.builtin "object.__setattr__"))
theorem Cls.get {K : PySem.W.Frag} {C : Addr} (c : Cls K C) (f : Str) : PySem.W.plainGet K C f = true := c.pg
structure Con (K : PySem.W.Frag) (C : Addr) (f : Str) (v : V) (u : Value) : Prop where
  at_ : PySem.W.findIn K (.ref C) f = some (some u)
  rel : RelV v u
  get : PySem.W.specialIn K u "__get__" = some none
  cp : PySem.W.copiedNames.contains f = false
structure Meth (K : PySem.W.Frag) (C : Addr) (m : Str) (f : Addr) : Prop where
  at_ : PySem.W.findIn K (.ref C) m = some (some (.ref f))
  fn : PySem.W.isFn K (.ref f) = true
  kp : PySem.W.keepIn K (.ref f) = true

section
variable {X : Cx} {pins : List (Addr × Obj)} {σ : St} {H : Hp} {s : Shared} {a C dx : Addr} {fs : List (Str × V)} {f : Str} {v : V} {A : Around} {E : Value → Shared → Prop}

end

/-! ### readings and rules -/
section
variable {X : Cx} {o e value : Expr} {f : Str} {pos pos' tpos : Pos} {ta tv : TE}
end

/-! ### isinstance -/
section
variable {X : Cx} {pins : List (Addr × Obj)} {σ : St} {H : Hp} {s : Shared} {A : Around} {E : Value → Shared → Prop} {Q : Value → Shared → Prop} {c : Value} {b : Bool}
inductive TyOf (K : PySem.W.Frag) (H : Hp) : V → Value → Prop where
  | non : TyOf K H .non (.type "NoneType")
  | bl (x : Bool) : TyOf K H (.bl x) (.type "bool")
  | int (i : Int) : TyOf K H (.int i) (.type "int")
  | str (x : Str) : TyOf K H (.str x) (.type "str")
  | flt (x : UInt64) : TyOf K H (.flt x) (.type "float")
  | lst {a : Addr} {xs : List V} (e : H a = some (.lst xs)) : TyOf K H (.ref a) (.type "list")
  | frz {a : Addr} {o : Obj} {xs : List V} (e : H a = some (.frz o (.lst xs))) : TyOf K H (.ref a) (.type "list")
  | tup {a : Addr} {xs : List V} (e : H a = some (.tup xs)) : TyOf K H (.ref a) (.type "tuple")
  | dK {a : Addr} {kvs : List (Key × V)} (e : H a = some (.dK kvs)) : TyOf K H (.ref a) (.type "dict")
  | dT {a : Addr} {kvs : List (List Key × V)} (e : H a = some (.dT kvs)) : TyOf K H (.ref a) (.type "dict")
  | ins {a C dx : Addr} {fs : List (Str × V)} (e : H a = some (.ins C dx fs)) (cl : Cls K C) (ha : PySem.W.findIn K (.ref C) "__class__" = some (some (.builtin "object.__class__")))
      (hn : PySem.W.specialIn K (.builtin "object.__class__") "__get__" = some (some (.builtin "getset_descriptor.__get__"))) (htk : PySem.W.takesIn K (.builtin "object.__class__") = some true)
      (hm : PySem.W.mroIn K C (.type "object") = some true) : TyOf K H (.ref a) (.ref C)
end
end L2

namespace L2
open PySem PySem.Spec PyProof.Rows

/-! ### room -/
structure Room (k : Nat) (A : Around) : Prop where
  hd : A.handled = none
  dp : A.depth + 3 * k + 5 < recursionLimit
  un : A.units + 16 * k + 200 < cLine
theorem Room.mono {j k : Nat} {A : Around} (r : Room k A) (h : j ≤ k) : Room j A := ⟨r.hd, by have := r.dp; omega, by have := r.un; omega⟩
theorem Room.deeper {k : Nat} {A : Around} (r : Room (k + 1) A) (env : Env) : Room k (A.deeper env) :=
  ⟨r.hd, by have := r.dp; show A.depth + 1 + 3 * k + 5 < _; omega, by have := r.un; show A.units + 3 + 16 * k + 200 < _; omega⟩
theorem Room.in1 {k : Nat} {A : Around} (r : Room (k + 1) A) : Room k A.in1 :=
  ⟨r.hd, by have := r.dp; show A.depth + 3 * k + 5 < _; omega, by have := r.un; show A.units + 1 + 16 * k + 200 < _; omega⟩
theorem Room.depth {k : Nat} {A : Around} (r : Room k A) : A.depth < recursionLimit := by have := r.dp; omega
theorem Room.units {k : Nat} {A : Around} (r : Room k A) : A.units + 64 < cLine := by have := r.un; omega
/-! ### argument lists and displays -/
def tNil : TA := fun _ H Q => Q [] H
def tCons (ta : TE) (tr : TA) : TA := fun σ H Q => ta σ H fun x H1 => tr σ H1 fun xs H2 => Q (x :: xs) H2
section
variable {X : Cx} {e : Expr} {es : List Expr} {te : TE} {t : TA} {pos : Pos}
theorem pa_nil : PA X [] tNil := fun _ _ _ _ H Q I h => Calls.spliced_nil ⟨[], H, I, .nil, h⟩
theorem pa_cons (ha : PE X e te) (hr : PA X es t) (hs : starEach (e :: es) X.env = (false, eval e X.env) :: starEach es X.env := by rfl) : PA X (e :: es) (tCons te t) := by
  intro pos pins s σ H Q I h
  rw [hs]
  show wpAny _ _ (spliced ((false, eval e X.env) :: backTo pos (starEach es X.env))) _ _ s
  refine Calls.spliced_cons (thn (ha pins s σ H _ I h) fun u s1 ⟨x, H1, I1, r1, q1⟩ => ?_)
  exact thn (hr pos pins s1 σ H1 _ I1 q1) fun us s2 ⟨xs, H2, I2, r2, q2⟩ => ⟨x :: xs, H2, I2, .cons r1 r2, q2⟩

def tTup (t : TA) : TE := fun σ H Q => t σ H fun xs H1 => xs.length ≤ sizeLine ∧ ∀ p, H1 p = none → Q (.ref p) (upd H1 p (.tup xs))
def tLst (t : TA) : TE := fun σ H Q => t σ H fun xs H1 => xs.length ≤ sizeLine ∧ ∀ p, H1 p = none → Q (.ref p) (upd H1 p (.lst xs))
theorem pe_tup {x1} (h : PA X es t) : PE X (.Tuple es x1 pos) (tTup t) := by
  intro pins s σ H Q I hq
  refine wpAny_Tuple_spliced (thn (h pos pins s σ H _ I hq) fun us s1 ⟨xs, H1, I1, r, z, q⟩ => ⟨by rw [← r.length]; exact z, ?_⟩)
  have hf : H1 s1.heap.objs.size = none := I1.hok.fresh (Nat.le_refl _)
  refine ⟨.ref s1.heap.objs.size, upd H1 s1.heap.objs.size (.tup xs), I1.laid (t' := s1.toks) (fun b u e => Heap.get?_push_of_some _ e) (Nat.le_refl _) ?_, rfl, q _ hf⟩
  exact ⟨z, us, r, ⟨_, Heap.get?_push_size _ rfl, rfl, _, rfl⟩⟩
theorem pe_lst (h : PA X es t) : PE X (.List es pos) (tLst t) := by
  intro pins s σ H Q I hq
  refine wpAny_List_spliced (thn (h pos pins s σ H _ I hq) fun us s1 ⟨xs, H1, I1, r, z, q⟩ => ⟨by rw [← r.length]; exact z, ?_⟩)
  have hf : H1 s1.heap.objs.size = none := I1.hok.fresh (Nat.le_refl _)
  refine ⟨.ref s1.heap.objs.size, upd H1 s1.heap.objs.size (.lst xs), I1.laid (t' := s1.toks) (fun b u e => Heap.get?_push_of_some _ e) (Nat.le_refl _) ?_, rfl, q _ hf⟩
  exact ⟨z, us, 0, r, Heap.get?_push_size _ rfl⟩
end

/-! ### what a def promises -/
abbrev Sp := List V → Hp → VK → XK → Prop
abbrev CXT := List Env → Hp → Shared → XK → Value → Shared → Prop

structure Env0 (P : Program) (w : World) (K : PySem.W.Frag) (mg : Str → Option Value) (base : Heap) (A : Around) (outer : List Env) (s : Shared) (H : Hp) : Prop where
  frames : A.frames = some outer
  mod : Mod K mg base
  bs : ∀ b o, base.get? b = some o → s.heap.get? b = some o ∧ H b = none
  bsz : base.objs.size ≤ s.heap.objs.size
  funs : s.heap.FunFrames base outer
  frf : ∀ b ∈ frs outer, H b = none
  hok : HOk P w H s.heap
  bare : AllBare s.gens
def CE (outer : List Env) (P : Program) (w : World) (H : Hp) (s : Shared) (Q : VK) (u : Value) (s' : Shared) : Prop :=
  ∃ v H', s'.os = s.os ∧ AllBare s'.gens ∧ Un (frs outer) [] H H' s.heap s'.heap ∧ HOk P w H' s'.heap ∧ RelV v u ∧ Q v H'
def CR (CX : CXT) (outer : List Env) (P : Program) (w : World) (H : Hp) (s : Shared) (Q : VK) (E : XK) (r : Result) (s' : Shared) : Prop :=
  match r with
  | .ok (.ret u) => CE outer P w H s Q u s'
  | .ok _ => False
  | .error e => CX outer H s E e s'
structure FnOk (P : Program) (w : World) (K : PySem.W.Frag) (mg : Str → Option Value) (base : Heap) (CX : CXT) (k : Nat) (f : Addr) (fd : FuncData) (ps : List Str) (sp : Sp) : Prop where
  len : ∀ vs H Q E, sp vs H Q E → vs.length = ps.length
  run : ∀ (A : Around) (outer : List Env) (s : Shared) (H : Hp) (args : Args) (us : List Value) (vs : List V) (Q : VK) (E : XK), Room k A → Env0 P w K mg base A outer s H → BindsTo s fd args (ps.zip us) → Vals vs us → sp vs H Q E →
    codeAny (model P w) A (.call (.ref f) args) (CR CX outer P w H s Q E) s
theorem FnOk.mono {P : Program} {w : World} {K : PySem.W.Frag} {mg : Str → Option Value} {base : Heap} {CX : CXT} {j k : Nat} {f : Addr} {fd : FuncData} {ps : List Str} {sp : Sp} (F : FnOk P w K mg base CX j f fd ps sp) (h : j ≤ k) :
    FnOk P w K mg base CX k f fd ps sp := ⟨F.len, fun A outer s H args us vs Q E hr => F.run A outer s H args us vs Q E (hr.mono h)⟩
theorem FnOk.imp {P : Program} {w : World} {K : PySem.W.Frag} {mg : Str → Option Value} {base : Heap} {CX : CXT} {k : Nat} {f : Addr} {fd : FuncData} {ps : List Str} {sp sp' : Sp} (F : FnOk P w K mg base CX k f fd ps sp)
    (h : ∀ vs H Q E, sp' vs H Q E → sp vs H Q E) : FnOk P w K mg base CX k f fd ps sp' :=
  ⟨fun vs H Q E q => F.len vs H Q E (h _ _ _ _ q), fun A outer s H args us vs Q E hr he hb hv hs => F.run A outer s H args us vs Q E hr he hb hv (h _ _ _ _ hs)⟩

theorem Env0.in1 {P : Program} {w : World} {K : PySem.W.Frag} {mg : Str → Option Value} {base : Heap} {A : Around} {outer : List Env} {s : Shared} {H : Hp} (e : Env0 P w K mg base A outer s H) :
    Env0 P w K mg base A.in1 outer s H := ⟨e.frames, e.mod, e.bs, e.bsz, e.funs, e.frf, e.hok, e.bare⟩

section
variable {X : Cx} {pins : List (Addr × Obj)} {σ : St} {H : Hp} {s s' : Shared}
theorem Inv.env0 (I : Inv X pins σ H s) : Env0 X.prog X.w X.K X.mg X.base X.A X.stack s H :=
  ⟨I.ok.frames, I.ok.mod, I.bs, Nat.le_trans I.ok.bsz I.sz, I.stack, I.stkFree, I.hok, I.bare⟩
theorem Inv.after {Q : VK} {u : Value} (I : Inv X pins σ H s) (h : CE X.stack X.prog X.w H s Q u s') : EP X pins σ Q u s' := by
  obtain ⟨v, H', os, bare, un, hok, r, q⟩ := h
  obtain ⟨hh, g, d, t, os'⟩ := s'
  obtain rfl : os' = s.os := os
  exact ⟨v, H', I.call (h' := hh) (g' := g) (d' := d) (t' := t) (ch := []) un hok bare (fun b z => absurd z (by simp)), r, q⟩
end

/-! ### calls -/
def tCall (sp : Sp) (dvs : List V) (E : XK) (t : TA) : TE := fun σ H Q => t σ H fun vs H1 => sp (vs ++ dvs) H1 Q E
def Binds (K : PySem.W.Frag) (fd : FuncData) (ps : List Str) (ds : List Value) : Prop :=
  ∀ (s : Shared) (us : List Value), K.In s.heap → (us ++ ds).length = ps.length → BindsTo s fd ⟨us, []⟩ (ps.zip (us ++ ds))
theorem Binds.all {K : PySem.W.Frag} {fd : FuncData} {ps : List Str} (h : ∀ us : List Value, us.length = ps.length → bindArgs fd ⟨us, []⟩ = pure (ps.zip us)) : Binds K fd ps [] := fun s us _ hl => by
  rw [List.append_nil] at hl ⊢
  exact .of_eq (h us hl)

def Passes (CX : CXT) (X : Cx) (E : XK) : Prop := ∀ (pins : List (Addr × Obj)) (σ : St) (H : Hp) (s : Shared) (e : Value) (s' : Shared), Inv X pins σ H s → CX X.stack H s E e s' → X.xe e s'

section
variable {X : Cx} {CX : CXT} {k : Nat} {f C : Addr} {fd : FuncData} {ps : List Str} {sp : Sp} {dvs : List V} {ds : List Value} {E : XK} {x m : Str} {p pos apos : Pos} {e o : Expr} {es : List Expr} {ta : TE} {t : TA}

theorem run_fn {pins : List (Addr × Obj)} {σ : St} {H : Hp} {s : Shared} {Q : VK} {us : List Value} {vs : List V} (F : FnOk X.prog X.w X.K X.mg X.base CX k f fd ps sp) (hr : Room k X.A) (hb : Binds X.K fd ps ds) (hd : Vals dvs ds) (hx : Passes CX X E)
    (I : Inv X pins σ H s) (r : Vals vs us) (h : sp (vs ++ dvs) H Q E) : wpAny (model X.prog X.w) X.A (call (.ref f) us) (EP X pins σ Q) X.xe s := by
  have r2 : Vals (vs ++ dvs) (us ++ ds) := r.append hd
  have hl : (us ++ ds).length = ps.length := by rw [← r2.length]; exact F.len _ _ _ _ h
  refine wpAny_call (codeAny_mono (F.run X.A X.stack s H ⟨us, []⟩ (us ++ ds) (vs ++ dvs) Q E hr I.env0 (hb s us I.kIn hl) r2 h) fun r s' hq => ?_)
  cases r with
  | error e => exact hx pins σ H s e s' I hq
  | ok fl =>
    cases fl with
    | ret u => exact I.after hq
    | next => exact False.elim hq
    | brk => exact False.elim hq
    | cont => exact False.elim hq

theorem pe_call (F : FnOk X.prog X.w X.K X.mg X.base CX k f fd ps sp) (hr : Room k X.A) (hg : Gl X x) (hm : X.mg x = some (.ref f)) (hk : PySem.W.keepIn X.K (.ref f) = true) (hb : Binds X.K fd ps ds) (hd : Vals dvs ds) (hx : Passes CX X E)
    (ha : PA X (e :: es) t) (hdb : (x == ("__debug__" : Str)) = false := by decide) (he : starEach (e :: es) X.env = (false, eval e X.env) :: starEach es X.env := by rfl) (hpl : (backTo pos (starEach es X.env)).any (·.1) = false := by rfl) :
    PE X (.Call (.Name x p) (e :: es) [] pos) (tCall sp dvs E t) := by
  intro pins s σ H Q I h
  refine wpAny_Call_Name_kw (ld_glob I hg hm ?_ hdb)
  refine PySem.W.callWith_K (h₀ := X.base) I.ok.mod.kin hk (thn (ha pos pins s σ H _ I h) fun us s1 ⟨vs, H1, I1, r, q⟩ => ⟨I1.kIn, ?_⟩) he hpl
  exact run_fn F hr hb hd hx I1 r q
structure Mk (K : PySem.W.Frag) (C f : Addr) : Prop where
  makes : PySem.W.makesIn K C = true
  init : PySem.W.findIn K (.ref C) "__init__" = some (some (.ref f))
  fn : PySem.W.isFn K (.ref f) = true
  kp : PySem.W.keepIn K (.ref C) = true

end

/-! ### keywords -/
section
variable {X : Cx} {CX : CXT} {k : Nat} {f C : Addr} {fd : FuncData} {ps ks : List Str} {sp : Sp} {E : XK} {x m : Str} {p pos apos kpos : Pos} {e o : Expr} {es : List Expr} {kws : List Keyword} {te ta : TE} {t tk : TA} {nm : Option Str}
structure KBinds (K : PySem.W.Frag) (fd : FuncData) (ps ks : List Str) (g : List Value → List Value → List Value) (gV : List V → List V → List V) : Prop where
  to : ∀ (s : Shared) (us ws : List Value), K.In s.heap → (g us ws).length = ps.length → BindsTo s fd ⟨us, ks.zip ws⟩ (ps.zip (g us ws))
  rel : ∀ {vs : List V} {us : List Value} {zs : List V} {ws : List Value}, Vals vs us → Vals zs ws → Vals (gV vs zs) (g us ws)
variable {g : List Value → List Value → List Value} {gV : List V → List V → List V}
end

/-! ### a def's body keeps its promise -/
structure FnScope (N P : List Str) (sc : Scope) : Prop where
  kind : sc.kind = .function
  co : sc.isCoroutine = false
  gen : sc.isGenerator = false
  nd : N.Nodup
  pre : N.take P.length = P
  par : ∀ x ∈ P, sc.names.lookup x = some .local ∨ sc.names.lookup x = some .cell
  nofree : ∀ y ∈ sc.names, y.2 ≠ .free

theorem bindL_out {kindOf : Str → Option NameKind} {x : Str} : ∀ {binds : List (Str × Value)} {m : Str → Option Value}, (∀ v, (x, v) ∉ binds) → bindL kindOf binds m x = m x
  | [], _, _ => rfl
  | (n, v) :: r, m, h => by
    unfold bindL
    rw [bindL_out fun w hw => h w (List.mem_cons_of_mem _ hw)]
    split
    · have : x ≠ n := by rintro rfl; exact h v List.mem_cons_self
      simp [this]
    · rfl
theorem bindC_out {kindOf : Str → Option NameKind} {x : Str} : ∀ {binds : List (Str × Value)} {m : Str → Option Value}, (∀ v, (x, v) ∉ binds) → bindC kindOf binds m x = m x
  | [], _, _ => rfl
  | (n, v) :: r, m, h => by
    unfold bindC
    rw [bindC_out fun w hw => h w (List.mem_cons_of_mem _ hw)]
    split
    · rfl
    · have : x ≠ n := by rintro rfl; exact h v List.mem_cons_self
      simp [this]
theorem bindL_get {kindOf : Str → Option NameKind} {x : Str} {v : Value} : ∀ {P : List Str} {vs : List Value} {i : Nat} {m : Str → Option Value}, P.Nodup → P[i]? = some x → vs[i]? = some v → kindOf x = some .local →
    bindL kindOf (P.zip vs) m x = some v
  | [], _, _, _, _, h, _, _ => by simp at h
  | _ :: _, [], _, _, _, _, h, _ => by simp at h
  | p :: P, w :: vs, 0, m, nd, h1, h2, hk => by
    simp at h1 h2; subst h1; subst h2
    show bindL kindOf ((p, w) :: P.zip vs) m p = _
    unfold bindL
    rw [bindL_out fun v hv => (List.nodup_cons.mp nd).1 (List.of_mem_zip hv).1, if_pos hk]
    simp
  | p :: P, w :: vs, i + 1, m, nd, h1, h2, hk => by
    show bindL kindOf ((p, w) :: P.zip vs) m x = _
    unfold bindL
    exact bindL_get (i := i) (List.nodup_cons.mp nd).2 (by simpa using h1) (by simpa using h2) hk
theorem bindC_get {kindOf : Str → Option NameKind} {x : Str} {v : Value} : ∀ {P : List Str} {vs : List Value} {i : Nat} {m : Str → Option Value}, P.Nodup → P[i]? = some x → vs[i]? = some v → kindOf x ≠ some .local →
    bindC kindOf (P.zip vs) m x = some v
  | [], _, _, _, _, h, _, _ => by simp at h
  | _ :: _, [], _, _, _, _, h, _ => by simp at h
  | p :: P, w :: vs, 0, m, nd, h1, h2, hk => by
    simp at h1 h2; subst h1; subst h2
    show bindC kindOf ((p, w) :: P.zip vs) m p = _
    unfold bindC
    rw [bindC_out fun v hv => (List.nodup_cons.mp nd).1 (List.of_mem_zip hv).1, if_neg hk]
    simp
  | p :: P, w :: vs, i + 1, m, nd, h1, h2, hk => by
    show bindC kindOf ((p, w) :: P.zip vs) m x = _
    unfold bindC
    exact bindC_get (i := i) (List.nodup_cons.mp nd).2 (by simpa using h1) (by simpa using h2) hk

def start (N : List Str) (vs : List V) : St := vs.map some ++ List.replicate (N.length - vs.length) none

def cxOf (CX : CXT) (P : Program) (w : World) (K : PySem.W.Frag) (mg : Str → Option Value) (base : Heap) (N : List Str) (qual : Str) (scope : Scope) (f : Addr) (cd : Value) (A : Around) (outer : List Env) (s : Shared) (H : Hp) (E : XK) : Cx where
  prog := P
  w := w
  K := K
  mg := mg
  base := base
  A := A.deeper (envOfC qual scope s.heap.objs.size f cd)
  N := N
  s₀ := s
  H₀ := H
  env := envOfC qual scope s.heap.objs.size f cd
  outer := outer
  stack := envOfC qual scope s.heap.objs.size f cd :: outer
  ex := []
  calm := true
  fn := fun _ => true
  pn := []
  xe := fun e s' => wpAny (model P w) (A.deeper (envOfC qual scope s.heap.objs.size f cd)) (leaving (envOfC qual scope s.heap.objs.size f cd) e) (fun _ s'' => CX outer H s E e s'') (fun e' s'' => CX outer H s E e' s'') s'

theorem cell_has {sc : Scope} {n : Nat} {x : Str} (h : sc.names.lookup x = some .cell) : ∃ c, (cellsFrom n sc.names []).lookup x = some c := by
  have q := PySem.W.cellsFrom_some sc.names n [] (.inl h)
  exact Option.isSome_iff_exists.mp q

theorem inv_start {CX : CXT} {P : Program} {w : World} {K : PySem.W.Frag} {mg : Str → Option Value} {base : Heap} {N ps : List Str} {qual : Str} {scope : Scope} {f : Addr} {cd : Value} {A : Around} {outer : List Env} {s s1 : Shared} {H : Hp} {E : XK} {us : List Value} {vs : List V}
    (S : FnScope N ps scope) (hd : A.handled = none) (e0 : Env0 P w K mg base A outer s H) (hl : vs.length = ps.length) (r : Vals vs us)
    (x : InCallC s s.heap.objs.size (bindL (envOfC qual scope s.heap.objs.size f cd).kindOf (ps.zip us) fun _ => none) (cellsFrom (s.heap.objs.size + 1) scope.names []) (bindC (envOfC qual scope s.heap.objs.size f cd).kindOf (ps.zip us) fun _ => none) s1) :
    Inv (cxOf CX P w K mg base N qual scope f cd A outer s H E) [] (start N vs) H s1 := by
  have hpl : ps.length ≤ N.length := by have := congrArg List.length S.pre; rw [List.length_take] at this; omega
  obtain ⟨h1, tk, rfl, hk⟩ := x.done
  have noA : ∀ b : Addr, b ∉ (cxOf CX P w K mg base N qual scope f cd A outer s H E).ex := fun b z => absurd (show b ∈ ([] : List Addr) from z) (by simp)
  refine ⟨⟨e0.mod, S.kind, rfl, rfl, Nat.le_refl _, fun y z c h1 h2 => ?_, fun y hy => ?_, fun y c _ h => ?_, fun _ => hd, Around.frames_deeper e0.frames, .inr ⟨rfl, rfl⟩, fun b z => absurd z (noA b), e0.bs, e0.bsz, fun b _ _ => noA b, fun b z => absurd z (noA b), e0.funs, e0.frf⟩,
    rfl, e0.bare, Un.kept hk, ⟨_, x.toInCall.ns, fun i y v h1 h2 h3 => ?_⟩, fun y c h => ⟨_, x.cell y c h⟩, e0.hok.fresh (Nat.le_refl _), fun y c h => ?_, fun p hp => absurd (show p ∈ ([] : List (Addr × Obj)) from hp) (by simp), e0.hok.kept hk, ?_⟩
  · exact name_of_addr x.apart (PySem.mem_of_lookup h1) (PySem.mem_of_lookup h2)
  · have hy : scope.names.lookup y = some .cell ∨ scope.names.lookup y = some .free := hy
    rcases hy with hy | hy
    · exact cell_has hy
    · exact absurd rfl (S.nofree _ (PySem.mem_of_lookup hy))
  · exact Nat.le_of_lt (x.above y c (PySem.mem_of_lookup h))
  · have hi : i < vs.length := by
      unfold start at h2
      by_cases hi : i < vs.length
      · exact hi
      · rw [List.getElem?_append_right (by simpa using hi)] at h2
        rw [List.getElem?_replicate] at h2
        split at h2 <;> cases h2
    have ha : vs[i]? = some v := by
      unfold start at h2
      rw [List.getElem?_append_left (by simpa using hi), List.getElem?_map] at h2
      cases e : vs[i]? with
      | none => rw [e] at h2; cases h2
      | some a => rw [e] at h2; cases h2; rfl
    obtain ⟨u, hu, rv⟩ := r.get ha
    have hp : ps[i]? = some y := by
      rw [← S.pre, List.getElem?_take_of_lt (by omega)]; exact h1
    have ndP : ps.Nodup := by rw [← S.pre]; exact S.nd.sublist (List.take_sublist _ _)
    refine ⟨u, rv, ?_⟩
    rcases S.par y (List.mem_of_getElem? hp) with k | k
    · exact .inl ⟨k, bindL_get ndP hp hu k⟩
    · obtain ⟨c, e⟩ := cell_has (n := s.heap.objs.size + 1) k
      refine .inr ⟨.inl k, c, e, ?_⟩
      have q := x.cell y c e
      rw [bindC_get ndP hp hu (by show scope.names.lookup y ≠ _; rw [k]; decide)] at q
      exact q
  · exact e0.hok.fresh (Nat.le_of_lt (x.above y c (PySem.mem_of_lookup h)))
  · unfold start
    show _ = N.length
    rw [List.length_append, List.length_map, List.length_replicate]
    omega

theorem fn_of {CX : CXT} {P : Program} {w : World} {K : PySem.W.Frag} {mg : Str → Option Value} {base : Heap} {k : Nat} {f : Addr} {name qual : Str} {params : Arguments} {body : List Stmt} {scope : Scope} {dV kV doc pm cdv ct oc : Value} {an od : Option Addr}
    {osl : Array (Option Value)} {N ps : List Str} {sp : Sp} (lk : K.lookup f = some ⟨oc, od, .func (PySem.W.fnOf name qual params body scope dV kV doc pm an cdv ct), osl⟩) (hcd : PySem.W.codeIn K cdv qual = true) (S : FnScope N ps scope)
    (len : ∀ vs H Q E, sp vs H Q E → vs.length = ps.length)
    (hbody : ∀ (A : Around) (outer : List Env) (s : Shared) (H : Hp) (vs : List V) (Q : VK) (E : XK), Room k (A.deeper (envOfC qual scope s.heap.objs.size f cdv)) → sp vs H Q E →
      ∃ t, PSs (cxOf CX P w K mg base N qual scope f cdv A outer s H E) body t ∧ t { nx := fun _ H' => Q .non H', rt := Q } (start N vs) H) :
    FnOk P w K mg base CX (k + 1) f (PySem.W.fnOf name qual params body scope dV kV doc pm an cdv ct) ps sp := by
  refine ⟨len, fun A outer s H args us vs Q E hr e0 hb r hsp => ?_⟩
  have hl := len _ _ _ _ hsp
  have KX : K.In s.heap := e0.mod.kin.keeps fun b o e => (e0.bs b o e).1
  have lim : s.heap.NoLimit := e0.mod.nolimit.keeps fun b o e => (e0.bs b o e).1
  have hkind : ∀ y ∈ ps.zip us, scope.names.lookup y.1 = some .local ∨ (scope.names.lookup y.1 = some .cell ∧ ((cellsFrom (s.heap.objs.size + 1) scope.names []).lookup y.1).isSome = true) := fun ⟨n, v⟩ hy => by
    rcases S.par n (List.of_mem_zip hy).1 with q | q
    · exact .inl q
    · exact .inr ⟨q, PySem.W.cellsFrom_some _ _ _ (.inl q)⟩
  refine codeAny_call_function hr.depth (KX _ _ lk) rfl S.co S.gen rfl (PySem.W.codeRec_of KX hcd) (hb _ _ _ _ ?_)
  refine wpAny_newFunctionEnv_cells S.kind hkind fun env he s1 x => ?_
  subst he
  refine ⟨lim.keeps x.toInCall.keep, codeAny_func ?_⟩
  obtain ⟨t, ht, hq⟩ := hbody A outer s H vs Q E (hr.deeper _) hsp
  have I : Inv (cxOf CX P w K mg base N qual scope f cdv A outer s H E) [] (start N vs) H s1 := inv_start S hr.hd e0 hl r x
  refine wpAny_mono (ht [] s1 (start N vs) H _ I hq) (fun fl s' hs => ?_) fun e s' hs => hs
  have fin : ∀ {σ' : St} {H' : Hp} {v : V} {u : Value}, Inv (cxOf CX P w K mg base N qual scope f cdv A outer s H E) [] σ' H' s' → RelV v u → Q v H' → CE outer P w H s Q u s' :=
    fun {σ' H' v u} J rv q => ⟨v, H', J.os, J.bare, J.base, J.hok, rv, q⟩
  cases fl with
  | ret u =>
    obtain ⟨v, σ', H', J, rv, q⟩ := hs
    exact fin J rv q
  | next =>
    obtain ⟨σ', H', J, q⟩ := hs
    exact fin (v := V.non) (u := Value.none) J rfl q
  | brk =>
    obtain ⟨_, _, _, q⟩ := hs
    exact False.elim q
  | cont =>
    obtain ⟨_, _, _, q⟩ := hs
    exact False.elim q
end L2

namespace L2
open PySem PySem.Spec PyProof.Rows
section
variable {X : Cx} {x : Str} {p pos : Pos} {e : Expr} {es : List Expr} {t : TA} {id T : String} {r : List V → Hp → VK → Prop}

def tCB (r : List V → Hp → VK → Prop) (t : TA) : TE := fun σ H Q => t σ H fun vs H1 => r vs H1 Q
theorem pe_callB (hc : CallR X (.builtin id) r) (hg : Gl X x) (hm : X.mg x = none) (hv : bootBuiltins x = some (.builtin id)) (ha : PA X (e :: es) t) (hn : x ≠ "__name__" := by decide) (hdb : (x == ("__debug__" : Str)) = false := by decide)
    (he : starEach (e :: es) X.env = (false, eval e X.env) :: starEach es X.env := by rfl) (hpl : (backTo pos (starEach es X.env)).any (·.1) = false := by rfl) : PE X (.Call (.Name x p) (e :: es) [] pos) (tCB r t) := by
  intro pins s σ H Q I h
  refine wpAny_Call_Name_kw (ld_blt I hg hm hv ?_ hn hdb)
  exact PyProof.Rows.callWith_builtin1 (thn (ha pos pins s σ H _ I h) fun us s1 ⟨vs, H1, I1, r1, q1⟩ => hc pins s1 σ H1 vs us Q I1 r1 q1) he hpl
theorem pe_callTy (hc : CallR X (.type T) r) (hg : Gl X x) (hm : X.mg x = none) (hv : bootBuiltins x = some (.type T)) (ha : PA X (e :: es) t) (hn : x ≠ "__name__" := by decide) (hdb : (x == ("__debug__" : Str)) = false := by decide)
    (he : starEach (e :: es) X.env = (false, eval e X.env) :: starEach es X.env := by rfl) (hpl : (backTo pos (starEach es X.env)).any (·.1) = false := by rfl) : PE X (.Call (.Name x p) (e :: es) [] pos) (tCB r t) := by
  intro pins s σ H Q I h
  refine wpAny_Call_Name_kw (ld_blt I hg hm hv ?_ hn hdb)
  exact PyProof.Rows.callWith_type1 (thn (ha pos pins s σ H _ I h) fun us s1 ⟨vs, H1, I1, r1, q1⟩ => hc pins s1 σ H1 vs us Q I1 r1 q1) he hpl
end
end L2

namespace HT
open PySem PyProof.Rows

def lexLt : List Int → List Int → Bool
  | [], [] => false
  | [], _ :: _ => true
  | _ :: _, [] => false
  | x :: xs, y :: ys => if x = y then lexLt xs ys else decide (x < y)
section
open PySem.SeqAt
open PySem.AutoSeq1 (wpAny_loadPart')
open PySem.MeetsSeq PySem.MeetsSeq2 PySem.MeetsSeq3

end

section
variable {prog : Program} {w : World} {A : Around} {E : Value → Shared → Prop} {s : Shared}

theorem cat_tup {t b : Addr} {vs ws : List Value} {Q : Value → Shared → Prop} (ht : IsTup s.heap t vs.toArray) (hb : IsTup s.heap b ws.toArray) (hv : vs ≠ [])
    (h1 : ws = [] → Q (.ref t) s) (h2 : ws ≠ [] → Q (.ref s.heap.objs.size) { s with heap := s.heap.push { cls := .type "tuple", data := .seq (vs ++ ws).toArray } })
    (hsz : vs.length + ws.length ≤ sizeLine) : wpAny (model prog w) A (binaryOp .Add (.ref t) (.ref b)) Q E s := by
  obtain ⟨⟨cls, dd, data, sl⟩, ho, hc, n, hd⟩ := id ht
  obtain ⟨⟨cls2, dd2, data2, sl2⟩, ho2, hc2, n2, hd2⟩ := id hb
  simp only at hc hd hc2 hd2
  subst hc hd hc2 hd2
  have e : vs.toArray ++ ws.toArray = (vs ++ ws).toArray := by simp
  by_cases hw : ws = []
  · exact concat_meets ⟨_, ho, rfl⟩ ⟨_, ho2, rfl⟩ noFill_tuple_add seq_tuple_add PySem.F.slot_tuple_add PySem.F.entry_tuple_add (PySem.F.args_tuple_add_2 _ _)
      (tuple_addW1 t b vs.toArray ws.toArray n n2 dd dd2 sl sl2 (by simpa using hv) (by simp [hw])) ⟨ho, ho2, h1 hw⟩
  · refine concat_meets ⟨_, ho, rfl⟩ ⟨_, ho2, rfl⟩ noFill_tuple_add seq_tuple_add PySem.F.slot_tuple_add PySem.F.entry_tuple_add (PySem.F.args_tuple_add_2 _ _)
      (tuple_addW2 t b vs.toArray ws.toArray n n2 dd dd2 sl sl2 (by simpa using hv) (by simpa using hw) (by rw [List.size_toArray, List.size_toArray]; exact hsz)) ⟨ho, ho2, ?_⟩
    rw [e]
    exact h2 hw

/-! ### t[a:b], not the whole -/
def sIx (n d : Nat) : Option Int → Nat
  | none => d
  | some v => if v < 0 then (v + (n : Int)).toNat else min v.toNat n
theorem sIx_none (n d : Nat) : sIx n d none = d := rfl
theorem sIx_nat (n d k : Nat) : sIx n d (some (k : Int)) = min k n := by
  show (if (k : Int) < 0 then ((k : Int) + (n : Int)).toNat else min (k : Int).toNat n) = min k n
  rw [if_neg (by omega), Int.toNat_natCast]
theorem sIx_le (n d : Nat) (hd : d ≤ n) (o : Option Int) : sIx n d o ≤ n := by
  cases o with
  | none => exact hd
  | some v =>
    show (if v < 0 then (v + (n : Int)).toNat else min v.toNat n) ≤ n
    by_cases hv : v < 0
    · rw [if_pos hv]; omega
    · rw [if_neg hv]; exact Nat.min_le_right _ _
theorem clip_eq (v : Int) (n d : Nat) : (if v < 0 then max (v + (n : Int)) 0 else min v (n : Int)) = ((sIx n d (some v) : Nat) : Int) := by
  show (if v < 0 then max (v + (n : Int)) 0 else min v (n : Int)) = (((if v < 0 then (v + (n : Int)).toNat else min v.toNat n) : Nat) : Int)
  by_cases hv : v < 0
  · simp only [if_pos hv]; omega
  · simp only [if_neg hv]; omega
theorem adjust_gen (lo hi : Option Int) (n : Nat) : Builtin.Slice.sliceAdjust lo hi 1 (n : Int) = (((sIx n 0 lo : Nat) : Int), ((sIx n n hi : Nat) : Int)) := by
  have h1 : ¬ ((1 : Int) < 0) := by omega
  unfold Builtin.Slice.sliceAdjust
  simp only [h1, if_false]
  refine Prod.ext ?_ ?_
  · cases lo with
    | none => rfl
    | some v => exact clip_eq v n 0
  · cases hi with
    | none => rfl
    | some v => exact clip_eq v n n
theorem places_gen (i j : Nat) : Builtin.Slice.slicePlaces (i : Int) (j : Int) 1 = j - i := by
  unfold Builtin.Slice.slicePlaces
  have h1 : (1 : Int) > 0 := by omega
  simp only [h1, if_true, Int.ediv_one]
  split <;> omega
theorem slicePart_ {v : Value} {o : Option Int} {Q : Option Int → Shared → Prop} (p : IsPart v o) (h : Q o s) : wpAny (model prog w) A (Builtin.Slice.slicePartIndex v) Q E s := by
  cases p with
  | none => exact slicePart_none h
  | int i t => exact slicePart_int h
theorem sliceApplied_gen {sl : Addr} {vl vu : Value} {lo hi : Option Int} {n : Nat} {Q : Int × Int × Nat → Shared → Prop} (hs : s.heap.IsSliceOf sl vl vu .none) (pl : IsPart vl lo) (pu : IsPart vu hi)
    (h : Q (((sIx n 0 lo : Nat) : Int), 1, sIx n n hi - sIx n 0 lo) s) : wpAny (model prog w) A (Builtin.Slice.sliceApplied (.ref sl) (pure (n : Int))) Q E s := by
  obtain ⟨os, hos, hcs, hds⟩ := id hs
  unfold Builtin.Slice.sliceApplied Builtin.Slice.sliceFields
  refine wpAny_bind (wpAny_bind (wpAny_field hos hds (x := vl) rfl (wpAny_bind (wpAny_field hos hds (x := vu) rfl (wpAny_bind (wpAny_field hos hds (x := .none) rfl (wpAny_pure ?_)))))))
  refine wpAny_bind (slicePart_none ?_)
  show wpAny _ _ (if ((1 : Int) == 0) = true then _ else _) _ _ s
  rw [if_neg (by decide)]
  refine wpAny_bind (slicePart_ pl (wpAny_bind (slicePart_ pu (wpAny_bind (wpAny_pure ?_)))))
  show wpAny _ _ (match Builtin.Slice.sliceAdjust lo hi 1 (n : Int) with | (lo, hi) => pure (lo, (1 : Int), Builtin.Slice.slicePlaces lo hi 1)) _ _ s
  rw [adjust_gen lo hi n]
  show wpAny _ _ (pure (((sIx n 0 lo : Nat) : Int), (1 : Int), Builtin.Slice.slicePlaces ((sIx n 0 lo : Nat) : Int) ((sIx n n hi : Nat) : Int) 1)) _ _ s
  rw [places_gen]
  exact wpAny_pure h
theorem pick_gen (xs : Array Value) (i k : Nat) : ((List.range k).filterMap fun (m : Nat) => xs[((i : Int) + (m : Int) * 1).toNat]?).toArray = ((xs.toList.drop i).take k).toArray := by
  have e : (fun (m : Nat) => xs[((i : Int) + (m : Int) * 1).toNat]?) = fun m => xs[i + m]? := by
    funext m
    have : ((i : Int) + (m : Int) * 1).toNat = i + m := by omega
    rw [this]
  rw [e]
  have := pick_run xs i k
  rw [List.filterMap_map] at this
  have e2 : ((fun x => xs[x]?) ∘ fun x => i + x) = fun m => xs[i + m]? := rfl
  rw [e2] at this
  rw [this]

theorem getItem_tuple_cut {t sl : Addr} {items : Array Value} {vl vu : Value} {lo hi : Option Int} {Q : Value → Shared → Prop} (ht : IsTup s.heap t items) (hs : s.heap.IsSliceOf sl vl vu .none) (pl : IsPart vl lo) (pu : IsPart vu hi)
    (hw : ¬ (sIx items.size 0 lo = 0 ∧ sIx items.size items.size hi = items.size))
    (h : Q (.ref s.heap.objs.size) { s with heap := s.heap.push { cls := .type "tuple", data := .seq ((items.toList.drop (sIx items.size 0 lo)).take (sIx items.size items.size hi - sIx items.size 0 lo)).toArray } })
    (hsz : items.size ≤ sizeLine) : wpAny (model prog w) A (getItem (.ref t) (.ref sl)) Q E s := by
  have htake : sizeOk (.seq ((items.toList.drop (sIx items.size 0 lo)).take (sIx items.size items.size hi - sIx items.size 0 lo)).toArray) := by
    show ((items.toList.drop (sIx items.size 0 lo)).take (sIx items.size items.size hi - sIx items.size 0 lo)).toArray.size ≤ sizeLine
    rw [List.size_toArray, List.length_take, List.length_drop, Array.length_toList]
    omega
  have hj : sIx items.size items.size hi ≤ items.size := sIx_le _ _ (Nat.le_refl _) hi
  obtain ⟨os, hos, hcs, hds⟩ := id hs
  have hTs : s.TypeIs (.ref sl) "slice" := ⟨os, hos, hcs⟩
  unfold getItem
  try with_reducible refine wpAny_holding ?_
  first | refine wpAny_bind (wpAny_pure ?_) | skip
  refine wpAny_bind (wpAny_sequenceKey ht.typeIs (by decide) ?_)
  refine wpAny_bind (wpAny_callSpecial?_slot (name := Str.ofString "__getitem__") ht.typeIs PyProof.Rows.slot_tuple_getitem
    (wpAny_call_entry PyProof.Rows.slot_tuple_getitem ht.typeIs entry_tuple_getitem ?_ (args_tuple_getitem _ _)))
  show wpAny _ _ (Builtin.Tuple.tupleItemsOf (.ref t) >>= _) _ _ s
  refine wpAny_bind (tupleItemsOf_ ht ?_)
  refine wpAny_bind (wpAny_typeOf hTs ?_)
  rw [if_pos (by decide)]
  refine wpAny_bind (sliceApplied_gen hs pl pu ?_)
  have hno : ¬ ((((sIx items.size 0 lo : Nat) : Int) == 0 && (1 : Int) == 1 && (sIx items.size items.size hi - sIx items.size 0 lo) == items.size) = true) := by
    intro q
    rw [Bool.and_eq_true, Bool.and_eq_true] at q
    have q1 : ((sIx items.size 0 lo : Nat) : Int) = 0 := eq_of_beq q.1.1
    have q2 : sIx items.size items.size hi - sIx items.size 0 lo = items.size := eq_of_beq q.2
    exact hw ⟨by omega, by omega⟩
  show wpAny _ _ (if (((sIx items.size 0 lo : Nat) : Int) == 0 && (1 : Int) == 1 && (sIx items.size items.size hi - sIx items.size 0 lo) == items.size) = true then _ else _) _ _ s
  rw [if_neg hno, pick_gen]
  first
    | exact wpAny_bind (m := Builtin.Tuple.tupleExact _) (wpAny_newObj_type (wpAny_pure ⟨_, rfl, wpAny_pure h⟩) htake)
    | exact wpAny_bind (m := Builtin.Tuple.tupleExact _) (wpAny_newObj_type (wpAny_bind (wpAny_pure (wpAny_pure ⟨_, rfl, wpAny_pure h⟩))) htake)
    | exact wpAny_bind (wpAny_bind (m := Builtin.Tuple.tupleExact _) (wpAny_newObj_type (wpAny_pure (wpAny_pure ⟨_, rfl, wpAny_pure h⟩)) htake))
    | exact wpAny_bind (wpAny_bind (m := Builtin.Tuple.tupleExact _) (wpAny_newObj_type (wpAny_pure ⟨_, rfl, wpAny_pure h⟩) htake))
end
end HT

namespace L2
open PySem PySem.Spec PyProof.Rows

/-! ### the parts of a slice -/
abbrev TO := St → Hp → (Option Int → Hp → Prop) → Prop
def PO (X : Cx) (e : Option Expr) (t : TO) : Prop :=
  ∀ (pins : List (Addr × Obj)) (s : Shared) (σ : St) (H : Hp) (Q : Option Int → Hp → Prop), Inv X pins σ H s → t σ H Q →
    wpAny (model X.prog X.w) X.A (evalPart e X.env) (fun u s' => ∃ o H', Inv X pins σ H' s' ∧ IsPart u o ∧ Q o H') X.xe s
def tNoPart : TO := fun _ H Q => Q none H
def tPart (t : TE) : TO := fun σ H Q => t σ H fun x H1 => ∃ i, x = .int i ∧ Q (some i) H1

section
variable {X : Cx} {e : Expr} {te : TE} {lo hi : Option Expr} {tl th : TO} {pos p2 : Pos}

theorem po_none : PO X none tNoPart := by
  intro pins s σ H Q I h
  rw [evalPart_none]
  exact wpAny_pure ⟨none, H, I, .none, h⟩
theorem po_some (h : PE X e te) : PO X (some e) (tPart te) := by
  intro pins s σ H Q I hw
  rw [evalPart_some]
  refine thn (h pins s σ H _ I hw) fun u s1 ⟨x, H1, I1, r1, q1⟩ => ?_
  obtain ⟨i, rfl, q⟩ := q1
  obtain ⟨t, rfl⟩ := r1
  exact ⟨some i, H1, I1, .int i t, q⟩

def SlR (X : Cx) (r : V → Option Int → Option Int → Hp → VK → Prop) : Prop :=
  ∀ (pins : List (Addr × Obj)) (s : Shared) (σ : St) (H : Hp) (x : V) (v vl vu : Value) (lo hi : Option Int) (sl : Addr) (Q : VK), Inv X pins σ H s → RelV x v → s.heap.IsSliceOf sl vl vu .none → IsPart vl lo → IsPart vu hi → r x lo hi H Q →
    ∃ T id, typeLookup (.type T) "__getitem__" = pure (some (.builtin id)) ∧ s.TypeIs v T ∧ wpAny (model X.prog X.w) X.A (getItem v (.ref sl)) (EP X pins σ Q) X.xe s
theorem SlR.or {r r' : V → Option Int → Option Int → Hp → VK → Prop} (h : SlR X r) (h' : SlR X r') : SlR X (fun x lo hi H Q => r x lo hi H Q ∨ r' x lo hi H Q) := by
  intro pins s σ H x v vl vu lo hi sl Q I rx hs pl pu q
  rcases q with q | q
  · exact h pins s σ H x v vl vu lo hi sl Q I rx hs pl pu q
  · exact h' pins s σ H x v vl vu lo hi sl Q I rx hs pl pu q
def tSl (r : V → Option Int → Option Int → Hp → VK → Prop) (te : TE) (tl th : TO) : TE := fun σ H Q => te σ H fun x H1 => tl σ H1 fun l H2 => th σ H2 fun u H3 => r x l u H3 Q
theorem pe_slice {r : V → Option Int → Option Int → Hp → VK → Prop} (hr : SlR X r) (he : PE X e te) (hl : PO X lo tl) (hu : PO X hi th) : PE X (.Subscript e (.Slice lo hi none p2) pos) (tSl r te tl th) := by
  intro pins s σ H Q I h
  refine Subscript_ (thn (he pins s σ H _ I h) fun v s1 ⟨x, H1, I1, r1, q1⟩ => ?_)
  refine wpAny_Slice (thn (hl pins s1 σ H1 _ I1 q1) fun vl s2 ⟨l, H2, I2, pl, q2⟩ => thn (hu pins s2 σ H2 _ I2 q2) fun vu s3 ⟨u, H3, I3, pu, q3⟩ => ?_)
  rw [evalPart_none]
  refine wpAny_pure ?_
  have I4 : Inv X pins σ H3 { s3 with heap := s3.heap.push { cls := .type "slice", data := .fields #[vl, vu, .none] } } := I3.kept (t' := s3.toks) fun b ob q => Heap.get?_push_of_some _ q
  obtain ⟨T, id, hT, ht, hg⟩ := hr pins { s3 with heap := s3.heap.push { cls := .type "slice", data := .fields #[vl, vu, .none] } } σ H3 x v vl vu l u s3.heap.objs.size Q I4 r1 (Heap.IsSliceOf.new ..) pl pu q3
  show wpAny (model X.prog X.w) X.A (subscriptTail e (.Slice lo hi none p2) v (.ref s3.heap.objs.size)) (EP X pins σ Q) X.xe { s3 with heap := s3.heap.push { cls := .type "slice", data := .fields #[vl, vu, .none] } }
  exact tail_any (ops := [.ref s3.heap.objs.size, v]) ht hT hg (by with_unfolding_all rfl)

def cutV (xs : List V) (lo hi : Option Int) : List V := (xs.drop (HT.sIx xs.length 0 lo)).take (HT.sIx xs.length xs.length hi - HT.sIx xs.length 0 lo)
theorem cutV_length (xs : List V) (lo hi : Option Int) : (cutV xs lo hi).length ≤ xs.length := by
  unfold cutV
  rw [List.length_take, List.length_drop]
  omega
def rSlT (K : PySem.W.Frag) : V → Option Int → Option Int → Hp → VK → Prop := fun x lo hi H Q => ∃ a xs, x = .ref a ∧ SqT K H a xs ∧
  ¬ (HT.sIx xs.length 0 lo = 0 ∧ HT.sIx xs.length xs.length hi = xs.length) ∧ ∀ p, H p = none → Q (.ref p) (upd H p (.tup (cutV xs lo hi)))
theorem sl_tup : SlR X (rSlT X.K) := by
  intro pins s σ H x v vl vu lo hi sl Q I rx hs pl pu h
  obtain ⟨a, xs, rfl, hx, hw, q⟩ := h
  cases rx
  obtain ⟨its, r, ht, hz⟩ := I.tuple hx
  have hlen : its.toArray.size = xs.length := by rw [List.size_toArray]; exact r.length.symm
  refine ⟨"tuple", _, PyProof.Rows.slot_tuple_getitem.lookup, ht.typeIs, ?_⟩
  refine HT.getItem_tuple_cut ht hs pl pu (by rw [hlen]; exact hw) ?_ (by rw [hlen]; exact hz)
  rw [hlen]
  refine ⟨.ref s.heap.objs.size, _, I.laid (t' := s.toks) (o := .tup (cutV xs lo hi)) (fun b ob q => Heap.get?_push_of_some _ q) (Nat.le_refl _) ?_, rfl, q _ (I.hok.fresh (Nat.le_refl _))⟩
  exact ⟨Nat.le_trans (cutV_length xs lo hi) hz, _, (r.drop (HT.sIx xs.length 0 lo)).take (HT.sIx xs.length xs.length hi - HT.sIx xs.length 0 lo), IsTup.new _ _⟩

/-! ### t < u, t + u -/
def rLtT (K : PySem.W.Frag) : R2 := fun x y H Q => ∃ a b ns ms, x = .ref a ∧ y = .ref b ∧ SqT K H a (ns.map V.int) ∧ SqT K H b (ms.map V.int) ∧ Q (.bl (HT.lexLt ns ms)) H
def rCatT (K : PySem.W.Frag) : R2 := fun x y H Q => ∃ a b xs ys, x = .ref a ∧ y = .ref b ∧ SqT K H a xs ∧ SqT K H b ys ∧ xs ≠ [] ∧ xs.length + ys.length ≤ sizeLine ∧
  (ys = [] → Q (.ref a) H) ∧ (ys ≠ [] → ∀ p, H p = none → Q (.ref p) (upd H p (.tup (xs ++ ys))))
theorem Vals.nil_iff {xs : List V} {us : List Value} (r : Vals xs us) : us = [] ↔ xs = [] := by
  cases r with
  | nil => simp
  | cons _ _ => simp
theorem op_catT : OpR X (binaryOp .Add) (rCatT X.K) := by
  intro pins s σ H x y v u Q I rx ry h
  obtain ⟨a, b, xs, ys, rfl, rfl, ha, hb, hx, hz, q1, q2⟩ := h
  cases rx
  cases ry
  obtain ⟨its, r1, p1, _⟩ := I.tuple ha
  obtain ⟨its2, r2, p2, _⟩ := I.tuple hb
  refine HT.cat_tup p1 p2 (fun z => hx (r1.nil_iff.mp z)) (fun z => ⟨.ref a, H, I, rfl, q1 (r2.nil_iff.mp z)⟩) (fun z => ?_) (by rw [← r1.length, ← r2.length]; exact hz)
  refine ⟨.ref s.heap.objs.size, _, I.laid (t' := s.toks) (o := .tup (xs ++ ys)) (fun b ob q => Heap.get?_push_of_some _ q) (Nat.le_refl _) ?_, rfl, q2 (fun w => z (r2.nil_iff.mpr w)) _ (I.hok.fresh (Nat.le_refl _))⟩
  exact ⟨by rw [List.length_append]; exact hz, _, r1.append r2, IsTup.new _ _⟩
end
end L2

namespace L2
open PySem PySem.Spec PyProof.Rows

/-! ### places -/
def ixN (n : Nat) (i : Int) : Option Nat := if 0 ≤ i then (if i < n then some i.toNat else none) else if -(n : Int) ≤ i then some (i + n).toNat else none
def atI {α : Type} (xs : List α) (i : Int) : Option α := (ixN xs.length i).bind fun j => xs[j]?
theorem ixN_seq {n : Nat} {i : Int} {j : Nat} (h : ixN n i = some j) : seqIndex? i n = some j ∧ j < n ∧ -(n : Int) ≤ i ∧ i < n := by
  unfold ixN at h
  by_cases h0 : 0 ≤ i
  · rw [if_pos h0] at h
    by_cases h1 : i < n
    · rw [if_pos h1] at h
      have e : i.toNat = j := Option.some.inj h
      exact ⟨by rw [seqIndex_of h0 h1, e], by omega, by omega, h1⟩
    · rw [if_neg h1] at h; cases h
  · rw [if_neg h0] at h
    by_cases h1 : -(n : Int) ≤ i
    · rw [if_pos h1] at h
      have e : (i + n).toNat = j := Option.some.inj h
      exact ⟨by rw [seqIndex_neg (by omega) h1, e], by omega, h1, by omega⟩
    · rw [if_neg h1] at h; cases h
theorem atI_get {α : Type} {xs : List α} {i : Int} {v : α} (h : atI xs i = some v) : ∃ j, seqIndex? i xs.length = some j ∧ xs[j]? = some v ∧ j < xs.length ∧ -(xs.length : Int) ≤ i ∧ i < xs.length := by
  unfold atI at h
  cases e : ixN xs.length i with
  | none => rw [e] at h; cases h
  | some j =>
    rw [e] at h
    obtain ⟨h1, h2, h3, h4⟩ := ixN_seq e
    exact ⟨j, h1, h, h2, h3, h4⟩
theorem atI_nat {α : Type} {xs : List α} {j : Nat} {v : α} (h : xs[j]? = some v) : atI xs (j : Int) = some v := by
  have hj : j < xs.length := (List.getElem?_eq_some_iff.mp h).1
  have e : ixN xs.length (j : Int) = some j := by
    unfold ixN
    rw [if_pos (by omega), if_pos (by omega)]; simp
  unfold atI; rw [e]; exact h
theorem atI_last {α : Type} (xs : List α) (v : α) : atI (xs ++ [v]) (-1) = some v := by
  have hl : (xs ++ [v]).length = xs.length + 1 := by simp
  have e : ixN (xs ++ [v]).length (-1) = some xs.length := by
    unfold ixN
    rw [hl, if_neg (by decide), if_pos (by omega)]
    congr 1
    omega
  unfold atI
  rw [e]
  show (xs ++ [v])[xs.length]? = some v
  simp

/-! ### what may be subscripted -/
def PlainIx (b : Expr) : Prop := ∀ o i, subscripted b false o i = operate [o, i] (getItem o i)
def IxR (X : Cx) (r : R2) : Prop :=
  ∀ (value slice : Expr) (pins : List (Addr × Obj)) (s : Shared) (σ : St) (H : Hp) (x y : V) (v u : Value) (Q : VK), Inv X pins σ H s → RelV x v → RelV y u → r x y H Q →
    subscripted slice false v u = operate [v, u] (getItem v u) → wpAny (model X.prog X.w) X.A (subscriptTail value slice v u) (EP X pins σ Q) X.xe s
def MtR (X : Cx) (id : String) (r : V → List V → Hp → VK → Prop) : Prop :=
  ∀ (pins : List (Addr × Obj)) (s : Shared) (σ : St) (H : Hp) (x : V) (xs : List V) (v : Value) (us : List Value) (Q : VK), Inv X pins σ H s → RelV x v → Vals xs us → r x xs H Q →
    wpAny (model X.prog X.w) X.A (call (.builtin id) (v :: us)) (EP X pins σ Q) X.xe s
section
variable {X : Cx} {a b : Expr} {ta tb : TE} {pos : Pos}
theorem IxR.or {r r' : R2} (h : IxR X r) (h' : IxR X r') : IxR X (fun x y H Q => r x y H Q ∨ r' x y H Q) := by
  intro value slice pins s σ H x y v u Q I rx ry q hs
  rcases q with q | q
  · exact h value slice pins s σ H x y v u Q I rx ry q hs
  · exact h' value slice pins s σ H x y v u Q I rx ry q hs
theorem MtR.or {id : String} {r r' : V → List V → Hp → VK → Prop} (h : MtR X id r) (h' : MtR X id r') : MtR X id (fun x xs H Q => r x xs H Q ∨ r' x xs H Q) := by
  intro pins s σ H x xs v us Q I rx rs q
  rcases q with q | q
  · exact h pins s σ H x xs v us Q I rx rs q
  · exact h' pins s σ H x xs v us Q I rx rs q
theorem pe_ix {r : R2} (hr : IxR X r) (ha : PE X a ta) (hb : PE X b tb) (hs : PlainIx b) : PE X (.Subscript a b pos) (tOp r ta tb) := by
  intro pins s σ H Q I h
  exact Subscript_ (binT ha hb I h fun v u s2 x y H2 I2 rx ry q => hr a b pins s2 σ H2 x y v u Q I2 rx ry q (hs _ _))

def rIxL (K : PySem.W.Frag) : R2 := fun x y H Q => ∃ p xs i v, x = .ref p ∧ y = .int i ∧ SqL K H p xs ∧ atI xs i = some v ∧ Q v H
def rIxT (K : PySem.W.Frag) : R2 := fun x y H Q => ∃ p xs i v, x = .ref p ∧ y = .int i ∧ SqT K H p xs ∧ atI xs i = some v ∧ Q v H
def rIxS : R2 := fun x y H Q => ∃ z i c, x = .str z ∧ y = .int i ∧ z.length ≤ sizeLine ∧ atI z.cps.toList i = some c ∧ Q (.str ⟨#[c]⟩) H
theorem ix_list : IxR X (rIxL X.K) := by
  intro value slice pins s σ H x y v u Q I rx ry h hs
  obtain ⟨p, xs, i, z, rfl, rfl, hq, he, q⟩ := h
  cases rx
  obtain ⟨t, rfl⟩ := ry
  obtain ⟨its, r, pl, hz⟩ := I.list hq
  obtain ⟨j, h1, h2, h3, h4, h5⟩ := atI_get he
  obtain ⟨w, ew, rw'⟩ := r.get h2
  have hl := r.length
  have hn := line63
  have fin : EP X pins σ Q w s := ⟨z, H, I, rw', q⟩
  by_cases h0 : 0 ≤ i
  · have hj : i.toNat = j := by
      rw [seqIndex_of h0 h5] at h1
      exact Option.some.inj h1
    exact item_listR pl.isList h0 (by omega) (by rw [hj]; simpa using ew) fin hs
  · have hj : (i + (its.toArray.size : Int)).toNat = j := by
      rw [seqIndex_neg (by omega) h4] at h1
      rw [List.size_toArray, ← hl]
      exact Option.some.inj h1
    exact subscriptTail_builtinR (x := w) pl.isList.typeIs slot_list_getitem.lookup
      (wpAny_getItem_list_neg (Q := fun r s' => r = w ∧ EP X pins σ Q r s') pl.isList (by omega) (by rw [List.size_toArray] <;> omega) (by omega) (by rw [hj]; simpa using ew) ⟨rfl, fin⟩) hs
theorem ix_tup : IxR X (rIxT X.K) := by
  intro value slice pins s σ H x y v u Q I rx ry h hs
  obtain ⟨p, xs, i, z, rfl, rfl, hq, he, q⟩ := h
  cases rx
  obtain ⟨t, rfl⟩ := ry
  obtain ⟨its, r, pl, hz⟩ := I.tuple hq
  obtain ⟨j, h1, h2, h3, h4, h5⟩ := atI_get he
  obtain ⟨w, ew, rw'⟩ := r.get h2
  have hl := r.length
  have hn := line63
  have fin : EP X pins σ Q w s := ⟨z, H, I, rw', q⟩
  exact subscriptTail_builtinR (x := w) pl.typeIs slot_tuple_getitem.lookup
    (getItem_tuple (j := j) (Q := fun r s' => r = w ∧ EP X pins σ Q r s') pl (by omega) (by omega) (by rw [List.size_toArray, ← hl]; exact h1) (by simpa using ew) ⟨rfl, fin⟩) hs
theorem ix_str : IxR X rIxS := by
  intro value slice pins s σ H x y v u Q I rx ry h hs
  obtain ⟨z, i, c, rfl, rfl, hz, he, q⟩ := h
  obtain ⟨t, rfl⟩ := rx
  obtain ⟨t', rfl⟩ := ry
  obtain ⟨j, h1, h2, h3, h4, h5⟩ := atI_get he
  have hl : z.cps.toList.length = z.length := by simp [Str.length]
  rw [hl] at h1 h4 h5
  have hn := line63
  exact tail_any (typeIs_str s z t) slot_str_getitem.lookup (getItem_str (c := c) (by
    have e1 : decide (i < -(2 ^ 63 : Int)) = false := decide_eq_false (by omega)
    have e2 : decide (i ≥ 2 ^ 63) = false := decide_eq_false (by omega)
    rw [e1, e2, Bool.or_false]) (by rw [h1]; simpa using h2) ⟨.str ⟨#[c]⟩, H, I.tok _, ⟨_, rfl⟩, q⟩) hs
/-! ### xs[i] = v, any sign -/
theorem mapSeq_set (its : List Value) (n j : Nat) (u : Value) : Obj.mapSeq (·.setIfInBounds j u) { cls := .type "list", data := .seq its.toArray n } = { cls := .type "list", data := .seq (its.set j u).toArray n } := by
  simp [Obj.mapSeq]
theorem Inv.lst {pins : List (Addr × Obj)} {σ : St} {H : Hp} {s : Shared} {p : Addr} {xs : List V} (I : Inv X pins σ H s) (h : H p = some (.lst xs)) :
    ∃ (its : List Value) (n : Nat), Vals xs its ∧ s.heap.get? p = some { cls := .type "list", data := .seq its.toArray n } ∧ xs.length ≤ sizeLine := by
  obtain ⟨z, its, n, r, e⟩ := I.hok p _ h
  exact ⟨its, n, r, e, z⟩
theorem Inv.lstUpd {pins : List (Addr × Obj)} {σ : St} {H : Hp} {s : Shared} {p : Addr} {xs ys : List V} {its its' : List Value} {n n' : Nat} {f : Obj → Obj} (I : Inv X pins σ H s) (h : H p = some (.lst xs))
    (ho : s.heap.get? p = some { cls := .type "list", data := .seq its.toArray n }) (hf : f { cls := .type "list", data := .seq its.toArray n } = { cls := .type "list", data := .seq its'.toArray n' }) (r : Vals ys its') (hz : ys.length ≤ sizeLine) (t : Nat) :
    Inv X pins σ (upd H p (.lst ys)) { s with heap := s.heap.update p f, toks := t } := by
  have e : (s.heap.update p f).get? p = some { cls := .type "list", data := .seq its'.toArray n' } := by
    rw [Heap.get?_update_self f ho (by rw [hf] <;> rfl), hf]
  refine I.write (x := p) (e := p) (by rw [h]; trivial) (.inl rfl) (fun b u hb q => (Heap.get?_update_other _ _ (Ne.symm hb)).trans q) ⟨_, e⟩ ?_
  exact ⟨hz, its', n', r, e⟩
def rSetL : V → V → V → Hp → (Hp → Prop) → Prop := fun o i v H Q => ∃ p xs k j, o = .ref p ∧ i = .int k ∧ H p = some (.lst xs) ∧ ixN xs.length k = some j ∧ Q (upd H p (.lst (xs.set j v)))
theorem set_list : PSet X rSetL := by
  intro pins s σ H o i v ov iv u Q I ro ri rv h
  obtain ⟨p, xs, k, j, rfl, rfl, hp, hj, q⟩ := h
  cases ro
  obtain ⟨t, rfl⟩ := ri
  obtain ⟨its, n, r, ho, hz⟩ := I.lst hp
  obtain ⟨h1, h2, h3, h4⟩ := ixN_seq hj
  have hl := r.length
  have hn := line63
  have I' : Inv X pins σ (upd H p (.lst (xs.set j v))) { s with heap := s.heap.update p (Obj.mapSeq (·.setIfInBounds j u)) } :=
    I.lstUpd hp ho (mapSeq_set its n j u) (r.set rv j) (by rw [List.length_set]; exact hz) s.toks
  by_cases h0 : 0 ≤ k
  · have hk : k.toNat = j := by
      rw [seqIndex_of h0 h4] at h1
      exact Option.some.inj h1
    exact PySem.W.ki_setAt ho h0 (by omega) (by rw [List.size_toArray, ← hl]; exact h4) (by rw [hk]; exact ⟨_, I', q⟩)
  · have hk : (k + (its.toArray.size : Int)).toNat = j := by
      rw [seqIndex_neg (by omega) h3] at h1
      rw [List.size_toArray, ← hl]
      exact Option.some.inj h1
    exact PySem.W.ki_setBack ho (by omega) (by rw [List.size_toArray, ← hl]; exact h3) (by omega) (by rw [hk]; exact ⟨_, I', q⟩)

/-! ### slices -/
theorem slice_bounds (lo hi : Option Int) (n : Nat) : (sliceBounds lo hi none n).1 = ((HT.sIx n 0 lo : Nat) : Int) ∧ (sliceBounds lo hi none n).2.1 = ((HT.sIx n n hi : Nat) : Int) ∧ (sliceBounds lo hi none n).2.2 = 1 := by
  refine ⟨?_, ?_, rfl⟩
  · cases lo with
    | none => simp [sliceBounds, HT.sIx]
    | some i =>
      simp only [sliceBounds, HT.sIx, Option.getD_none, show (1 : Int) > 0 by decide, if_true]
      by_cases h : i < 0
      · simp only [h, if_true] <;> omega
      · simp only [h, if_false] <;> omega
  · cases hi with
    | none => simp [sliceBounds, HT.sIx]
    | some i =>
      simp only [sliceBounds, HT.sIx, Option.getD_none, show (1 : Int) > 0 by decide, if_true]
      by_cases h : i < 0
      · simp only [h, if_true] <;> omega
      · simp only [h, if_false] <;> omega
theorem slicePick_cut (its : List Value) (lo hi : Option Int) : slicePick its.toArray lo hi none = ((its.drop (HT.sIx its.length 0 lo)).take (HT.sIx its.length its.length hi - HT.sIx its.length 0 lo)).toArray := by
  obtain ⟨h1, h2, h3⟩ := slice_bounds lo hi its.toArray.size
  unfold slicePick
  rw [h1, h2, h3]
  simp only [sliceRange_one, pick_run, List.size_toArray] <;> rfl
def rSlL (K : PySem.W.Frag) : V → Option Int → Option Int → Hp → VK → Prop := fun x lo hi H Q => ∃ a xs, x = .ref a ∧ SqL K H a xs ∧ ∀ p, H p = none → Q (.ref p) (upd H p (.lst (cutV xs lo hi)))
theorem sl_list : SlR X (rSlL X.K) := by
  intro pins s σ H x v vl vu lo hi sl Q I rx hs pl pu h
  obtain ⟨a, xs, rfl, hx, q⟩ := h
  cases rx
  obtain ⟨its, r, ht, hz⟩ := I.list hx
  have hlen := r.length
  refine ⟨"list", _, slot_list_getitem.lookup, ht.isList.typeIs, ?_⟩
  refine wpAny_getItem_list_slice ht.isList hs pl pu .none (by simp) ?_ (by rw [List.size_toArray] <;> omega)
  rw [slicePick_cut, ← hlen]
  refine ⟨.ref s.heap.objs.size, _, I.laid (t' := s.toks) (o := .lst (cutV xs lo hi)) (fun b ob q => Heap.get?_push_of_some _ q) (Nat.le_refl _) ?_, rfl, q _ (I.hok.fresh (Nat.le_refl _))⟩
  exact ⟨Nat.le_trans (cutV_length xs lo hi) hz, _, 0, (r.drop (HT.sIx xs.length 0 lo)).take (HT.sIx xs.length xs.length hi - HT.sIx xs.length 0 lo), Heap.get?_push_size _ rfl⟩

/-! ### in, not in: flat items -/
def flatV : V → Bool
  | .non => true
  | .bl _ => true
  | .int _ => true
  | .str _ => true
  | _ => false
def eqV : V → V → Bool
  | .non, .non => true
  | .bl a, .bl b => a == b
  | .bl a, .int b => (if a then 1 else 0) == b
  | .int a, .bl b => a == (if b then 1 else 0)
  | .int a, .int b => a == b
  | .str a, .str b => a == b
  | _, _ => false
theorem eqAt_V {A : Around} {s : Shared} {y x : V} {u v : Value} (ry : RelV y u) (rx : RelV x v) (fy : flatV y = true) (fx : flatV x = true) : SeqAt.EqAt A s u v (eqV y x) := by
  cases y with
  | non =>
    cases ry
    cases x with
    | non => cases rx; exact SeqAt.EqAt.same _
    | bl b => cases rx; exact SeqAt.EqAt.none_bool b
    | int b => obtain ⟨t, rfl⟩ := rx; exact SeqAt.EqAt.none_int b t
    | str b => obtain ⟨t, rfl⟩ := rx; exact SeqAt.EqAt.none_str b t
    | _ => exact absurd (show false = true from fx) Bool.false_ne_true
  | bl a =>
    cases ry
    cases x with
    | non => cases rx; exact SeqAt.EqAt.bool_none a
    | bl b => cases rx; exact SeqAt.EqAt.bool_bool a b
    | int b => obtain ⟨t, rfl⟩ := rx; exact SeqAt.EqAt.bool_int a b t
    | str b => obtain ⟨t, rfl⟩ := rx; exact SeqAt.EqAt.bool_str a b t
    | _ => exact absurd (show false = true from fx) Bool.false_ne_true
  | int a =>
    obtain ⟨t', rfl⟩ := ry
    cases x with
    | non => cases rx; exact SeqAt.EqAt.int_none a t'
    | bl b => cases rx; exact SeqAt.EqAt.int_bool a t' b
    | int b => obtain ⟨t, rfl⟩ := rx; exact SeqAt.EqAt.int_int a t' b t
    | str b => obtain ⟨t, rfl⟩ := rx; exact SeqAt.EqAt.int_str a t' b t
    | _ => exact absurd (show false = true from fx) Bool.false_ne_true
  | str a =>
    obtain ⟨t', rfl⟩ := ry
    cases x with
    | non => cases rx; exact SeqAt.EqAt.str_none a t'
    | bl b => cases rx; exact SeqAt.EqAt.str_bool a t' b
    | int b => obtain ⟨t, rfl⟩ := rx; exact SeqAt.EqAt.str_int a t' b t
    | str b => obtain ⟨t, rfl⟩ := rx; exact SeqAt.EqAt.str_str a t' b t
    | _ => exact absurd (show false = true from fx) Bool.false_ne_true
  | _ => exact absurd (show false = true from fy) Bool.false_ne_true
def eqU (x : V) (u : Value) : Bool := match u with
  | .none => eqV .non x
  | .bool b => eqV (.bl b) x
  | .int i _ => eqV (.int i) x
  | .str z _ => eqV (.str z) x
  | _ => false
theorem eqU_of {x y : V} {u : Value} (r : RelV y u) (f : flatV y = true) : eqU x u = eqV y x := by
  cases y with
  | non => cases r; rfl
  | bl b => cases r; rfl
  | int i => obtain ⟨t, rfl⟩ := r; rfl
  | str z => obtain ⟨t, rfl⟩ := r; rfl
  | _ => exact absurd (show false = true from f) Bool.false_ne_true
theorem any_eqU {x : V} : ∀ {xs : List V} {us : List Value}, Vals xs us → xs.all flatV = true → us.any (eqU x) = xs.any fun y => eqV y x
  | _, _, .nil, _ => rfl
  | y :: xs, u :: us, .cons r t, f => by
    rw [List.all_cons, Bool.and_eq_true] at f
    rw [List.any_cons, List.any_cons, eqU_of r f.1, any_eqU t f.2]
theorem mem_eqAt {A : Around} {s : Shared} {x : V} {v : Value} (rx : RelV x v) (fx : flatV x = true) : ∀ {xs : List V} {us : List Value}, Vals xs us → xs.all flatV = true → ∀ u ∈ us, SeqAt.EqAt A s u v (eqU x u)
  | _, _, .nil, _ => fun u hu => by cases hu
  | y :: xs, u :: us, .cons r t, f => fun u' hu => by
    rw [List.all_cons, Bool.and_eq_true] at f
    rcases List.mem_cons.mp hu with rfl | hu
    · rw [eqU_of r f.1]; exact eqAt_V r rx f.1 fx
    · exact mem_eqAt rx fx t f.2 u' hu
def inV (x : V) (xs : List V) : Bool := xs.any fun y => eqV y x
def rIn (K : PySem.W.Frag) (neg : Bool) : R2 := fun x y H Q => ∃ p xs, y = .ref p ∧ (SqL K H p xs ∨ SqT K H p xs) ∧ flatV x = true ∧ xs.all flatV = true ∧ Q (.bl (if neg then !inV x xs else inV x xs)) H
theorem op_in_seq : OpR X (compareOp .In) (rIn X.K false) := by
  intro pins s σ H x y v u Q I rx ry h
  obtain ⟨p, xs, rfl, hq, fx, fs, q⟩ := h
  cases ry
  rcases hq with hq | hq
  · obtain ⟨its, r, pl, hz⟩ := I.list hq
    refine SeqAt.in_listAt (eqU x) pl.isList (fun w hw => mem_eqAt rx fx r fs w (by simpa using hw)) ⟨.bl _, H, I, rfl, ?_⟩
    rw [show its.toArray.any (eqU x) = its.any (eqU x) by simp, any_eqU r fs]
    exact q
  · obtain ⟨its, r, pl, hz⟩ := I.tuple hq
    refine SeqAt.in_tupleAt (eqU x) pl (fun w hw => mem_eqAt rx fx r fs w (by simpa using hw)) ⟨.bl _, H, I, rfl, ?_⟩
    rw [show its.toArray.any (eqU x) = its.any (eqU x) by simp, any_eqU r fs]
    exact q
theorem op_notIn_seq : OpR X (compareOp .NotIn) (rIn X.K true) := by
  intro pins s σ H x y v u Q I rx ry h
  obtain ⟨p, xs, rfl, hq, fx, fs, q⟩ := h
  cases ry
  rcases hq with hq | hq
  · obtain ⟨its, r, pl, hz⟩ := I.list hq
    refine SeqAt.notIn_listAt (eqU x) pl.isList (fun w hw => mem_eqAt rx fx r fs w (by simpa using hw)) ⟨.bl _, H, I, rfl, ?_⟩
    rw [show its.toArray.any (eqU x) = its.any (eqU x) by simp, any_eqU r fs]
    exact q
  · obtain ⟨its, r, pl, hz⟩ := I.tuple hq
    refine SeqAt.notIn_tupleAt (eqU x) pl (fun w hw => mem_eqAt rx fx r fs w (by simpa using hw)) ⟨.bl _, H, I, rfl, ?_⟩
    rw [show its.toArray.any (eqU x) = its.any (eqU x) by simp, any_eqU r fs]
    exact q
theorem op_notIn_str : OpR X (compareOp .NotIn) (fun x y H Q => ∃ i j, x = .str i ∧ y = .str j ∧ Q (.bl (!(!(Builtin.Str.occurrences j i 0 j.length 1).isEmpty))) H) := by
  intro pins s σ H x y v u Q I rx ry h
  obtain ⟨i, j, rfl, rfl, q⟩ := h
  obtain ⟨t, rfl⟩ := rx
  obtain ⟨t', rfl⟩ := ry
  exact notIn_str ⟨.bl _, H, I, rfl, q⟩

/-! ### len, list(x), tuple(x) of any list or tuple that is read -/
theorem call_len_seq : CallR X (.builtin "len") (fun xs H Q => ∃ p ys, xs = [.ref p] ∧ (SqL X.K H p ys ∨ SqT X.K H p ys) ∧ Q (.int ys.length) H) := by
  intro pins s σ H xs us Q I r h
  obtain ⟨p, ys, rfl, hq, q⟩ := h
  obtain ⟨u, rfl, rx⟩ := vals1 r
  cases rx
  have hn := line63
  rcases hq with hq | hq
  · obtain ⟨its, r', pl, hz⟩ := I.list hq
    have hlen := r'.length
    exact Calls.call_len_list pl.isList (by simp only [List.size_toArray] <;> omega) ⟨.int ys.length, H, I.tok _, ⟨s.toks + 1, by rw [List.size_toArray, hlen]⟩, q⟩
  · obtain ⟨its, r', pl, hz⟩ := I.tuple hq
    have hlen := r'.length
    exact len_tuple pl (by simp only [List.size_toArray] <;> omega) ⟨.int ys.length, H, I.tok _, ⟨s.toks + 1, by rw [List.size_toArray, hlen]⟩, q⟩
theorem call_len_str : CallR X (.builtin "len") (fun xs H Q => ∃ z, xs = [.str z] ∧ z.length ≤ sizeLine ∧ Q (.int z.length) H) := by
  intro pins s σ H xs us Q I r h
  obtain ⟨z, rfl, hz, q⟩ := h
  obtain ⟨u, rfl, t, rfl⟩ := vals1 r
  have hn := line63
  exact len_str (by omega) ⟨.int z.length, H, I.tok _, ⟨_, rfl⟩, q⟩
theorem CallR.or {f : Value} {r r' : List V → Hp → VK → Prop} (h : CallR X f r) (h' : CallR X f r') : CallR X f (fun xs H Q => r xs H Q ∨ r' xs H Q) := by
  intro pins s σ H xs us Q I rs q
  rcases q with q | q
  · exact h pins s σ H xs us Q I rs q
  · exact h' pins s σ H xs us Q I rs q
/-! ### the call of a builtin's method: o.m(..) -/
def tyV (K : PySem.W.Frag) (T : String) (x : V) (H : Hp) : Prop := match x with
  | .str _ => T = "str"
  | .int _ => T = "int"
  | .ref p => (T = "list" ∧ ∃ xs, SqL K H p xs) ∨ (T = "tuple" ∧ ∃ o, K.lookup p = some o ∧ o.cls = .type "tuple" ∧ o.dict = none) ∨
      (T = "dict" ∧ ((∃ kvs, H p = some (.dK kvs)) ∨ ∃ kvs, H p = some (.dT kvs))) ∨ (T = "set" ∧ ∃ S n, H p = some (.set S n))
  | _ => False
theorem tyV_is {pins : List (Addr × Obj)} {σ : St} {H : Hp} {s : Shared} {T : String} {x : V} {v : Value} (I : Inv X pins σ H s) (r : RelV x v) (ty : tyV X.K T x H) :
    s.TypeIs v T ∧ ∀ a, v = .ref a → ∃ ob, s.heap.get? a = some ob ∧ ob.dict = none := by
  cases x with
  | str z =>
    obtain ⟨t, rfl⟩ := r
    cases (show T = "str" from ty)
    exact ⟨typeIs_str s z t, fun _ e => nomatch e⟩
  | int i =>
    obtain ⟨t, rfl⟩ := r
    cases (show T = "int" from ty)
    exact ⟨typeIs_int s i t, fun _ e => nomatch e⟩
  | ref p =>
    cases r
    rcases ty with ⟨rfl, xs, hq⟩ | ⟨rfl, o, hk, hc, hd⟩ | ⟨rfl, hk⟩ | ⟨rfl, S, n, hk⟩
    · obtain ⟨its, _, pl, _⟩ := I.list hq
      refine ⟨pl.isList.typeIs, fun a e => ?_⟩
      cases e
      obtain ⟨o, n, e, c, hd, _⟩ := pl
      exact ⟨o, e, hd⟩
    · refine ⟨⟨o, I.kIn p o hk, hc⟩, fun a e => ?_⟩
      cases e
      exact ⟨o, I.kIn _ o hk, hd⟩
    · have z : ∃ o, s.heap.get? p = some o ∧ o.ExactDict := by
        rcases hk with ⟨kvs, hk⟩ | ⟨kvs, hk⟩
        · obtain ⟨_, _, _, _, o, _, _, e, ex, _⟩ := I.hok p _ hk
          exact ⟨o, e, ex⟩
        · obtain ⟨_, _, _, _, o, _, _, e, ex, _⟩ := I.hok p _ hk
          exact ⟨o, e, ex⟩
      obtain ⟨o, e, ex⟩ := z
      refine ⟨⟨o, e, ex.1⟩, fun a e2 => ?_⟩
      cases e2
      exact ⟨o, e, ex.2.1⟩
    · obtain ⟨o, _, _, _, e, ex, _⟩ := I.hok p _ hk
      refine ⟨⟨o, e, ex.1⟩, fun a e2 => ?_⟩
      cases e2
      exact ⟨o, e, ex.2.1⟩
  | _ => exact False.elim ty
def tBM0 (K : PySem.W.Frag) (T : String) (r : V → List V → Hp → VK → Prop) (to : TE) : TE := fun σ H Q => to σ H fun x H1 => tyV K T x H1 ∧ r x [] H1 Q
def tBM (K : PySem.W.Frag) (T : String) (r : V → List V → Hp → VK → Prop) (to : TE) (t : TA) : TE := fun σ H Q => to σ H fun x H1 => tyV K T x H1 ∧ t σ H1 fun xs H2 => r x xs H2 Q
variable {o e : Expr} {es : List Expr} {to : TE} {t : TA} {name : Str} {apos cpos : Pos} {T id : String} {r : V → List V → Hp → VK → Prop}
theorem pe_bm (pa : PlainAttrs T) (slot : Slot T name id) (hty : typeOf (.builtin id) = pure (.type "method_descriptor")) (hm : MtR X id r) (ho : PE X o to) (ha : PA X (e :: es) t)
    (hbase : attributeBase o name X.env (eval o X.env) = eval o X.env := by rfl)
    (hfew : ((backTo cpos (starEach (e :: es) X.env)).all (fun x => !x.1) && (backToKw cpos (keywordEach [] X.env)).all (fun x => x.1.isSome)
      && decide ((e :: es).length + ([] : List Keyword).length + (if ([] : List Keyword).isEmpty then 0 else 1) < 30)) = true := by rfl)
    (hline : (apos.endLine == cpos.line) = true := by rfl) (hs : starEach (e :: es) X.env = (false, eval e X.env) :: starEach es X.env := by rfl) (hplain : (backTo cpos (starEach es X.env)).any (·.1) = false := by rfl) :
    PE X (.Call (.Attribute o name apos) (e :: es) [] cpos) (tBM X.K T r to t) := by
  intro pins s σ H Q I h
  refine wpAny_Call_method_late hbase hfew hline rfl (thn (ho pins s σ H _ I h) fun v s1 ⟨x, H1, I1, r1, ty, q1⟩ => ?_)
  obtain ⟨h1, h2⟩ := tyV_is I1 r1 ty
  refine ⟨T, id, pa, slot, hty, h1, h2, ?_⟩
  have hA := ha cpos pins s1 σ H1 _ I1 q1
  rw [hs] at hA ⊢
  refine Calls.callWith_builtin (by show (false || (backTo cpos (starEach es X.env)).any (·.1)) = false; rw [hplain] <;> rfl) (Calls.evalArgs_plain ?_)
  exact thn hA fun us s2 ⟨vs, H2, I2, r2, q2⟩ => hm pins s2 σ H2 x vs v us Q I2 r1 r2 q2
/- xs.append(e), list.index on a module's tuple .. are MtR facts of 06m -/
end
end L2

namespace L2
open PySem PySem.Spec PyProof.Rows

def MtM (X : Cx) (id : String) (r : V → List V → Hp → VK → Prop) : Prop :=
  ∀ (pins : List (Addr × Obj)) (s : Shared) (σ : St) (H : Hp) (x : V) (xs : List V) (v : Value) (us : List Value) (Q : VK), Inv X pins σ H s → RelV x v → Vals xs us → r x xs H Q →
    wpAny (model X.prog X.w) X.A (call (.builtin id) (v :: us)) (EP X pins σ Q) X.xe s

/-! ### lists of values -/
theorem Vals.one : ∀ {x : V} {us : List Value}, Vals [x] us → ∃ u, us = [u] ∧ RelV x u
  | _, _, .cons r .nil => ⟨_, rfl, r⟩
theorem Vals.zero : ∀ {us : List Value}, Vals [] us → us = []
  | _, .nil => rfl
theorem Vals.dropLast {xs : List V} {us : List Value} (h : Vals xs us) : Vals xs.dropLast us.dropLast := by
  induction h with
  | nil => exact .nil
  | cons r t ih =>
    cases t with
    | nil => exact .nil
    | cons q t' => exact .cons r ih
theorem Vals.eraseIdx : ∀ {xs : List V} {us : List Value} (i : Nat), Vals xs us → Vals (xs.eraseIdx i) (us.eraseIdx i)
  | _, _, _, .nil => .nil
  | _, _, 0, .cons _ t => t
  | _, _, i + 1, .cons r t => .cons r (Vals.eraseIdx i t)
theorem Vals.reverse {xs : List V} {us : List Value} (h : Vals xs us) : Vals xs.reverse us.reverse := by
  induction h with
  | nil => exact .nil
  | cons r t ih => rw [List.reverse_cons, List.reverse_cons]; exact Vals.append ih (.cons r .nil)
section
variable {X : Cx} {pins : List (Addr × Obj)} {σ : St} {H : Hp} {s : Shared} {l b : Addr} {xs ys zs : List V}

/-! ### the two steps: a tracked list is rewritten, a new list is laid -/
theorem Inv.lset {its its' : List Value} {n : Nat} {f : Array Value → Array Value} {t' : Nat} (I : Inv X pins σ H s) (hH : H l = some (.lst xs))
    (e : s.heap.get? l = some { cls := .type "list", data := .seq its.toArray n }) (hf : f its.toArray = its'.toArray) (hv : Vals ys its') (hz : ys.length ≤ sizeLine) :
    Inv X pins σ (upd H l (.lst ys)) { s with heap := s.heap.update l (Obj.mapSeq f), toks := t' } := by
  have q := PySem.IsL.update e f
  rw [hf] at q
  refine I.write (x := l) (e := l) (by rw [hH]; exact trivial) (.inl rfl) (fun b' u hb hu => (Heap.get?_update_other s.heap (Obj.mapSeq f) (Ne.symm hb)).trans hu) ⟨_, q⟩ ?_
  exact ⟨hz, its', _, hv, q⟩
theorem Inv.lnew {its : List Value} {t' : Nat} (I : Inv X pins σ H s) (hv : Vals ys its) (hz : ys.length ≤ sizeLine) :
    Inv X pins σ (upd H s.heap.objs.size (.lst ys)) { s with heap := s.heap.push { cls := .type "list", data := .seq its.toArray }, toks := t' } :=
  I.laid (fun _ _ q => Heap.get?_push_of_some _ q) (Nat.le_refl _) ⟨hz, its, 0, hv, Heap.get?_push_size _ rfl⟩
theorem Inv.fresh (I : Inv X pins σ H s) : H s.heap.objs.size = none := I.hok.fresh (Nat.le_refl _)
theorem Inv.lstM (I : Inv X pins σ H s) (hH : H l = some (.lst xs)) : xs.length ≤ sizeLine ∧ ∃ (its : List Value) (n : Nat), Vals xs its ∧ xs.length = its.length ∧ s.heap.get? l = some { cls := .type "list", data := .seq its.toArray n } := by
  obtain ⟨z, its, n, r, e⟩ := I.hok l _ hH
  exact ⟨z, its, n, r, r.length, e⟩

end

section
variable {X : Cx}

/-! ### methods -/
def rAppend : V → List V → Hp → VK → Prop := fun x vs H Q => ∃ l xs y, x = .ref l ∧ vs = [y] ∧ H l = some (.lst xs) ∧ xs.length < sizeLine ∧ Q .non (upd H l (.lst (xs ++ [y])))
theorem mt_append : MtM X "list.append" rAppend := by
  intro pins s σ H x vs v us Q I rx rv h
  obtain ⟨l, xs, y, rfl, rfl, hH, hz, q⟩ := h
  cases rx
  obtain ⟨u, rfl, ru⟩ := rv.one
  obtain ⟨z, its, n, r, hl, e⟩ := I.lstM hH
  refine call_meets F.slot_list_append ⟨_, e, rfl⟩ F.entry_list_append (F.args_list_append_2 _ _) (PySem.list_append l its.toArray n u (by rw [List.size_toArray]; omega)) ⟨e, ?_⟩
  refine ⟨.non, _, I.lset (its' := its ++ [u]) hH e (by simp) (r.append (.cons ru .nil)) ?_, rfl, q⟩
  rw [List.length_append, List.length_singleton]
  omega

/-! ### list + list, list += list, list * int -/
def rCat : R2 := fun x y H Q => ∃ l b xs zs, x = .ref l ∧ y = .ref b ∧ H l = some (.lst xs) ∧ H b = some (.lst zs) ∧ xs.length + zs.length ≤ sizeLine ∧ ∀ p, H p = none → Q (.ref p) (upd H p (.lst (xs ++ zs)))
theorem op_cat : OpR X (binaryOp .Add) rCat := by
  intro pins s σ H x y v u Q I rx ry h
  obtain ⟨l, b, xs, zs, rfl, rfl, hH, hB, hz, q⟩ := h
  cases rx
  cases ry
  obtain ⟨z, its, n, r, hl, e⟩ := I.lstM hH
  obtain ⟨z2, its2, n2, r2, hl2, e2⟩ := I.lstM hB
  refine PySem.P.add_list e e2 ?_ (by rw [List.size_toArray, List.size_toArray]; omega)
  have ea : its.toArray ++ its2.toArray = (its ++ its2).toArray := by simp
  rw [ea]
  exact ⟨.ref _, _, I.lnew (t' := s.toks) (r.append r2) (by rw [List.length_append]; omega), rfl, q _ I.fresh⟩
/-! ### del xs[i] -/
end

/-! ### xs[a:b] = ys -/
section
variable {prog : Program} {w : World} {A : Around} {E : Value → Shared → Prop} {s : Shared}
end

section
variable {X : Cx}
end
end L2

namespace L2
open PySem PySem.Spec PyProof.Rows

/-! ### lists of pairs as tables -/
section
variable {κ : Type} [DecidableEq κ]
def valV (kvs : List (κ × V)) (k : κ) : Option V := (kvs.find? fun kv => decide (kv.1 = k)).map (·.2)
def putK (kvs : List (κ × V)) (k : κ) (v : V) : List (κ × V) :=
  if (kvs.any fun kv => decide (kv.1 = k)) = true then kvs.map (fun kv => if kv.1 = k then (kv.1, v) else kv) else kvs ++ [(k, v)]
def dropK (kvs : List (κ × V)) (k : κ) : List (κ × V) := kvs.filter fun kv => decide (kv.1 ≠ k)

theorem valV_pos {p : κ × V} {r : List (κ × V)} {k : κ} (e : p.1 = k) : valV (p :: r) k = some p.2 := by simp [valV, List.find?_cons, e]
theorem valV_neg {p : κ × V} {r : List (κ × V)} {k : κ} (e : ¬ p.1 = k) : valV (p :: r) k = valV r k := by simp [valV, List.find?_cons, e]
theorem valV_any (k : κ) : ∀ kvs : List (κ × V), (kvs.any fun kv => decide (kv.1 = k)) = (valV kvs k).isSome
  | [] => rfl
  | p :: r => by
    rw [List.any_cons]
    by_cases e : p.1 = k
    · simp only [valV_pos e, decide_eq_true e, Bool.true_or, Option.isSome_some]
    · rw [valV_neg e, decide_eq_false e, Bool.false_or]; exact valV_any k r
theorem length_putK (kvs : List (κ × V)) (k : κ) (v : V) : (putK kvs k v).length ≤ kvs.length + 1 := by
  unfold putK
  split
  · rw [List.length_map]; omega
  · rw [List.length_append, List.length_cons, List.length_nil]; omega
theorem RelO.isSome_eq {o : Option V} {u : Option Value} (r : RelO o u) : o.isSome = u.isSome := by
  cases o with
  | none => cases u with
    | none => rfl
    | some _ => exact (show False from r).elim
  | some _ => cases u with
    | none => exact (show False from r).elim
    | some _ => rfl
theorem RelO.getD {o : Option V} {u : Option Value} {d : V} {d' : Value} (r : RelO o u) (rd : RelV d d') : RelV (o.getD d) (u.getD d') := by
  cases o with
  | none => cases u with
    | none => exact rd
    | some _ => exact (show False from r).elim
  | some _ => cases u with
    | none => exact (show False from r).elim
    | some _ => exact r

theorem KV.val {kvs : List (κ × V)} {vs : List (κ × Value)} (r : KV kvs vs) (k : κ) : RelO (valV kvs k) (valueAt vs k) := by
  unfold KV at r
  induction r with
  | nil => exact True.intro
  | @cons p q ps qs h t ih =>
    obtain ⟨h1, h2⟩ := h
    by_cases e : p.1 = k
    · have e' : q.1 = k := h1.symm.trans e
      have b : valueAt (q :: qs) k = some q.2 := by simp [valueAt, List.find?_cons, e']
      rw [valV_pos e, b]; exact h2
    · have e' : ¬ q.1 = k := fun z => e (h1.trans z)
      have b : valueAt (q :: qs) k = valueAt qs k := by simp [valueAt, List.find?_cons, e']
      rw [valV_neg e, b]; exact ih
theorem KV.any {kvs : List (κ × V)} {vs : List (κ × Value)} (r : KV kvs vs) (k : κ) : (kvs.any fun kv => decide (kv.1 = k)) = vs.any fun kv => decide (kv.1 = k) := by
  unfold KV at r
  induction r with
  | nil => rfl
  | cons h t ih => rw [List.any_cons, List.any_cons, ih, h.1]
theorem KV.repl {kvs : List (κ × V)} {vs : List (κ × Value)} (r : KV kvs vs) (k : κ) {y : V} {u : Value} (ry : RelV y u) :
    KV (kvs.map fun kv => if kv.1 = k then (kv.1, y) else kv) (vs.map fun kv => if kv.1 = k then (kv.1, u) else kv) := by
  unfold KV at r ⊢
  induction r with
  | nil => exact .nil
  | @cons p q ps qs h t ih =>
    rw [List.map_cons, List.map_cons]
    refine .cons ?_ ih
    obtain ⟨h1, h2⟩ := h
    by_cases e : p.1 = k
    · rw [if_pos e, if_pos (h1.symm.trans e)]; exact ⟨h1, ry⟩
    · rw [if_neg e, if_neg (fun z => e (h1.trans z))]; exact ⟨h1, h2⟩
theorem KV.put {kvs : List (κ × V)} {vs : List (κ × Value)} (r : KV kvs vs) (k : κ) {y : V} {u : Value} (ry : RelV y u) : KV (putK kvs k y) (stored vs k u) := by
  unfold putK stored
  rw [r.any k]
  by_cases e : (vs.any fun kv => decide (kv.1 = k)) = true
  · rw [if_pos e, if_pos e]; exact r.repl k ry
  · rw [if_neg e, if_neg e]; exact Paired.snoc r ⟨rfl, ry⟩
theorem KV.drop {kvs : List (κ × V)} {vs : List (κ × Value)} (r : KV kvs vs) (k : κ) : KV (dropK kvs k) (without vs k) := by
  unfold KV at r ⊢
  unfold dropK without
  induction r with
  | nil => exact .nil
  | @cons p q ps qs h t ih =>
    obtain ⟨h1, h2⟩ := h
    rw [List.filter_cons, List.filter_cons]
    by_cases e : p.1 = k
    · have a : ¬ decide (p.1 ≠ k) = true := by simp [e]
      have b : ¬ decide (q.1 ≠ k) = true := by simp [h1.symm.trans e]
      rw [if_neg a, if_neg b]; exact ih
    · have e' : ¬ q.1 = k := fun z => e (h1.trans z)
      have a : decide (p.1 ≠ k) = true := by simp [e]
      have b : decide (q.1 ≠ k) = true := by simp [e']
      rw [if_pos a, if_pos b]; exact .cons ⟨h1, h2⟩ ih
theorem KV.keys {kvs : List (κ × V)} {vs : List (κ × Value)} (r : KV kvs vs) : kvs.map (·.1) = vs.map (·.1) := by
  unfold KV at r
  induction r with
  | nil => rfl
  | cons h t ih => rw [List.map_cons, List.map_cons, ih, h.1]
theorem KV.length {kvs : List (κ × V)} {vs : List (κ × Value)} (r : KV kvs vs) : kvs.length = vs.length := Paired.length r
end

/-! ### a tracked dict, its keys ints and texts or tuples of these -/
theorem kV_is {P : Program} {w : World} {k : Key} {u : Value} (r : RelV (kV k) u) : (mixKind P w).is k u = true := by
  cases k with
  | inl i => obtain ⟨t, e⟩ := (show ∃ t, u = Value.int i t from r); subst e; exact mixKind_int P w i t
  | inr x => obtain ⟨t, e⟩ := (show ∃ t, u = Value.str x t from r); subst e; exact mixKind_str P w x t
theorem items_are {P : Program} {w : World} : ∀ {ks : List Key} {us : List Value}, Vals (ks.map kV) us → ItemsAre (mixKind P w) ks us
  | [], _, r => by rw [List.map_nil] at r; cases r; exact .nil
  | k :: ks, _, r => by
    rw [List.map_cons] at r
    cases r with
    | cons h t => exact .cons (kV_is h) (items_are t)

abbrev KT (H : Hp) : List (List Key × V) → List (List Key × Addr × Value) → Prop := Paired fun p q => p.1 = q.1 ∧ H q.2.1 = some (.tup (p.1.map kV)) ∧ RelV p.2 q.2.2
theorem KT.val {H : Hp} {kvs : List (List Key × V)} {xs : List (List Key × Addr × Value)} (r : KT H kvs xs) (k : List Key) : RelO (valV kvs k) ((atKey xs k).map (·.2)) := by
  induction r with
  | nil => exact True.intro
  | @cons p q ps qs h t ih =>
    obtain ⟨h1, _, h2⟩ := h
    by_cases e : p.1 = k
    · have e' : q.1 = k := h1.symm.trans e
      have b : atKey (q :: qs) k = some q.2 := by simp [atKey, List.find?_cons, e']
      rw [valV_pos e, b]; exact h2
    · have e' : ¬ q.1 = k := fun z => e (h1.trans z)
      have b : atKey (q :: qs) k = atKey qs k := by simp [atKey, List.find?_cons, e']
      rw [valV_neg e, b]; exact ih
theorem KT.repl {H : Hp} {kvs : List (List Key × V)} {xs : List (List Key × Addr × Value)} (r : KT H kvs xs) (k : List Key) {y : V} {u : Value} (ry : RelV y u) :
    KT H (kvs.map fun kv => if kv.1 = k then (kv.1, y) else kv) (xs.map (putAt k u)) := by
  induction r with
  | nil => exact .nil
  | @cons p q ps qs h t ih =>
    rw [List.map_cons, List.map_cons]
    refine .cons ?_ ih
    obtain ⟨h1, h2, h3⟩ := h
    unfold putAt
    by_cases e : p.1 = k
    · rw [if_pos e, if_pos (h1.symm.trans e)]; exact ⟨h1, h2, ry⟩
    · rw [if_neg e, if_neg (fun z => e (h1.trans z))]; exact ⟨h1, h2, h3⟩
theorem KT.put {H : Hp} {kvs : List (List Key × V)} {xs : List (List Key × Addr × Value)} (r : KT H kvs xs) (k : List Key) {b : Addr} {y : V} {u : Value} (hb : H b = some (.tup (k.map kV))) (ry : RelV y u) :
    KT H (putK kvs k y) (storedH xs k b u) := by
  have e : (kvs.any fun kv => decide (kv.1 = k)) = (atKey xs k).isSome := by
    rw [valV_any, (r.val k).isSome_eq, Option.isSome_map]
  unfold putK storedH
  rw [e]
  by_cases q : (atKey xs k).isSome = true
  · rw [if_pos q, if_pos q]; exact r.repl k ry
  · rw [if_neg q, if_neg q]; exact Paired.snoc r ⟨rfl, hb, ry⟩
theorem KT.keeps {H H' : Hp} {kvs : List (List Key × V)} {xs : List (List Key × Addr × Value)} (r : KT H kvs xs) (ht : ∀ b ys, H b = some (.tup ys) → H' b = some (.tup ys)) : KT H' kvs xs :=
  Paired.mapP r fun _ _ z => ⟨z.1, ht _ _ z.2.1, z.2.2⟩

section
variable {P : Program} {w : World} {H : Hp} {h : Heap} {a : Addr}
theorem rd_of {u : HO} (ok : HOk P w H h) (e : Rd H a u) : ObjOk P w H h a u := e.ok ok
theorem dk_rd {kvs : List (Key × V)} (ok : HOk P w H h) (e : Rd H a (.dK kvs)) : kvs.length ≤ sizeLine ∧ (a == sysModules) = false ∧ ∃ vs, KV kvs vs ∧ h.DictOf (mixKind P w) a vs :=
  show ObjOk P w H h a (.dK kvs) from rd_of ok e
theorem dk_of {kvs : List (Key × V)} (ok : HOk P w H h) (e : H a = some (.dK kvs)) : kvs.length ≤ sizeLine ∧ (a == sysModules) = false ∧ ∃ vs, KV kvs vs ∧ h.DictOf (mixKind P w) a vs := dk_rd ok (.inl e)
theorem key_of {ks : List Key} (ok : HOk P w H h) (e : H a = some (.tup (ks.map kV))) : (tupleKind (mixKind P w)).is h ks a := by
  obtain ⟨_, its, r, o, h1, h2, n, h3⟩ := (show ObjOk P w H h a (.tup (ks.map kV)) from ok a _ e)
  exact ⟨o, its.toArray, n, h1, h2, h3, by simpa using items_are r⟩
theorem dt_rd {kvs : List (List Key × V)} (ok : HOk P w H h) (e : Rd H a (.dT kvs)) : kvs.length ≤ sizeLine ∧ (a == sysModules) = false ∧
    ∃ xs, KT H kvs xs ∧ h.DictOfH (tupleKind (mixKind P w)) a xs := by
  obtain ⟨z, y, xs, r, o, es, ep, h1, h2, h3, h4, h5⟩ := (show ObjOk P w H h a (.dT kvs) from rd_of ok e)
  refine ⟨z, y, xs, r, o, es, ep, h1, h2, h3, h4, fun x hx => ?_, h5⟩
  have all : ∀ {l : List (List Key × V)} {m : List (List Key × Addr × Value)}, KT H l m → ∀ x ∈ m, (tupleKind (mixKind P w)).is h x.1 x.2.1 := by
    intro l m q
    induction q with
    | nil => intro x hx; exact nomatch hx
    | @cons p q ps qs hq t ih =>
      intro x hx
      rcases List.mem_cons.mp hx with e | hx
      · subst e
        exact key_of ok (by rw [← hq.1]; exact hq.2.1)
      · exact ih x hx
  exact all r x hx
theorem dt_of {kvs : List (List Key × V)} (ok : HOk P w H h) (e : H a = some (.dT kvs)) : kvs.length ≤ sizeLine ∧ (a == sysModules) = false ∧
    ∃ xs, KT H kvs xs ∧ h.DictOfH (tupleKind (mixKind P w)) a xs := dt_rd ok (.inl e)
end

def DGet (H : Hp) (a : Addr) (y : V) (r : Option V) : Prop :=
  (∃ kvs k, Rd H a (.dK kvs) ∧ y = kV k ∧ r = valV kvs k) ∨ ∃ kvs k b, Rd H a (.dT kvs) ∧ y = .ref b ∧ H b = some (.tup (k.map kV)) ∧ r = valV kvs k
def DPut (H : Hp) (a : Addr) (y v : V) (H' : Hp) : Prop :=
  (∃ kvs k, H a = some (.dK kvs) ∧ y = kV k ∧ kvs.length < sizeLine ∧ H' = upd H a (.dK (putK kvs k v))) ∨
  ∃ kvs k b, H a = some (.dT kvs) ∧ y = .ref b ∧ H b = some (.tup (k.map kV)) ∧ kvs.length < sizeLine ∧ H' = upd H a (.dT (putK kvs k v))
theorem DGet.k {H : Hp} {a : Addr} {kvs : List (Key × V)} {k : Key} (e : H a = some (.dK kvs)) : DGet H a (kV k) (valV kvs k) := .inl ⟨kvs, k, .inl e, rfl, rfl⟩
theorem DGet.t {H : Hp} {a b : Addr} {kvs : List (List Key × V)} {k : List Key} (e : H a = some (.dT kvs)) (eb : H b = some (.tup (k.map kV))) : DGet H a (.ref b) (valV kvs k) := .inr ⟨kvs, k, b, .inl e, rfl, eb, rfl⟩
theorem DPut.k {H : Hp} {a : Addr} {kvs : List (Key × V)} {k : Key} {v : V} (e : H a = some (.dK kvs)) (hl : kvs.length < sizeLine) : DPut H a (kV k) v (upd H a (.dK (putK kvs k v))) := .inl ⟨kvs, k, e, rfl, hl, rfl⟩
theorem DPut.t {H : Hp} {a b : Addr} {kvs : List (List Key × V)} {k : List Key} {v : V} (e : H a = some (.dT kvs)) (eb : H b = some (.tup (k.map kV))) (hl : kvs.length < sizeLine) :
    DPut H a (.ref b) v (upd H a (.dT (putK kvs k v))) := .inr ⟨kvs, k, b, e, rfl, eb, hl, rfl⟩

section
variable {X : Cx} {pins : List (Addr × Obj)} {σ : St} {H : Hp} {s : Shared} {a : Addr} {y v : V} {u r : Value} {o : Option V} {A : Around} {E : Value → Shared → Prop}

theorem Inv.big (I : Inv X pins σ H s) : sysModules < s.heap.objs.size := by
  have h : mainGlobals < s.heap.objs.size := (I.mod.glob.keeps I.bk).lt
  exact Nat.lt_trans (by decide) h

theorem d_getItem {Q : Value → Shared → Prop} (hu : A.units + 1 < cLine) (I : Inv X pins σ H s) (g : DGet H a y (some v)) (ry : RelV y u) (h : ∀ w' s', Inv X pins σ H s' → RelV v w' → Q w' s') :
    wpAny (model X.prog X.w) A (getItem (.ref a) u) Q E s := by
  rcases g with ⟨kvs, k, e, ey, l⟩ | ⟨kvs, k, b, e, ey, eb, l⟩
  · subst ey
    obtain ⟨z, hd, vs, rel, dd⟩ := dk_rd I.hok e
    obtain ⟨w', hw, rw'⟩ := RelO.some_of (v := v) (o := valueAt vs k) (by rw [l]; exact rel.val k)
    exact wpAny_getItem_of (kV_is ry) dd.mapOf hw (h w' _ (I.tok _) rw')
  · subst ey
    cases (show u = Value.ref b from ry)
    obtain ⟨z, hd, xs, rel, dd⟩ := dt_rd I.hok e
    obtain ⟨w', hw, rw'⟩ := RelO.some_of (v := v) (o := (atKey xs k).map (·.2)) (by rw [l]; exact rel.val k)
    obtain ⟨p, hp, hp2⟩ := Option.map_eq_some_iff.mp hw
    refine wpAny_getItem_heap (tupleKind_room_in1 hu) (key_of I.hok eb) dd hp ?_
    rw [hp2]
    exact h w' _ (I.tok _) rw'
theorem d_notIn {Q : Value → Shared → Prop} (hu : A.units + 1 < cLine) (I : Inv X pins σ H s) (g : DGet H a y o) (ry : RelV y u) (h : ∀ s', Inv X pins σ H s' → Q (.bool (!o.isSome)) s') :
    wpAny (model X.prog X.w) A (compareOp .NotIn u (.ref a)) Q E s := by
  rcases g with ⟨kvs, k, e, ey, l⟩ | ⟨kvs, k, b, e, ey, eb, l⟩
  · subst ey
    obtain ⟨z, hd, vs, rel, dd⟩ := dk_rd I.hok e
    refine wpAny_notIn_of (kV_is ry) hd dd.mapOf ?_
    rw [← (rel.val k).isSome_eq, ← l]
    exact h _ (I.tok _)
  · subst ey
    cases (show u = Value.ref b from ry)
    obtain ⟨z, hd, xs, rel, dd⟩ := dt_rd I.hok e
    refine wpAny_notIn_heap (tupleKind_room_in1 hu) (key_of I.hok eb) hd dd ?_
    have q := (rel.val k).isSome_eq
    rw [Option.isSome_map] at q
    rw [← q, ← l]
    exact h _ (I.tok _)
theorem d_write {h' : Heap} {t' : Nat} {ob : HO} (I : Inv X pins σ H s) (mu : Mut (H a)) (hs : Heap.SameBut a s.heap h') (he : ∃ q, h'.get? a = some q) (new : ObjOk X.prog X.w (upd H a ob) h' a ob) :
    Inv X pins σ (upd H a ob) { s with heap := h', toks := t' } :=
  I.write (x := a) (e := a) mu (.inl rfl) (fun b q hb z => (hs.2 b hb).trans z) he new
theorem dk_new {P : Program} {w : World} {H' : Hp} {h' : Heap} {kvs : List (Key × V)} {vs : List (Key × Value)} (z : kvs.length ≤ sizeLine) (hd : (a == sysModules) = false) (rel : KV kvs vs) (dd : h'.DictOf (mixKind P w) a vs) :
    ObjOk P w H' h' a (.dK kvs) := ⟨z, hd, vs, rel, dd⟩
theorem d_setItem {H' : Hp} {Q : Unit → Shared → Prop} (hu : A.units + 1 < cLine) (I : Inv X pins σ H s) (g : DPut H a y v H') (ry : RelV y u) (rv : RelV v r) (h : ∀ s', Inv X pins σ H' s' → Q () s') :
    wpAny (model X.prog X.w) A (setItem (.ref a) u r) Q E s := by
  rcases g with ⟨kvs, k, e, ey, l, eH⟩ | ⟨kvs, k, b, e, ey, eb, l, eH⟩
  · subst ey eH
    obtain ⟨z, hd, vs, rel, dd⟩ := dk_of I.hok e
    have hz : vs.length ≤ sizeLine := by rw [← rel.length]; exact z
    have hl : (putK kvs k v).length ≤ sizeLine := by have := length_putK kvs k v; omega
    refine wpAny_setItem_pairs (hsz := hz) (kV_is ry) dd fun h' dd' hs => h _ ?_
    have he : ∃ q, h'.get? a = some q := let ⟨q, _, _, hq, _⟩ := dd'; ⟨q, hq⟩
    exact d_write I (by rw [e]; exact True.intro) hs he (dk_new hl hd (rel.put k rv) dd')
  · subst ey eH
    cases (show u = Value.ref b from ry)
    obtain ⟨z, hd, xs, rel, dd⟩ := dt_of I.hok e
    have hz : xs.length ≤ sizeLine := by rw [← Paired.length rel]; exact z
    have hl : (putK kvs k v).length ≤ sizeLine := by have := length_putK kvs k v; omega
    refine wpAny_setItem_heap (hsz := hz) (tupleKind_room_in1 hu) (key_of I.hok eb) dd fun h' dd' hs => h _ ?_
    obtain ⟨q, es, ep, hq, h2, h3, h4, _, h5⟩ := dd'
    refine d_write I (by rw [e]; exact True.intro) hs ⟨q, hq⟩ ⟨hl, hd, _, (rel.put k eb rv).keeps fun c ys ec => ?_, q, es, ep, hq, h2, h3, h4, h5⟩
    rw [upd_ne (ne_of ec e (fun z => nomatch z))]
    exact ec
end

section
variable {X : Cx} {pins : List (Addr × Obj)} {σ : St} {H : Hp} {s : Shared} {a : Addr} {kvs : List (Key × V)} {k : Key} {u : Value} {A : Around} {E : Value → Shared → Prop}
end

/-! ### readings and rules -/
def NoSl (i : Expr) : Prop := ∀ ov iv, subscripted i false ov iv = operate [ov, iv] (getItem ov iv)
theorem subD_of {prog : Program} {w : World} {A : Around} {E : Value → Shared → Prop} {s : Shared} {env : Env} {value slice : Expr} {pos : Pos} {T id : String} {Q : Value → Shared → Prop}
    (hl : typeLookup (.type T) "__getitem__" = pure (some (.builtin id))) (hs : NoSl slice)
    (h : wpAny (model prog w) A (eval value env) (fun o s₁ => wpAny (model prog w) A (eval slice env) (fun i s₂ => s₂.TypeIs o T ∧ wpAny (model prog w) A (getItem o i) Q E s₂) E s₁) E s) :
    wpAny (model prog w) A (eval (.Subscript value slice pos) env) Q E s := by
  refine Subscript_ (wpAny_mono h (fun o s₁ h₁ => wpAny_mono h₁ (fun i s₂ h₂ => ?_) fun _ _ x => x) fun _ _ x => x)
  obtain ⟨hT, h₂⟩ := h₂
  unfold subscriptTail
  refine wpAny_bind ?_
  rw [getitemInPython_of_ne hT.not_modules]
  refine wpAny_bind (wpAny_specialOf hT hl ?_)
  have fin : wpAny (model prog w) A (subscripted slice false o i) (fun r s₃ => wpAny (model prog w) A (letTemporaryGo value o r >>= fun _ => pure r) Q E s₃) E s₂ := by
    rw [hs o i]
    exact wpAny_operating (wpAny_mono h₂ (fun r s₃ h₃ => wpAny_bind (wpAny_letTemporaryGo (wpAny_pure h₃))) fun _ _ x => x)
  first
    | exact wpAny_pure (wpAny_bind fin)
    | exact wpAny_bind (wpAny_pure (wpAny_bind fin))
    | exact wpAny_bind fin

theorem dict_typeIs {X : Cx} {pins : List (Addr × Obj)} {σ : St} {H : Hp} {s : Shared} {a : Addr} {y : V} {o : Option V} (I : Inv X pins σ H s) (g : DGet H a y o) : s.TypeIs (.ref a) "dict" := by
  rcases g with ⟨kvs, k, e, _, _⟩ | ⟨kvs, k, b, e, _, _, _⟩
  · obtain ⟨_, _, vs, _, dd⟩ := dk_rd I.hok e
    exact dd.typeIs
  · obtain ⟨_, _, xs, _, dd⟩ := dt_rd I.hok e
    exact dd.typeIs
section
variable {X : Cx} {o i e value : Expr} {pos pos' tpos : Pos} {td ty tv : TE}
end

/-! ### displays -/
theorem dk_empty {P : Program} {w : World} {H : Hp} (h : Heap) (hb : sysModules < h.objs.size) : ObjOk P w H (h.push { cls := .type "dict", data := .dict #[] }) h.objs.size (.dK []) :=
  ⟨Nat.zero_le _, beq_eq_false_iff_ne.mpr (Ne.symm (Nat.ne_of_lt hb)), [], .nil, Heap.DictOf.new h⟩
def tDNewK : TE := fun _ H Q => ∀ p, H p = none → Q (.ref p) (upd H p (.dK []))
section
variable {X : Cx} {pos : Pos}
end

def tPairs : List (TE × TE) → St → Hp → (List (V × V) → Hp → Prop) → Prop
  | [], _, H, Q => Q [] H
  | (tk, tv) :: r, σ, H, Q => tk σ H fun x H1 => tv σ H1 fun y H2 => tPairs r σ H2 fun ps H3 => Q ((x, y) :: ps) H3
abbrev VV : List (V × V) → List (Value × Value) → Prop := Paired fun p q => RelV p.1 q.1 ∧ RelV p.2 q.2
def PPs (X : Cx) (pos : Pos) (keys : List (Option Expr)) (values : List Expr) (trs : List (TE × TE)) : Prop :=
  ∀ (pins : List (Addr × Obj)) (s : Shared) (σ : St) (H : Hp) (Q : List (V × V) → Hp → Prop), Inv X pins σ H s → tPairs trs σ H Q →
    wpAny (model X.prog X.w) X.A (evalPairs (pairTrees keys values X.env pos)) (fun vs s' => ∃ ps H', Inv X pins σ H' s' ∧ VV ps vs ∧ Q ps H') X.xe s
theorem pps_nil {X : Cx} {pos : Pos} : PPs X pos [] [] [] := fun pins s σ H Q I h => pairTrees_nil_walk ⟨[], H, I, .nil, h⟩
theorem pps_cons {X : Cx} {pos : Pos} {k v : Expr} {ks : List (Option Expr)} {vs : List Expr} {tk tv : TE} {trs : List (TE × TE)} (hk : PE X k tk) (hv : PE X v tv) (hr : PPs X pos ks vs trs) :
    PPs X pos (some k :: ks) (v :: vs) ((tk, tv) :: trs) := fun pins s σ H Q I h =>
  pairTrees_cons_walk (thn (hk pins s σ H _ I h) fun u s1 ⟨x, H1, I1, rx, q1⟩ => thn (hv pins s1 σ H1 _ I1 q1) fun w2 s2 ⟨y, H2, I2, ry, q2⟩ =>
    thn (hr pins s2 σ H2 _ I2 q2) fun ws s3 ⟨ps, H3, I3, rel, q3⟩ => ⟨(x, y) :: ps, H3, I3, .cons ⟨rx, ry⟩ rel, q3⟩)

def mergeK (kvs more : List (Key × V)) : List (Key × V) := more.foldl (fun acc kv => putK acc kv.1 kv.2) kvs
theorem KV.merge : ∀ {more : List (Key × V)} {rs : List (Key × Value)} {kvs : List (Key × V)} {vs : List (Key × Value)}, KV more rs → KV kvs vs → KV (mergeK kvs more) (merged vs rs) := by
  intro more rs kvs vs r
  unfold KV at r
  induction r generalizing kvs vs with
  | nil => intro q; exact q
  | @cons p q ps qs h t ih =>
    intro r0
    have e : KV (putK kvs p.1 p.2) (stored vs q.1 q.2) := by
      have := r0.put p.1 h.2
      rw [← h.1]; exact this
    exact ih e
theorem length_mergeK : ∀ (more kvs : List (Key × V)), (mergeK kvs more).length ≤ kvs.length + more.length
  | [], kvs => by show kvs.length ≤ kvs.length + 0; omega
  | p :: r, kvs => by
    have h1 := length_mergeK r (putK kvs p.1 p.2)
    have h2 := length_putK kvs p.1 p.2
    show (mergeK (putK kvs p.1 p.2) r).length ≤ _
    rw [List.length_cons]; omega
theorem carries_of {P : Program} {w : World} : ∀ {kvs : List (Key × V)} {ws : List (Value × Value)}, VV (kvs.map fun kv => (kV kv.1, kv.2)) ws → ∃ rs, Carries (mixKind P w) ws rs ∧ KV kvs rs
  | [], _, r => by rw [List.map_nil] at r; cases r; exact ⟨[], True.intro, .nil⟩
  | p :: kvs, _, r => by
    rw [List.map_cons] at r
    cases r with
    | @cons a b as bs h t =>
      obtain ⟨rs, c, q⟩ := carries_of (P := P) (w := w) t
      obtain ⟨b1, b2⟩ := b
      exact ⟨(p.1, b2) :: rs, ⟨kV_is h.1, rfl, c⟩, .cons ⟨rfl, h.2⟩ q⟩
/-! ### methods -/
structure M1 (X : Cx) (o : Expr) (m : Str) (apos : Pos) (e : Expr) (cpos : Pos) : Prop where
  base : attributeBase o m X.env (eval o X.env) = eval o X.env
  few : ((backTo cpos (starEach [e] X.env)).all (fun x => !x.1) && (backToKw cpos (keywordEach [] X.env)).all (fun x => x.1.isSome)
    && decide (([e] : List Expr).length + ([] : List Keyword).length + (if ([] : List Keyword).isEmpty then 0 else 1) < 30)) = true
  line : (apos.endLine == cpos.line) = true
  trees : backTo cpos (starEach [e] X.env) = [(false, eval e X.env)]
structure M2 (X : Cx) (o : Expr) (m : Str) (apos : Pos) (e f : Expr) (cpos : Pos) : Prop where
  base : attributeBase o m X.env (eval o X.env) = eval o X.env
  few : ((backTo cpos (starEach [e, f] X.env)).all (fun x => !x.1) && (backToKw cpos (keywordEach [] X.env)).all (fun x => x.1.isSome)
    && decide (([e, f] : List Expr).length + ([] : List Keyword).length + (if ([] : List Keyword).isEmpty then 0 else 1) < 30)) = true
  line : (apos.endLine == cpos.line) = true
  trees : backTo cpos (starEach [e, f] X.env) = [(false, eval e X.env), (false, eval f X.env)]

section
variable {X : Cx} {pins : List (Addr × Obj)} {σ : St} {H : Hp} {s : Shared} {a : Addr} {y d : V} {u r : Value} {o : Option V} {A : Around} {E : Value → Shared → Prop}
end

section
variable {X : Cx} {o e f : Expr} {apos cpos : Pos} {td ty tx : TE}
end

/-! ### dict(d): a copy -/
section
variable {X : Cx} {pins : List (Addr × Obj)} {σ : St} {H : Hp} {s : Shared} {a : Addr} {kvs : List (Key × V)} {A : Around} {E : Value → Shared → Prop}
end

section
variable {X : Cx} {pins : List (Addr × Obj)} {σ : St} {H : Hp} {s : Shared} {a : Addr} {y : V} {u : Value} {A : Around} {E : Value → Shared → Prop}
end
end L2

namespace Att
open PySem PySem.W PySem.Calls PyProof.Rows

/-! ### the script -/
theorem ints_of_wellAll {P : Params} {h : Heap} : ∀ (ns : List Int) (vs : List Value), WellAll P h vs (ns.map WData.int) → IntsAre vs ns := by
  intro ns
  induction ns with
  | nil =>
    intro vs w
    rw [List.map_nil] at w
    cases w
    exact .nil
  | cons n ns ih =>
    intro vs w
    rw [List.map_cons] at w
    cases w with
    | cons a b =>
      cases a
      exact .cons _ _ (ih _ b)

theorem script_of {l : OpenLaw} {n : Nat} (hn : l.most = some n) {P : Params} {h : Heap} {args : List WData} {vals : List Value}
    (hpre : l.row.toRowW.claim.pre args = true) (hwl : WellAll P h vals args) :
    ∃ a vs ns, vals = [Value.ref a] ∧ args = [WData.list (ns.map WData.int)] ∧ h.get? a = some { cls := .type "list", data := .seq vs.toArray } ∧ IntsAre vs ns ∧ ns.length ≤ n := by
  have hsh : WShape.hasAll [] args [.list .int] = true := (pre_splitW hpre).1
  have hc : l.pre.holds [] { args := args } = true := (pre_splitW hpre).2
  obtain ⟨d, r, rfl, h1, h2⟩ := hasAllW_cons hsh
  obtain rfl := hasAllW_nil h2
  obtain ⟨xs, rfl, h3⟩ := hasW_list h1
  obtain ⟨ns, rfl⟩ := items_int h3
  have hlen : ns.length ≤ n := by
    unfold OpenLaw.pre at hc
    have h4 : (WTm.not (.lt (.lit (.int (n : Int))) (.len (.arg 0)))).holds [] { args := [.list (ns.map .int)] } = true := by
      have h4 := (holds_andW hc).1
      rw [hn] at h4
      exact h4
    have h5 := condW_of h4 (w_not (w_lt w_lit (w_len_list (w_arg rfl))))
    rw [List.length_map] at h5
    refine Nat.le_of_not_lt fun q => ?_
    have q' : (n : Int) < ((ns.length : Nat) : Int) := by omega
    first
      | (rw [decide_eq_true q'] at h5; exact absurd h5 (by decide))
      | (simp at h5; omega)
  cases hwl with
  | cons w1 w2 =>
    cases w2
    cases w1 with
    | list ho hall => exact ⟨_, _, ns, rfl, rfl, ho, ints_of_wellAll ns _ hall, hlen⟩

theorem post_true (l : OpenLaw) (args : List WData) : l.row.toRowW.claim.post args (.bool true) args = true :=
  postW_of (r := l.row.toRowW) (X := (true == true))
    (show WShape.has [] (.bool true) .bool = true by first | rfl | decide | simp [WShape.has, WShape.arms, WShape.armsAll])
    (show (WTm.eq .res (.lit (.bool true))).value [] { args := args, res := some (.bool true), after := args } = some (.bool (true == true)) from w_eq_bool (w_res rfl) w_lit) rfl

/-! ### the attachment: holds_open's last premise (the goal 'hc' behind k_head) from a wpAny of the law's body -/
theorem attach_call {l : OpenLaw} {n : Nat} {q : Program} {loose : List Str} {XP : (Str → Option Value) → Heap → Prop} {YP : World → Heap → Prop} {d : DefRec}
    (hn : l.most = some n) (hdf : d.params.defaults = [])
    (call : ∀ (w : World) (s₀ s₁ : Shared) (mg mb : Str → Option Value) (fa : Addr) (o : Obj) (pm cd doc : Value) (a : Addr) (vs : List Value) (ns : List Int),
      Ground q loose [] XP w s₀ mg mb s₁.heap → YP w s₁.heap →
      s₁.heap.get? fa = some o → o.data = .func (docDef d.name d.params d.body d.scope pm cd doc) → s₁.heap.CodeRec cd d.name → mg d.name = some (.ref fa) →
      s₁.heap.get? a = some { cls := .type "list", data := .seq vs.toArray } → IntsAre vs ns → ns.length ≤ n → s₁.gens = #[] →
      codeAny (model l.prog w) callerA (.call (.ref fa) ⟨[.ref a], []⟩) (fun r s' => r = .ok (.ret (.bool true)) ∧ OldK s₁.heap s'.heap ∧ s'.os = s₁.os ∧ AllBare s'.gens) s₁) :
    WalkO q loose XP YP l.row.toRowW d [] (fun f vs => PySem.call f vs) := by
  intro w s₀ s₁ mg mb G Y fa o pm cd doc dV kV ho hd hcd hD hmg hg args vals as hpre hlay hrd hwl hlo
  obtain rfl : dV = .none := Dflts.none hD hdf
  obtain rfl : kV = .none := Dflts.noKw hD
  obtain ⟨a, vs, ns, rfl, rfl, hobj, hints, hlen⟩ := script_of hn hpre hwl
  refine enter_call (codeAny_mono (call w s₀ s₁ mg mb fa o pm cd doc a vs ns G Y ho (fd_plain hd) hcd hmg hobj hints hlen hg) fun r s' hq => ?_)
  obtain ⟨rfl, h2, h3, h4⟩ := hq
  exact ⟨.inl ⟨.bool true, .bool true, [], rfl, fun _ => rfl, .bool true, post_true l _, fun _ => ⟨List.Pairwise.nil, fun _ hm => (nomatch hm)⟩⟩, h2, h3, h4⟩

/-! ### rules over ANY heap (no ledger) from facts about the written part K: the library's own take a ledger (News) for what they write -/
section
variable {prog : Program} {w : World} {A : Around} {E : Value → Shared → Prop} {s : Shared} {K : Frag}

/-! the whole heap as the ledger: makes every rule that writes through a ledger a rule over any heap -/
end
end Att

namespace L2
open PySem PySem.Spec PyProof.Rows

theorem vals_ints : ∀ {vs : List Value} {ns : List Int}, IntsAre vs ns → Vals (ns.map V.int) vs
  | _, _, .nil => .nil
  | _, _, .cons n t h => .cons ⟨t, rfl⟩ (vals_ints h)

def Only (H : Hp) : Prop := ∀ b, H b = none ∨ ∃ o xs, H b = some (.frz o (.lst xs))

theorem law_call {P : Program} {w : World} {K : PySem.W.Frag} {mg mb : Str → Option Value} {CX : CXT} {k : Nat} {fa a : Addr} {fd : FuncData} {x : Str} {sp : Sp} {s₁ : Shared} {vs : List Value} {ns : List Int}
    (KX : K.In s₁.heap) (hns : s₁.heap.Ns mainGlobals mg) (hb : s₁.heap.Ns builtinsNs mb) (hbb : ∀ x : Str, x ≠ "__name__" → mb x = bootBuiltins x) (hlim : s₁.heap.NoLimit) (hg : s₁.gens = #[])
    (ha : s₁.heap.get? a = some { cls := .type "list", data := .seq vs.toArray }) (hi : IntsAre vs ns) (hl : ns.length ≤ sizeLine) (hr : Room k callerA)
    (F : ∀ base : Heap, K.In base → base.Ns mainGlobals mg → FnOk P w K mg base CX k fa fd [x] sp) (hbind : ∀ (s : Shared) (u : Value), BindsTo s fd ⟨[u], []⟩ [(x, u)])
    (hsp : ∀ H : Hp, Only H → SqL K H a (ns.map V.int) → sp [.ref a] H (fun v _ => v = .bl true) fun _ _ _ => False)
    (hCX : ∀ H e s', CX [] H s₁ (fun _ _ _ => False) e s' → False) :
    codeAny (model P w) callerA (.call (.ref fa) ⟨[.ref a], []⟩) (fun r s' => r = .ok (.ret (.bool true)) ∧ OldK s₁.heap s'.heap ∧ s'.os = s₁.os ∧ AllBare s'.gens) s₁ := by
  have rv := vals_ints hi
  have lenV := hi.length
  -- from an abstract heap in which nothing but the script may be tracked
  have core : ∀ H : Hp, Only H → SqL K H a (ns.map V.int) → HOk P w H s₁.heap → (∀ b, H b ≠ none → b = a) → (H a ≠ none → K.lookup a = none) →
      codeAny (model P w) callerA (.call (.ref fa) ⟨[.ref a], []⟩) (fun r s' => r = .ok (.ret (.bool true)) ∧ OldK s₁.heap s'.heap ∧ s'.os = s₁.os ∧ AllBare s'.gens) s₁ := by
    intro H hO hS hok hA hK
    have base_of : ∀ {b : Addr} {o : Obj}, s₁.heap.get? b = some o → H b = none → (hidT s₁.heap H).get? b = some o := fun e n => hidT_get e n
    have noA : ∀ {b : Addr} {o : Obj} {es : Array DictEntry} {ep : Nat}, s₁.heap.get? b = some o → o.data = .dict es ep → H b = none := fun {b o es ep} e d => by
      cases q : H b with
      | none => rfl
      | some u =>
        have e' : b = a := hA b (by rw [q]; simp)
        subst e'
        rw [ha] at e; cases e
        have d' : Data.seq vs.toArray _ = Data.dict es ep := d
        cases d'
    have nsK : ∀ {b : Addr} {m : Str → Option Value}, s₁.heap.Ns b m → (hidT s₁.heap H).Ns b m := fun {b m} ⟨o, es, ep, e, d, r⟩ => ⟨o, es, ep, base_of e (noA e d), d, r⟩
    have hKb : K.In (hidT s₁.heap H) := fun b o e => base_of (KX b o e) (by
      cases q : H b with
      | none => rfl
      | some u =>
        have e' : b = a := hA b (by rw [q]; simp)
        subst e'
        rw [hK (by rw [q]; simp)] at e; cases e)
    have hM : Mod K mg (hidT s₁.heap H) := ⟨hKb, nsK hns, ⟨mb, nsK hb, hbb⟩, let ⟨mc, h1, h2⟩ := hlim; ⟨mc, nsK h1, h2⟩⟩
    have e0 : Env0 P w K mg (hidT s₁.heap H) callerA [] s₁ H := ⟨rfl, hM, fun b o e => of_hidT e, Nat.le_of_eq (hidT_size _ _), trivial, fun b hb => absurd (show b ∈ ([] : List Addr) from hb) (by simp), hok, .of_eq hg⟩
    refine codeAny_mono ((F _ hKb (nsK hns)).run callerA [] s₁ H ⟨[.ref a], []⟩ [.ref a] [.ref a] _ _ hr e0 (hbind s₁ (.ref a)) (.cons rfl .nil) (hsp H hO hS)) fun r s' h => ?_
    cases r with
    | error e => exact (hCX H e s' h).elim
    | ok fl =>
      cases fl with
      | next => exact False.elim h
      | brk => exact False.elim h
      | cont => exact False.elim h
      | ret u =>
        obtain ⟨v, H', os, bare, un, hok', r', q⟩ := h
        have q' : v = .bl true := q
        subst q'
        obtain rfl : u = Value.bool true := r'
        refine ⟨rfl, OldK.of_keep fun b o e => ?_, os, bare⟩
        cases q : H b with
        | none => exact un.keep b o e q (by intro z; exact absurd (show b ∈ ([] : List Addr) from z) (by simp)) (by simp)
        | some u =>
          rcases hO b with z | ⟨ob, xs, z⟩
          · rw [q] at z; cases z
          · have z2 := un.frzs b ob _ z
            obtain ⟨e1, _⟩ := hok b _ z
            obtain ⟨e2, _⟩ := hok' b _ z2
            rw [e] at e1; cases e1
            exact e2
  cases hk : K.lookup a with
  | some o =>
    -- the script is one of the module's own objects
    have e := KX a o hk
    rw [ha] at e
    cases e
    refine core (fun _ => none) (fun _ => .inl rfl) (.inr ⟨_, vs.toArray, _, hk, rfl, rfl, rfl, by rw [List.size_toArray, lenV]; exact hl, by simpa using rv⟩) (fun b u z => by have z' : (none : Option HO) = some u := z; cases z') (fun b z => absurd rfl z) fun z => absurd rfl z
  | none =>
    refine core (fun b => if b = a then some (.frz { cls := .type "list", data := .seq vs.toArray } (.lst (ns.map V.int))) else none) (fun b => ?_) (.inl (.inr ⟨{ cls := .type "list", data := .seq vs.toArray }, if_pos rfl⟩)) (fun b u z => ?_) (fun b z => ?_) fun _ => hk
    · by_cases hb : b = a
      · exact .inr ⟨_, _, if_pos hb⟩
      · exact .inl (if_neg hb)
    · by_cases hb : b = a
      · have z' := (if_pos hb).symm.trans z
        cases z'
        subst hb
        exact ⟨ha, by rw [List.length_map]; exact hl, vs, _, rv, ha⟩
      · have z' := (if_neg hb).symm.trans z
        cases z'
    · by_cases hb : b = a
      · exact hb
      · exact absurd (if_neg hb) z
end L2

namespace L2
open PySem PySem.Spec PyProof.Rows

end L2

/- THE LAST THEOREM (shape; LID, My.* are yours):
   My.Adr: a structure of the addresses that your layer names (classes, functions); My.Txt K t: a structure (Prop) of the equations over K;
   My.txt_mk : {K} {implicit addresses ..} (e1 : nsIn K mainGlobals "law" = some (some (.ref f))) (e2 : K.lookup f = some ⟨oc, od, .func (fnOf "law" "law" params body scope dV kV doc pm an cdv ct), sl⟩) (e3 : codeIn K cdv "law" = true) .. : ∃ t, My.Txt K t

set_option maxRecDepth 100000 in
set_option maxHeartbeats 0 in
theorem PySem.Challenge.cw_LID_holds : PySem.Challenge.rw_LID.Holds := by
  w_on; o_law; k_head; (case hw => w_witness2)
  k_fill
  refine L2.walk_of (l := PySem.Challenge.rw_LID) (n := 63) (k := 40) (x := "script") (CX := fun w => ..) (sp := fun _ => My.sp_law) rfl (by decide) rfl ⟨rfl, by decide, by decide⟩ (fun w h Y => PySem.W.kIn_of Y) ?F ?S ?C
  case F =>
    intro w mg fa h KX G hmg
    have T : ∃ t, My.Txt (L2.KOf KX) t := by
      dsimp only [L2.KOf]                          -- K must stand as «<heap const> w.params» for k_is
      refine' My.txt_mk ?e1 ?e2 ?e3 ..
      (case e1 => PySem.W.k_is)                    -- in the order: a name -> its address -> its object -> its parts
      (case e2 => PySem.W.k_is)
      ..
    obtain ⟨t, T⟩ := T
    have e0 := hmg.symm.trans (PySem.W.mg_of KX G T.law)
    cases e0                                       -- fa is the law's own address
    exact ⟨_, fun s u => .of_eq rfl, fun base kb nb => My.law_fn T kb nb⟩     -- if «.of_eq rfl» comes too early: refine' ⟨_, ?b, fun base kb nb => My.law_fn T kb nb⟩; exact fun s u => .of_eq rfl
  case S => exact fun w H a ns hl hO hS => ..
  case C => exact ..
(the tactic k_is has no namespace: write k_is) -/

/-! SHORT WORDS over the layer: a def of the text, its body, what a loop and a test want. -/
namespace L2
open PySem PySem.Spec PyProof.Rows

/-! ### the text by places -/
def defArgs (s : Stmt) : Arguments := match s with
  | .FunctionDef _ a _ _ _ _ _ _ _ _ => a
  | _ => { posonlyargs := [], args := [], vararg := none, kwonlyargs := [], kw_defaults := [], kwarg := none, defaults := [] }
def defBody (s : Stmt) : List Stmt := match s with
  | .FunctionDef _ _ b _ _ _ _ _ _ _ => b
  | _ => []
def defScope (s : Stmt) : Scope := match s with
  | .FunctionDef _ _ _ _ _ _ sc _ _ _ => sc
  | _ => { kind := .function, names := [], isGenerator := false, isCoroutine := false }

/-! ### no exception leaves a def -/
abbrev CX0 : CXT := fun _ _ _ _ _ _ => False
abbrev E0 : XK := fun _ _ _ => False
theorem pass0 {X : Cx} : Passes CX0 X E0 := fun _ _ _ _ _ _ _ h => h.elim

/-! ### a def (or method) of the text as it stands behind the top -/
structure Fun (K : PySem.W.Frag) (x qual : Str) (st : Stmt) (f : Addr) (fd : FuncData) : Prop where
  ex : ∃ (oc : Value) (od : Option Addr) (kV doc pm : Value) (an : Option Addr) (cdv ct : Value) (osl : Array (Option Value)),
    fd = PySem.W.fnOf x qual (defArgs st) (defBody st) (defScope st) .none kV doc pm an cdv ct ∧ K.lookup f = some ⟨oc, od, .func fd, osl⟩ ∧ PySem.W.codeIn K cdv qual = true
  kp : PySem.W.keepIn K (.ref f) = true
section
variable {P : Program} {w : World} {K : PySem.W.Frag} {mg : Str → Option Value} {base : Heap}
theorem Fun.ok {x qual : Str} {st : Stmt} {f : Addr} {fd : FuncData} {N ps : List Str} {k : Nat} {sp : Sp} (F : Fun K x qual st f fd) (S : FnScope N ps (defScope st)) (len : ∀ vs H Q E, sp vs H Q E → vs.length = ps.length)
    (hbody : ∀ (cdv : Value) (A : Around) (outer : List Env) (s : Shared) (H : Hp) (vs : List V) (Q : VK) (E : XK), Room k (A.deeper (envOfC qual (defScope st) s.heap.objs.size f cdv)) → sp vs H Q E →
      ∃ t, PSs (cxOf CX0 P w K mg base N qual (defScope st) f cdv A outer s H E).nox (defBody st) t ∧ t { nx := fun _ H' => Q .non H', rt := Q } (start N vs) H) : FnOk P w K mg base CX0 (k + 1) f fd ps sp := by
  obtain ⟨oc, od, kV, doc, pm, an, cdv, ct, osl, rfl, lk, hcd⟩ := F.ex
  refine fn_of lk hcd S len fun A outer s H vs Q E hr hsp => ?_
  obtain ⟨t, h, q⟩ := hbody cdv A outer s H vs Q E hr hsp
  exact ⟨t, h.nox, q⟩
theorem Fun.binds {x qual : Str} {st : Stmt} {f : Addr} {fd : FuncData} {ps : List Str} (F : Fun K x qual st f fd)
    (h : ∀ (kV doc pm : Value) (an : Option Addr) (cdv ct : Value) (us : List Value), us.length = ps.length → bindArgs (PySem.W.fnOf x qual (defArgs st) (defBody st) (defScope st) .none kV doc pm an cdv ct) ⟨us, []⟩ = pure (ps.zip us)) : Binds K fd ps [] := by
  obtain ⟨oc, od, kV, doc, pm, an, cdv, ct, osl, rfl, lk, hcd⟩ := F.ex
  exact .all (h kV doc pm an cdv ct)
theorem fun_mk {x qual : Str} {st : Stmt} {f : Addr} {oc : Value} {od an : Option Addr} {osl : Array (Option Value)} {kV doc pm cdv ct : Value} (l : K.lookup f = some ⟨oc, od, .func (PySem.W.fnOf x qual (defArgs st) (defBody st) (defScope st) .none kV doc pm an cdv ct), osl⟩)
    (c : PySem.W.codeIn K cdv qual = true) (k : PySem.W.keepIn K (.ref f) = true) : Fun K x qual st f (PySem.W.fnOf x qual (defArgs st) (defBody st) (defScope st) .none kV doc pm an cdv ct) := ⟨⟨oc, od, kV, doc, pm, an, cdv, ct, osl, rfl, l, c⟩, k⟩
end
theorem hu_of {A : Around} {k : Nat} (hr : Room k A) : A.units + 1 < cLine := Nat.lt_of_le_of_lt (Nat.add_le_add_left (by decide : 1 ≤ 64) _) hr.units
theorem small1000 {n : Nat} (h : n ≤ 1000) : n < sizeLine := Nat.lt_of_le_of_lt h (by decide)

/-! ### expressions in short: the name that stands in the i-th slot -/
section
variable {X : Cx}
theorem pv (i : Nat) {x : Str} {pos : Pos} (hN : X.N[i]? = some x := by rfl) (hv : Vis X.env.scope x := by first | exact Or.inl rfl | exact Or.inr (Or.inl rfl) | exact Or.inr (Or.inr rfl)) (hd : (x == ("__debug__" : Str)) = false := by decide)
    (hcd : (x == ("__classdict__" : Str)) = false := by decide) : PE X (.Name x pos) (tVar i) := pe_var hN hv hd hcd
end

/-! ### tests -/
theorem iteF {A B : Prop} (h : B) : if false = true then A else B := by
  rw [if_neg Bool.false_ne_true]
  exact h
theorem iteT {A B : Prop} (h : A) : if true = true then A else B := by
  rw [if_pos rfl]
  exact h
theorem ite2 {c A B : Prop} [Decidable c] (h1 : c → A) (h2 : ¬ c → B) : if c then A else B := by
  by_cases h : c
  · rw [if_pos h]
    exact h1 h
  · rw [if_neg h]
    exact h2 h
/-! ### heaps -/
def Same (H H' : Hp) : Prop := ∀ b o, H b = some o → H' b = some o
theorem Same.refl (H : Hp) : Same H H := fun _ _ h => h
theorem Same.trans {H H1 H2 : Hp} (a : Same H H1) (b : Same H1 H2) : Same H H2 := fun c o h => b c o (a c o h)
theorem Same.free {H H' : Hp} (e : Same H H') {l : Addr} (h : H' l = Option.none) : H l = Option.none := by
  cases q : H l with
  | none => rfl
  | some o =>
    rw [e l o q] at h
    cases h
theorem Same.seq {K : PySem.W.Frag} {H H' : Hp} {a : Addr} {xs : List V} (e : Same H H') (h : SqL K H a xs) : SqL K H' a xs := by
  rcases h with (h | ⟨o, h⟩) | h
  · exact .inl (.inl (e _ _ h))
  · exact .inl (.inr ⟨o, e _ _ h⟩)
  · exact .inr h

section
variable {X : Cx}
end
/-! ### a dict's pairs: keys that differ -/
section
variable {κ : Type} [DecidableEq κ]
end
end L2

set_option Elab.async false
set_option linter.all false
set_option maxRecDepth 100000
set_option maxHeartbeats 4000000
/-! our own rules over the hand layer -/
namespace L2
open PySem PySem.Spec PyProof.Rows

/-! ### values as data, over the abstract heap -/
mutual
inductive Rp (K : PySem.W.Frag) (H : Hp) : V → PyData → Prop
  | non : Rp K H .non .none
  | bl (b : Bool) : Rp K H (.bl b) (.bool b)
  | int (i : Int) : Rp K H (.int i) (.int i)
  | str (x : Str) : Rp K H (.str x) (.str x)
  | lst {a : Addr} {xs : List V} {ds : List PyData} : H a = some (.lst xs) → RpL K H xs ds → Rp K H (.ref a) (.list ds)
  | tup {a : Addr} {xs : List V} {ds : List PyData} : H a = some (.tup xs) → RpL K H xs ds → Rp K H (.ref a) (.tuple ds)
inductive RpL (K : PySem.W.Frag) (H : Hp) : List V → List PyData → Prop
  | nil : RpL K H [] []
  | cons {x : V} {d : PyData} {xs : List V} {ds : List PyData} : Rp K H x d → RpL K H xs ds → RpL K H (x :: xs) (d :: ds)
end
mutual
theorem Rp.mono {K : PySem.W.Frag} {H H' : Hp} (g : Same H H') : ∀ {v : V} {d : PyData}, Rp K H v d → Rp K H' v d
  | _, _, .non => .non
  | _, _, .bl b => .bl b
  | _, _, .int i => .int i
  | _, _, .str x => .str x
  | _, _, .lst h r => .lst (g _ _ h) (RpL.mono g r)
  | _, _, .tup h r => .tup (g _ _ h) (RpL.mono g r)
theorem RpL.mono {K : PySem.W.Frag} {H H' : Hp} (g : Same H H') : ∀ {vs : List V} {ds : List PyData}, RpL K H vs ds → RpL K H' vs ds
  | _, _, .nil => .nil
  | _, _, .cons h r => .cons (Rp.mono g h) (RpL.mono g r)
end
mutual
theorem Rp.reads {X : Cx} {pins : List (Addr × Obj)} {σ : St} {H : Hp} {s : Shared} (I : Inv X pins σ H s) : ∀ {v : V} {d : PyData} {u : Value}, Rp X.K H v d → RelV v u → ∃ as, Reads s.heap u d as
  | _, _, _, .non, r => by cases r; exact ⟨_, .none⟩
  | _, _, _, .bl b, r => by cases r; exact ⟨_, .bool b⟩
  | _, _, _, .int i, r => by obtain ⟨t, rfl⟩ := r; exact ⟨_, .int i t⟩
  | _, _, _, .str x, r => by obtain ⟨t, rfl⟩ := r; exact ⟨_, .str x t⟩
  | _, _, _, .lst h q, r => by
    cases r
    obtain ⟨its, rv, ⟨o, n, e, hc, hd, hs⟩, _⟩ := I.list (SqL.of h)
    obtain ⟨as, ra⟩ := RpL.reads I q rv
    exact ⟨_, .list e hc hs (by simpa using ra)⟩
  | _, _, _, .tup h q, r => by
    cases r
    obtain ⟨its, rv, ⟨o, e, hc, n, hs⟩, _⟩ := I.tuple (SqT.of h)
    obtain ⟨as, ra⟩ := RpL.reads I q rv
    exact ⟨_, .tuple e hc hs (by simpa using ra)⟩
theorem RpL.reads {X : Cx} {pins : List (Addr × Obj)} {σ : St} {H : Hp} {s : Shared} (I : Inv X pins σ H s) : ∀ {vs : List V} {ds : List PyData} {us : List Value}, RpL X.K H vs ds → Vals vs us → ∃ as, ReadsAll s.heap us ds as
  | _, _, _, .nil, .nil => ⟨_, .nil⟩
  | _, _, _, .cons h q, .cons r t => by
    obtain ⟨as, ra⟩ := Rp.reads I h r
    obtain ⟨bs, rb⟩ := RpL.reads I q t
    exact ⟨_, .cons ra rb⟩
end
theorem same_new {H : Hp} {p : Addr} (h : H p = none) (o : HO) : Same H (upd H p o) := fun b u q => by rw [upd_ne (ne_of_none q h)]; exact q

section
variable {X : Cx}
/-! ### == and != of data (lists, tuples, flat values, at any depth) -/
def rEqD (K : PySem.W.Frag) : R2 := fun x y H Q => ∃ d e, Rp K H x d ∧ Rp K H y e ∧ SeqAt.shaped d = true ∧ SeqAt.shaped e = true ∧ Q (.bl (PyData.eqv d e)) H
def rNeD (K : PySem.W.Frag) : R2 := fun x y H Q => ∃ d e, Rp K H x d ∧ Rp K H y e ∧ SeqAt.shaped d = true ∧ SeqAt.shaped e = true ∧ Q (.bl (!PyData.eqv d e)) H
theorem op_eqD (hu : X.A.units + 64 < cLine) : OpR X (compareOp .Eq) (rEqD X.K) := by
  intro pins s σ H x y v u Q I rx ry h
  obtain ⟨d, e, hx, hy, sd, se, q⟩ := h
  obtain ⟨as, ra⟩ := hx.reads I rx
  obtain ⟨bs, rb⟩ := hy.reads I ry
  exact eq_dataH ra rb sd se hu ⟨.bl _, H, I, rfl, q⟩
theorem op_neD (hu : X.A.units + 64 < cLine) : OpR X (compareOp .NotEq) (rNeD X.K) := by
  intro pins s σ H x y v u Q I rx ry h
  obtain ⟨d, e, hx, hy, sd, se, q⟩ := h
  obtain ⟨as, ra⟩ := hx.reads I rx
  obtain ⟨bs, rb⟩ := hy.reads I ry
  exact ne_dataH ra rb sd se hu ⟨.bl _, H, I, rfl, q⟩
/-! ### != of two dicts that hold the same flat pairs -/
/-! ### dict(d) -/
/-! ### isinstance(x, T), T a built-in type -/
theorem pe_type {n : Str} {T : String} {pos : Pos} (hg : Gl X n) (hm : X.mg n = none) (hv : bootBuiltins n = some (.type T)) (hn : n ≠ "__name__" := by decide) (hd : (n == ("__debug__" : Str)) = false := by decide) : PE X (.Name n pos) (tC (.ty T)) :=
  pe_bltn hg hm hv rfl hn hd
end

/-! ### items of tracked lists and tuples -/
def rIxG : R2 := fun x y H Q => ∃ p i xs v, x = .ref p ∧ y = .int i ∧ (H p = some (.tup xs) ∨ H p = some (.lst xs)) ∧ atI xs i = some v ∧ Q v H
theorem ix_g {X : Cx} : IxR X rIxG := by
  intro value slice pins s σ H x y v u Q I rx ry h hs
  obtain ⟨p, i, xs, z, rfl, rfl, hq, he, q⟩ := h
  rcases hq with hq | hq
  · exact ix_tup value slice pins s σ H _ _ v u Q I rx ry ⟨p, xs, i, z, rfl, rfl, SqT.of hq, he, q⟩ hs
  · exact ix_list value slice pins s σ H _ _ v u Q I rx ry ⟨p, xs, i, z, rfl, rfl, SqL.of hq, he, q⟩ hs
theorem atI_0 {α : Type} {a : α} {l : List α} : atI (a :: l) 0 = some a := atI_nat (j := 0) rfl
theorem atI_1 {α : Type} {a b : α} {l : List α} : atI (a :: b :: l) 1 = some b := atI_nat (j := 1) rfl
theorem atI_2 {α : Type} {a b c : α} {l : List α} : atI (a :: b :: c :: l) 2 = some c := atI_nat (j := 2) rfl
theorem atI_3 {α : Type} {a b c d : α} {l : List α} : atI (a :: b :: c :: d :: l) 3 = some d := atI_nat (j := 3) rfl
theorem atI_4 {α : Type} {a b c d e : α} {l : List α} : atI (a :: b :: c :: d :: e :: l) 4 = some e := atI_nat (j := 4) rfl
theorem atI_in {α : Type} {xs : List α} {i : Int} (h0 : 0 ≤ i) (h1 : i < xs.length) : ∃ v, atI xs i = some v ∧ v ∈ xs ∧ xs[i.toNat]? = some v := by
  have hk : i.toNat < xs.length := by omega
  have e : ((i.toNat : Nat) : Int) = i := by omega
  refine ⟨xs[i.toNat], ?_, List.getElem_mem hk, List.getElem?_eq_getElem hk⟩
  have := atI_nat (xs := xs) (j := i.toNat) (v := xs[i.toNat]) (List.getElem?_eq_getElem hk)
  rwa [e] at this
theorem fresh_any {H : Hp} {o : HO} {R : Addr → Hp → Prop} (h : ∀ p H', H p = none → Same H H' → H' p = some o → R p H') : ∀ p, H p = none → R p (upd H p o) := fun p hp => h p _ hp (same_new hp o) upd_same
theorem sz {n : Nat} (h : n ≤ 1000) : (n ≤ sizeLine) = True := eq_true (Nat.le_of_lt (small1000 h))
theorem mn1 {n : Nat} : min 1 (n + 1) = 1 := by omega
theorem mn2 {n : Nat} : min 2 (n + 2) = 2 := by omega
theorem na2 : Int.natAbs 2 = 2 := rfl
theorem na10 : Int.natAbs 10 = 10 := rfl
theorem sz0 : (0 ≤ sizeLine) = True := sz (by decide)
theorem sz1 : (1 ≤ sizeLine) = True := sz (by decide)
theorem sz2 : (2 ≤ sizeLine) = True := sz (by decide)
theorem sz3 : (3 ≤ sizeLine) = True := sz (by decide)
theorem sz4 : (4 ≤ sizeLine) = True := sz (by decide)
theorem sz5 : (5 ≤ sizeLine) = True := sz (by decide)
theorem sz6 : (6 ≤ sizeLine) = True := sz (by decide)
theorem sz8 : (8 ≤ sizeLine) = True := sz (by decide)
theorem ofString_inj {a b : String} : (Str.ofString a = Str.ofString b) = (a = b) := by
  apply propext
  constructor
  · intro h
    rw [Str.ofString_eq_toList, Str.ofString_eq_toList] at h
    injection h with h
    have h2 : a.toList.map Char.toNat = b.toList.map Char.toNat := by simpa using congrArg Array.toList h
    have inj : ∀ c d : Char, c.toNat = d.toNat → c = d := fun c d e => Char.ext (UInt32.toNat_inj.mp e)
    exact String.toList_inj.mp (List.map_inj_right (fun c d e => inj c d e) |>.mp h2)
  · rintro rfl; rfl
/-! ### dicts, by what the key is -/
def keyOf : V → Option Key
  | .int i => some (.inl i)
  | .str x => some (.inr x)
  | _ => none
theorem kV_of {y : V} {k : Key} (h : keyOf y = some k) : y = kV k := by
  cases y <;> simp only [keyOf, Option.some.injEq, reduceCtorEq] at h <;> subst h <;> rfl
section
variable {X : Cx} {i o e value : Expr} {ty td te tv : TE} {pos pos' apos cpos : Pos}
def tDInG (ty td : TE) : TE := fun σ H Q => ty σ H fun y H1 => td σ H1 fun x H2 => ∃ a kvs k, x = .ref a ∧ H2 a = some (.dK kvs) ∧ keyOf y = some k ∧ Q (.bl (valV kvs k).isSome) H2
def tDNotInG (ty td : TE) : TE := fun σ H Q => ty σ H fun y H1 => td σ H1 fun x H2 => ∃ a kvs k, x = .ref a ∧ H2 a = some (.dK kvs) ∧ keyOf y = some k ∧ Q (.bl (!(valV kvs k).isSome)) H2
def tDGetG (td ty : TE) : TE := fun σ H Q => td σ H fun x H1 => ty σ H1 fun y H2 => ∃ a kvs k v, x = .ref a ∧ H2 a = some (.dK kvs) ∧ keyOf y = some k ∧ valV kvs k = some v ∧ Q v H2
def sDPutG (td ty tv : TE) : TS := fun D σ H => tv σ H fun v H1 => td σ H1 fun x H2 => ty σ H2 fun y H3 => ∃ a kvs k, x = .ref a ∧ H3 a = some (.dK kvs) ∧ keyOf y = some k ∧ kvs.length < sizeLine ∧ D.nx σ (upd H3 a (.dK (putK kvs k v)))
theorem pe_dgetG (hu : X.A.units + 1 < cLine) (ho : PE X o td) (hi : PE X i ty) (hs : NoSl i) : PE X (.Subscript o i pos) (tDGetG td ty) := by
  intro pins s σ H Q I h
  refine subD_of PySem.F.slot_dict_getitem.lookup hs (thn (ho pins s σ H _ I h) fun u s1 ⟨x, H1, I1, rx, q1⟩ => thn (hi pins s1 σ H1 _ I1 q1) fun iv s2 ⟨y, H2, I2, ry, a, kvs, k, v, ex, ha, ek, ev, q2⟩ => ?_)
  subst ex
  obtain rfl : u = Value.ref a := rx
  have g : DGet H2 a y (some v) := by rw [kV_of ek, ← ev]; exact DGet.k ha
  exact ⟨dict_typeIs I2 g, d_getItem hu I2 g ry fun w' s3 I3 rw' => ⟨v, H2, I3, rw', q2⟩⟩
theorem pc_dnotinG (hu : X.A.units + 1 < cLine) (hi : PE X i ty) (ho : PE X o td) : PC X .NotIn i o (tDNotInG ty td) := by
  intro pins s σ H Q I h
  refine thn (hi pins s σ H _ I h) fun iv s1 ⟨y, H1, I1, ry, q1⟩ => thn (ho pins s1 σ H1 _ I1 q1) fun u s2 ⟨x, H2, I2, rx, a, kvs, k, ex, ha, ek, q2⟩ => ?_
  subst ex
  obtain rfl : u = Value.ref a := rx
  have g : DGet H2 a y (valV kvs k) := by rw [kV_of ek]; exact DGet.k ha
  exact d_notIn hu I2 g ry fun s3 I3 => ⟨.bl _, H2, I3, rfl, q2⟩
theorem ps_dputG (hu : X.A.units + 1 < cLine) (ho : PE X o td) (hi : PE X i ty) (hv : PE X value tv) (hs : swapsWith value (some (.Subscript o i pos')) pos.line X.env = pure false := by rfl) :
    PS X (.Assign [.Subscript o i pos'] value pos) (sDPutG td ty tv) := by
  intro pins s σ H D I h
  refine wpAny_Assign_Subscript (thn (hv pins s σ H _ I h) fun r s1 ⟨v, H1, I1, rv, q1⟩ => thn (ho pins s1 σ H1 _ I1 q1) fun u s2 ⟨x, H2, I2, rx, q2⟩ => thn (hi pins s2 σ H2 _ I2 q2) fun iv s3 ⟨y, H3, I3, ry, a, kvs, k, ex, ha, ek, hz, q3⟩ => ?_) hs
  subst ex
  obtain rfl : u = Value.ref a := rx
  have g : DPut H3 a y v (upd H3 a (.dK (putK kvs k v))) := by rw [kV_of ek]; exact DPut.k ha hz
  exact d_setItem hu I3 g ry rv fun s4 I4 => ⟨σ, _, I4, q3⟩
def tApp (to te : TE) : TE := fun σ H Q => to σ H fun x H1 => ∃ l xs, x = .ref l ∧ H1 l = some (.lst xs) ∧ te σ H1 fun y H2 => rAppend (.ref l) [y] H2 Q
theorem pe_app (ho : PE X o td) (he : PE X e te)
    (hbase : attributeBase o "append" X.env (eval o X.env) = eval o X.env := by rfl)
    (hfew : ((backTo cpos (starEach [e] X.env)).all (fun x => !x.1) && (backToKw cpos (keywordEach [] X.env)).all (fun x => x.1.isSome)
      && decide ([e].length + ([] : List Keyword).length + (if ([] : List Keyword).isEmpty then 0 else 1) < 30)) = true := by rfl)
    (hline : (apos.endLine == cpos.line) = true := by rfl) (hs : starEach [e] X.env = [(false, eval e X.env)] := by rfl) :
    PE X (.Call (.Attribute o "append" apos) [e] [] cpos) (tApp td te) := by
  intro pins s σ H Q I h
  refine wpAny_Call_method_late hbase hfew hline rfl (thn (ho pins s σ H _ I h) fun v s1 ⟨x, H1, I1, r1, l, xs, ex, hl, q1⟩ => ?_)
  subst ex
  obtain ⟨h1, h2⟩ := tyV_is (T := "list") I1 r1 (Or.inl ⟨rfl, xs, SqL.of hl⟩)
  refine ⟨"list", _, PySem.F.plainAttrs_list, PySem.F.slot_list_append, PySem.F.type_list_append, h1, h2, ?_⟩
  have hA := (pa_cons he pa_nil (hs := by rw [hs]; rfl)) cpos pins s1 σ H1 (fun vs H2 => rAppend (.ref l) vs H2 Q) I1 q1
  rw [hs] at hA ⊢
  refine Calls.callWith_builtin (by rfl) (Calls.evalArgs_plain ?_)
  exact thn hA fun us s2 ⟨vs, H2, I2, r2, q2⟩ => mt_append pins s2 σ H2 _ vs v us Q I2 r1 r2 q2
end

/-! ### facts that simp uses -/
theorem scal_ss {a b : Str} : scal (.str a) (.str b) = true := rfl
theorem scal_ii {a b : Int} : scal (.int a) (.int b) = true := rfl
theorem scal_bb {a b : Bool} : scal (.bl a) (.bl b) = true := rfl
theorem scal_nn : scal .non .non = true := rfl
theorem scal_ns {b : Str} : scal .non (.str b) = true := rfl
theorem scal_sn {b : Str} : scal (.str b) .non = true := rfl
theorem scal_ni {b : Int} : scal .non (.int b) = true := rfl
theorem scal_in {b : Int} : scal (.int b) .non = true := rfl
theorem keyOf_s {a : Str} : keyOf (.str a) = some (.inr a) := rfl
theorem keyOf_i {a : Int} : keyOf (.int a) = some (.inl a) := rfl
theorem flat_s {a : Str} : flatV (.str a) = true := rfl
theorem flat_i {a : Int} : flatV (.int a) = true := rfl
theorem flat_n : flatV .non = true := rfl
theorem flat_b {a : Bool} : flatV (.bl a) = true := rfl
theorem inV_nil {x : V} : inV x [] = false := rfl
theorem inV_cons {x y : V} {l : List V} : inV x (y :: l) = (eqV y x || inV x l) := rfl
theorem eqV_ss {a b : Str} : eqV (.str a) (.str b) = decide (a = b) := by
  show (a == b) = _
  rw [Bool.eq_iff_iff]; simp
theorem eqV_ii {a b : Int} : eqV (.int a) (.int b) = decide (a = b) := by
  show (a == b) = _
  rw [Bool.eq_iff_iff]; simp
theorem cx_K {CX : CXT} {P : Program} {w : World} {K : PySem.W.Frag} {mg : Str → Option Value} {base : Heap} {N : List Str} {qual : Str} {scope : Scope} {f : Addr} {cd : Value} {A : Around} {outer : List Env} {s : Shared} {H : Hp} {E : XK} : (cxOf CX P w K mg base N qual scope f cd A outer s H E).K = K := rfl
section
variable {X : Cx}
def rInG (neg : Bool) : R2 := fun x y H Q => ∃ p xs, y = .ref p ∧ (H p = some (.tup xs) ∨ H p = some (.lst xs)) ∧ flatV x = true ∧ xs.all flatV = true ∧ Q (.bl (if neg then !inV x xs else inV x xs)) H
theorem op_inG : OpR X (compareOp .In) (rInG false) := by
  intro pins s σ H x y v u Q I rx ry h
  obtain ⟨p, xs, rfl, hq, fx, fs, q⟩ := h
  exact op_in_seq pins s σ H x _ v u Q I rx ry ⟨p, xs, rfl, hq.symm.imp SqL.of SqT.of, fx, fs, q⟩
theorem op_notInG : OpR X (compareOp .NotIn) (rInG true) := by
  intro pins s σ H x y v u Q I rx ry h
  obtain ⟨p, xs, rfl, hq, fx, fs, q⟩ := h
  exact op_notIn_seq pins s σ H x _ v u Q I rx ry ⟨p, xs, rfl, hq.symm.imp SqL.of SqT.of, fx, fs, q⟩
def gTupG (n : Nat) (t : TGs) : TG := fun v σ H Q => ∃ a xs, v = .ref a ∧ H a = some (.tup xs) ∧ xs.length = n ∧ t xs σ H Q
theorem pg_tupG {es : List Expr} {k : Nat} {t : TGs} {pos : Pos} (n : Nat) (hc : X.calm = true) (h : PGs X es t)
    (hn : (assignEach es X.env).length = n := by rfl) (hst : (assignEach es X.env).findIdx? (·.1) = none := by rfl) : PG X (.Tuple es k pos) (gTupG n t) := by
  intro pins s σ H v u Q I r hw
  obtain ⟨a, xs, e1, hq, hl, hw⟩ := hw
  exact pg_tup hc h hn hst pins s σ H v u Q I r ⟨a, xs, e1, SqT.of hq, hl, hw⟩
def tM (t : TE) : TE := fun σ H Q => ∃ Q1 : VK, t σ H Q1 ∧ ∀ v H', Q1 v H' → Q v H'
theorem PE.up {e : Expr} {t : TE} (h : PE X e t) : PE X e (tM t) := by
  intro pins s σ H Q I hq
  obtain ⟨Q1, h1, h2⟩ := hq
  exact thn (h pins s σ H Q1 I h1) fun u s' ⟨v, H', I', r, q⟩ => ⟨v, H', I', r, h2 v H' q⟩
def rSlG : V → Option Int → Option Int → Hp → VK → Prop := fun x lo hi H Q => ∃ a xs, x = .ref a ∧
  ((H a = some (.tup xs) ∧ ¬ (HT.sIx xs.length 0 lo = 0 ∧ HT.sIx xs.length xs.length hi = xs.length) ∧ ∀ p H', H p = none → Same H H' → H' p = some (.tup (cutV xs lo hi)) → Q (.ref p) H') ∨
   (H a = some (.lst xs) ∧ ∀ p H', H p = none → Same H H' → H' p = some (.lst (cutV xs lo hi)) → Q (.ref p) H'))
theorem sl_g : SlR X rSlG := by
  intro pins s σ H x v vl vu lo hi sl Q I rx hs pl pu h
  obtain ⟨a, xs, rfl, ⟨ha, hn, q⟩ | ⟨ha, q⟩⟩ := h
  · exact sl_tup pins s σ H _ v vl vu lo hi sl Q I rx hs pl pu ⟨a, xs, rfl, SqT.of ha, hn, fresh_any q⟩
  · exact sl_list pins s σ H _ v vl vu lo hi sl Q I rx hs pl pu ⟨a, xs, rfl, SqL.of ha, fresh_any q⟩
def rSlK (K : PySem.W.Frag) : V → Option Int → Option Int → Hp → VK → Prop := fun x lo hi H Q => ∃ a xs, x = .ref a ∧ SqL K H a xs ∧ ∀ p H', H p = none → Same H H' → H' p = some (.lst (cutV xs lo hi)) → Q (.ref p) H'
theorem sl_k : SlR X (rSlK X.K) := by
  intro pins s σ H x v vl vu lo hi sl Q I rx hs pl pu h
  obtain ⟨a, xs, rfl, ha, q⟩ := h
  exact sl_list pins s σ H _ v vl vu lo hi sl Q I rx hs pl pu ⟨a, xs, rfl, ha, fresh_any q⟩
theorem cut_upto {xs : List V} {n : Nat} (h : xs.length ≤ n) : cutV xs none (some (n : Int)) = xs := by
  have e : HT.sIx xs.length xs.length (some (n : Int)) = xs.length := by
    show (if (n : Int) < 0 then ((n : Int) + (xs.length : Int)).toNat else min (n : Int).toNat xs.length) = xs.length
    rw [if_neg (by omega)]
    omega
  unfold cutV
  rw [e]
  show List.take (xs.length - 0) (List.drop 0 xs) = xs
  rw [List.drop_zero]
  exact List.take_of_length_le (by omega)
/-! ### what is made lies in some heap that has all that was there -/
def tMA (t : TA) : TA := fun σ H Q => ∃ Q1 : List V → Hp → Prop, t σ H Q1 ∧ ∀ vs H', Q1 vs H' → Q vs H'
theorem PA.up {es : List Expr} {t : TA} (h : PA X es t) : PA X es (tMA t) := by
  intro pos pins s σ H Q I hq
  obtain ⟨Q1, h1, h2⟩ := hq
  exact thn (h pos pins s σ H Q1 I h1) fun us s' ⟨vs, H', I', r, q⟩ => ⟨vs, H', I', r, h2 vs H' q⟩
def tTupG (t : TA) : TE := fun σ H Q => t σ H fun xs H1 => xs.length ≤ sizeLine ∧ ∀ p H', H1 p = none → Same H1 H' → H' p = some (.tup xs) → Q (.ref p) H'
def tLstG (t : TA) : TE := fun σ H Q => t σ H fun xs H1 => xs.length ≤ sizeLine ∧ ∀ p H', H1 p = none → Same H1 H' → H' p = some (.lst xs) → Q (.ref p) H'
theorem pe_tupG {es : List Expr} {t : TA} {pos : Pos} {x1} (h : PA X es t) : PE X (.Tuple es x1 pos) (tTupG t) := fun pins s σ H Q I hq =>
  pe_tup h.up pins s σ H Q I ⟨_, hq, fun _ _ q => ⟨q.1, fresh_any q.2⟩⟩
theorem pe_lstG {es : List Expr} {t : TA} {pos : Pos} (h : PA X es t) : PE X (.List es pos) (tLstG t) := fun pins s σ H Q I hq =>
  pe_lst h.up pins s σ H Q I ⟨_, hq, fun _ _ q => ⟨q.1, fresh_any q.2⟩⟩
def tDNewG : TE := fun _ H Q => ∀ p H', H p = none → Same H H' → H' p = some (.dK []) → Q (.ref p) H'
def rDictG : List V → Hp → VK → Prop := fun xs H Q => ∃ a kvs, xs = [.ref a] ∧ H a = some (.dK kvs) ∧ ∀ p H', H p = none → Same H H' → H' p = some (.dK kvs) → Q (.ref p) H'
structure Mu (H : Hp) (l : Addr) (o : HO) (H' : Hp) : Prop where
  at_ : H' l = some o
  else_ : ∀ a, a ≠ l → H' a = H a
theorem Mu.mk' {H : Hp} {l : Addr} {o : HO} : Mu H l o (upd H l o) := ⟨upd_same, fun _ h => upd_ne h⟩
theorem Mu.old {H H' : Hp} {l a : Addr} {o u : HO} (m : Mu H l o H') (h : H a = some u) (n : a ≠ l) : H' a = some u := by rw [m.else_ a n]; exact h
theorem Mu.same {H0 H H' : Hp} {l : Addr} {o : HO} (m : Mu H l o H') (g : Same H0 H) (n : H0 l = none) : Same H0 H' := fun a u h => m.old (g a u h) (ne_of_none h n)
def tAppG (to te : TE) : TE := fun σ H Q => to σ H fun x H1 => ∃ l xs, x = .ref l ∧ H1 l = some (.lst xs) ∧ te σ H1 fun y H2 => ∃ ys, H2 l = some (.lst ys) ∧ ys.length < sizeLine ∧ ∀ H3, Mu H2 l (.lst (ys ++ [y])) H3 → Q .non H3
theorem pe_appG {o e : Expr} {td te : TE} {apos cpos : Pos} (ho : PE X o td) (he : PE X e te)
    (hbase : attributeBase o "append" X.env (eval o X.env) = eval o X.env := by rfl)
    (hfew : ((backTo cpos (starEach [e] X.env)).all (fun x => !x.1) && (backToKw cpos (keywordEach [] X.env)).all (fun x => x.1.isSome)
      && decide ([e].length + ([] : List Keyword).length + (if ([] : List Keyword).isEmpty then 0 else 1) < 30)) = true := by rfl)
    (hline : (apos.endLine == cpos.line) = true := by rfl) (hs : starEach [e] X.env = [(false, eval e X.env)] := by rfl) :
    PE X (.Call (.Attribute o "append" apos) [e] [] cpos) (tAppG td te) := fun pins s σ H Q I h =>
  pe_app ho.up he.up hbase hfew hline hs pins s σ H Q I ⟨_, h, fun _ _ ⟨l, xs, e1, h1, q⟩ => ⟨l, xs, e1, h1, _, q, fun y _ ⟨ys, h2, hz, q⟩ => ⟨l, ys, y, rfl, rfl, h2, hz, q _ .mk'⟩⟩⟩
def sDPutG2 (td ty tv : TE) : TS := fun D σ H => tv σ H fun v H1 => td σ H1 fun x H2 => ty σ H2 fun y H3 => ∃ a kvs k, x = .ref a ∧ H3 a = some (.dK kvs) ∧ keyOf y = some k ∧ kvs.length < sizeLine ∧ ∀ H4, Mu H3 a (.dK (putK kvs k v)) H4 → D.nx σ H4
theorem ps_dputG2 {i o value : Expr} {ty td tv : TE} {pos pos' : Pos} (hu : X.A.units + 1 < cLine) (ho : PE X o td) (hi : PE X i ty) (hv : PE X value tv) (hs : swapsWith value (some (.Subscript o i pos')) pos.line X.env = pure false := by rfl) :
    PS X (.Assign [.Subscript o i pos'] value pos) (sDPutG2 td ty tv) := fun pins s σ H D I h =>
  ps_dputG hu ho.up hi.up hv.up hs pins s σ H D I ⟨_, h, fun _ _ q => ⟨_, q, fun _ _ q => ⟨_, q, fun _ _ ⟨a, kvs, k, e1, e2, e3, e4, q⟩ => ⟨a, kvs, k, e1, e2, e3, e4, q _ .mk'⟩⟩⟩⟩
def pairsOf : List (V × V) → Option (List (Key × V))
  | [] => some []
  | (x, y) :: r => (keyOf x).bind fun k => (pairsOf r).bind fun l => some ((k, y) :: l)
theorem pairsOf_map : ∀ {ps : List (V × V)} {kvs : List (Key × V)}, pairsOf ps = some kvs → ps = kvs.map fun kv => (kV kv.1, kv.2)
  | [], kvs, h => by cases h; rfl
  | (x, y) :: r, kvs, h => by
    cases hk : keyOf x with
    | none => simp [pairsOf, hk] at h
    | some k =>
      cases hr : pairsOf r with
      | none => simp [pairsOf, hk, hr] at h
      | some l =>
        simp [pairsOf, hk, hr] at h
        subst h
        rw [List.map_cons, ← pairsOf_map hr, ← kV_of hk]
theorem PPs.up {pos : Pos} {keys : List (Option Expr)} {values : List Expr} {trs : List (TE × TE)} (h : PPs X pos keys values trs) {pins : List (Addr × Obj)} {s : Shared} {σ : St} {H : Hp} {Q Q1 : List (V × V) → Hp → Prop} (I : Inv X pins σ H s) (h1 : tPairs trs σ H Q1) (h2 : ∀ ps H', Q1 ps H' → Q ps H') :
    wpAny (model X.prog X.w) X.A (evalPairs (pairTrees keys values X.env pos)) (fun vs s' => ∃ ps H', Inv X pins σ H' s' ∧ VV ps vs ∧ Q ps H') X.xe s :=
  thn (h pins s σ H Q1 I h1) fun vs s' ⟨ps, H', I', r, q⟩ => ⟨ps, H', I', r, h2 ps H' q⟩
def tDispG (trs : List (TE × TE)) : TE := fun σ H Q => ∀ p H', H p = none → Same H H' → H' p = some (.dK []) → tPairs trs σ H' fun ps H2 => H2 p = some (.dK []) ∧ ∃ kvs, pairsOf ps = some kvs ∧ kvs.length ≤ 15 ∧ ∀ H3, Mu H2 p (.dK (mergeK [] kvs)) H3 → Q (.ref p) H3
theorem pe_dispG {pos : Pos} {keys : List (Option Expr)} {values : List Expr} {trs : List (TE × TE)} (h : PPs X pos keys values trs) (hall : keys.all (·.isSome) = true) (hl : keys.length = values.length) (h0 : keys ≠ [])
    (h15 : keys.length ≤ 15) : PE X (.Dict keys values pos) (tDispG trs) := by
  intro pins s σ H Q I q
  have hn := I.hok.fresh (Nat.le_refl s.heap.objs.size)
  have I1 := I.laid (a := s.heap.objs.size) (o := .dK []) (h' := s.heap.push { cls := .type "dict", data := .dict #[] }) (t' := s.toks) (fun _ _ q => Heap.get?_push_of_some _ q) (Nat.le_refl _) (dk_empty s.heap I.big)
  refine wpAny_Dict_walk (knd := mixKind X.prog X.w) hall hl h0 h15 (thn (h pins _ σ _ _ I1 (q _ _ hn (same_new hn _) upd_same)) fun ws s2 ⟨ps, H2, I2, rel, e, kvs, ep, lk, q2⟩ => ?_)
  have ep := pairsOf_map ep
  subst ep
  obtain ⟨rs, c, rk⟩ := carries_of (P := X.prog) (w := X.w) rel
  obtain ⟨z, hd, vs0, r0, dd⟩ := dk_of I2.hok e
  cases r0
  refine ⟨rs, c, dd, fun h' dd' hs => ⟨.ref s.heap.objs.size, _, ?_, rfl, q2 _ .mk'⟩⟩
  have hz : (mergeK [] kvs).length ≤ sizeLine := by
    have h1 := length_mergeK kvs []
    rw [List.length_nil] at h1
    rw [sizeLine_eq]; omega
  have he : ∃ q, h'.get? s.heap.objs.size = some q := let ⟨q, _, _, hq, _⟩ := dd'; ⟨q, hq⟩
  exact d_write I2 (by rw [e]; exact True.intro) hs he (dk_new hz hd (rk.merge .nil) dd')
/-! ### a loop over a tracked list or tuple, turn by turn -/
def turns (a : Addr) (o : HO) (g : TG) (tb : TS) (D : Ends) : List V → St → Hp → Prop
  | [], σ, H => H a = some o ∧ D.nx σ H
  | x :: r, σ, H => H a = some o ∧ g x σ H fun σ2 H2 => tb { D with nx := turns a o g tb D r, ct := turns a o g tb D r, bk := D.nx } σ2 H2
def tForT (tl : TE) (g : TG) (tb : TS) : TS := fun D σ H => tl σ H fun x H1 => ∃ a xs, x = .ref a ∧ H1 a = some (.tup xs) ∧ turns a (.tup xs) g tb D xs σ H1
def tForL (tl : TE) (g : TG) (tb : TS) : TS := fun D σ H => tl σ H fun x H1 => ∃ a xs, x = .ref a ∧ H1 a = some (.lst xs) ∧ turns a (.lst xs) g tb D xs σ H1
end

/-! ### isinstance, by what stands in the heap -/
def hoT : HO → Option String
  | .lst _ => some "list"
  | .tup _ => some "tuple"
  | .dK _ => some "dict"
  | _ => none
def tyG (H : Hp) : V → Option String
  | .non => some "NoneType"
  | .bl _ => some "bool"
  | .int _ => some "int"
  | .str _ => some "str"
  | .ref a => (H a).bind hoT
  | _ => none
theorem tyG_n {H : Hp} : tyG H .non = some "NoneType" := rfl
theorem tyG_b {H : Hp} {x : Bool} : tyG H (.bl x) = some "bool" := rfl
theorem tyG_i {H : Hp} {x : Int} : tyG H (.int x) = some "int" := rfl
theorem tyG_s {H : Hp} {x : Str} : tyG H (.str x) = some "str" := rfl
theorem tyG_r {H : Hp} {a : Addr} : tyG H (.ref a) = (H a).bind hoT := rfl
theorem hoT_l {xs : List V} : hoT (.lst xs) = some "list" := rfl
theorem hoT_t {xs : List V} : hoT (.tup xs) = some "tuple" := rfl
theorem hoT_d {xs : List (Key × V)} : hoT (.dK xs) = some "dict" := rfl
def rIsiG (K : PySem.W.Frag) : List V → Hp → VK → Prop := fun xs H Q => ∃ x T t b, xs = [x, .ty T] ∧ tyG H x = some t ∧ PySem.W.kitOne K (.type t) (.type T) = some b ∧ Q (.bl b) H
theorem kit_ii {K : PySem.W.Frag} : PySem.W.kitOne K (.type "int") (.type "int") = some true := rfl
theorem kit_it {K : PySem.W.Frag} : PySem.W.kitOne K (.type "int") (.type "tuple") = some false := rfl
theorem kit_il {K : PySem.W.Frag} : PySem.W.kitOne K (.type "int") (.type "list") = some false := rfl
theorem kit_is {K : PySem.W.Frag} : PySem.W.kitOne K (.type "int") (.type "str") = some false := rfl
theorem kit_ib {K : PySem.W.Frag} : PySem.W.kitOne K (.type "int") (.type "bool") = some false := rfl
theorem kit_id {K : PySem.W.Frag} : PySem.W.kitOne K (.type "int") (.type "dict") = some false := rfl
theorem kit_ni {K : PySem.W.Frag} : PySem.W.kitOne K (.type "NoneType") (.type "int") = some false := rfl
theorem kit_nt {K : PySem.W.Frag} : PySem.W.kitOne K (.type "NoneType") (.type "tuple") = some false := rfl
theorem kit_nl {K : PySem.W.Frag} : PySem.W.kitOne K (.type "NoneType") (.type "list") = some false := rfl
theorem kit_ns {K : PySem.W.Frag} : PySem.W.kitOne K (.type "NoneType") (.type "str") = some false := rfl
theorem kit_nb {K : PySem.W.Frag} : PySem.W.kitOne K (.type "NoneType") (.type "bool") = some false := rfl
theorem kit_nd {K : PySem.W.Frag} : PySem.W.kitOne K (.type "NoneType") (.type "dict") = some false := rfl
theorem kit_ti {K : PySem.W.Frag} : PySem.W.kitOne K (.type "tuple") (.type "int") = some false := rfl
theorem kit_tt {K : PySem.W.Frag} : PySem.W.kitOne K (.type "tuple") (.type "tuple") = some true := rfl
theorem kit_tl {K : PySem.W.Frag} : PySem.W.kitOne K (.type "tuple") (.type "list") = some false := rfl
theorem kit_ts {K : PySem.W.Frag} : PySem.W.kitOne K (.type "tuple") (.type "str") = some false := rfl
theorem kit_tb {K : PySem.W.Frag} : PySem.W.kitOne K (.type "tuple") (.type "bool") = some false := rfl
theorem kit_td {K : PySem.W.Frag} : PySem.W.kitOne K (.type "tuple") (.type "dict") = some false := rfl
theorem kit_li {K : PySem.W.Frag} : PySem.W.kitOne K (.type "list") (.type "int") = some false := rfl
theorem kit_lt {K : PySem.W.Frag} : PySem.W.kitOne K (.type "list") (.type "tuple") = some false := rfl
theorem kit_ll {K : PySem.W.Frag} : PySem.W.kitOne K (.type "list") (.type "list") = some true := rfl
theorem kit_ls {K : PySem.W.Frag} : PySem.W.kitOne K (.type "list") (.type "str") = some false := rfl
theorem kit_lb {K : PySem.W.Frag} : PySem.W.kitOne K (.type "list") (.type "bool") = some false := rfl
theorem kit_ld {K : PySem.W.Frag} : PySem.W.kitOne K (.type "list") (.type "dict") = some false := rfl
theorem kit_si {K : PySem.W.Frag} : PySem.W.kitOne K (.type "str") (.type "int") = some false := rfl
theorem kit_st {K : PySem.W.Frag} : PySem.W.kitOne K (.type "str") (.type "tuple") = some false := rfl
theorem kit_sl {K : PySem.W.Frag} : PySem.W.kitOne K (.type "str") (.type "list") = some false := rfl
theorem kit_ss {K : PySem.W.Frag} : PySem.W.kitOne K (.type "str") (.type "str") = some true := rfl
theorem kit_sb {K : PySem.W.Frag} : PySem.W.kitOne K (.type "str") (.type "bool") = some false := rfl
theorem kit_sd {K : PySem.W.Frag} : PySem.W.kitOne K (.type "str") (.type "dict") = some false := rfl
theorem kit_bi {K : PySem.W.Frag} : PySem.W.kitOne K (.type "bool") (.type "int") = some true := rfl
theorem kit_bt {K : PySem.W.Frag} : PySem.W.kitOne K (.type "bool") (.type "tuple") = some false := rfl
theorem kit_bl {K : PySem.W.Frag} : PySem.W.kitOne K (.type "bool") (.type "list") = some false := rfl
theorem kit_bs {K : PySem.W.Frag} : PySem.W.kitOne K (.type "bool") (.type "str") = some false := rfl
theorem kit_bb {K : PySem.W.Frag} : PySem.W.kitOne K (.type "bool") (.type "bool") = some true := rfl
theorem kit_bd {K : PySem.W.Frag} : PySem.W.kitOne K (.type "bool") (.type "dict") = some false := rfl
theorem kit_di {K : PySem.W.Frag} : PySem.W.kitOne K (.type "dict") (.type "int") = some false := rfl
theorem kit_dt {K : PySem.W.Frag} : PySem.W.kitOne K (.type "dict") (.type "tuple") = some false := rfl
theorem kit_dl {K : PySem.W.Frag} : PySem.W.kitOne K (.type "dict") (.type "list") = some false := rfl
theorem kit_ds {K : PySem.W.Frag} : PySem.W.kitOne K (.type "dict") (.type "str") = some false := rfl
theorem kit_db {K : PySem.W.Frag} : PySem.W.kitOne K (.type "dict") (.type "bool") = some false := rfl
theorem kit_dd {K : PySem.W.Frag} : PySem.W.kitOne K (.type "dict") (.type "dict") = some true := rfl
/-! ### arguments without a star, for any frame -/
def notStar : Expr → Bool
  | .Starred _ _ => false
  | _ => true
theorem star_of {e : Expr} {es : List Expr} {env : Env} (h : notStar e = true) : starEach (e :: es) env = (false, eval e env) :: starEach es env := by
  cases e with
  | Starred v q => exact absurd (show false = true from h) Bool.false_ne_true
  | _ => rfl
theorem star_all {pos : Pos} {env : Env} : ∀ {es : List Expr}, es.all notStar = true → (backTo pos (starEach es env)).any (·.1) = false
  | [], _ => rfl
  | e :: es, h => by
    rw [List.all_cons, Bool.and_eq_true] at h
    rw [star_of h.1]
    show (false || (backTo pos (starEach es env)).any (·.1)) = false
    rw [star_all h.2]
    rfl
section
variable {X : Cx} {e : Expr} {es : List Expr} {te : TE} {t : TA} {x : Str} {p pos : Pos} {id T : String} {r : List V → Hp → VK → Prop}
theorem pa_c (ha : PE X e te) (hr : PA X es t) (hn : notStar e = true := by rfl) : PA X (e :: es) (tCons te t) := pa_cons ha hr (star_of hn)
theorem pe_cB (hc : CallR X (.builtin id) r) (hg : Gl X x) (hm : X.mg x = none) (hv : bootBuiltins x = some (.builtin id)) (ha : PA X (e :: es) t) (hn : x ≠ "__name__" := by decide) (hdb : (x == ("__debug__" : Str)) = false := by decide)
    (hs : (e :: es).all notStar = true := by rfl) : PE X (.Call (.Name x p) (e :: es) [] pos) (tCB r t) :=
  pe_callB hc hg hm hv ha hn hdb (star_of (Bool.and_eq_true_iff.mp hs).1) (star_all (Bool.and_eq_true_iff.mp hs).2)
theorem pe_cTy (hc : CallR X (.type T) r) (hg : Gl X x) (hm : X.mg x = none) (hv : bootBuiltins x = some (.type T)) (ha : PA X (e :: es) t) (hn : x ≠ "__name__" := by decide) (hdb : (x == ("__debug__" : Str)) = false := by decide)
    (hs : (e :: es).all notStar = true := by rfl) : PE X (.Call (.Name x p) (e :: es) [] pos) (tCB r t) :=
  pe_callTy hc hg hm hv ha hn hdb (star_of (Bool.and_eq_true_iff.mp hs).1) (star_all (Bool.and_eq_true_iff.mp hs).2)
end

/-! ### a def by its name -/
structure DefAt (K : PySem.W.Frag) (mg : Str → Option Value) (x : Str) (st : Stmt) (ps : List Str) : Prop where
  ex : ∃ f fd, mg x = some (.ref f) ∧ Fun K x x st f fd ∧ Binds K fd ps []
structure OkD (P : Program) (w : World) (K : PySem.W.Frag) (mg : Str → Option Value) (base : Heap) (n : Nat) (x : Str) (ps : List Str) (sp : Sp) : Prop where
  ex : ∃ f fd, mg x = some (.ref f) ∧ PySem.W.keepIn K (.ref f) = true ∧ Binds K fd ps [] ∧ FnOk P w K mg base CX0 n f fd ps sp
def tDef (sp : Sp) (t : TA) : TE := fun σ H Q => t σ H fun vs H1 => sp vs H1 Q E0
section
variable {P : Program} {w : World} {K : PySem.W.Frag} {mg : Str → Option Value} {base : Heap} {x : Str} {st : Stmt} {N ps : List Str} {k : Nat} {sp : Sp}
theorem DefAt.ok (D : DefAt K mg x st ps) (S : FnScope N ps (defScope st)) (len : ∀ vs H Q E, sp vs H Q E → vs.length = ps.length)
    (hbody : ∀ (f : Addr) (cdv : Value) (A : Around) (outer : List Env) (s : Shared) (H : Hp) (vs : List V) (Q : VK) (E : XK), Room k (A.deeper (envOfC x (defScope st) s.heap.objs.size f cdv)) → sp vs H Q E →
      ∃ t, PSs (cxOf CX0 P w K mg base N x (defScope st) f cdv A outer s H E).nox (defBody st) t ∧ t { nx := fun _ H' => Q .non H', rt := Q } (start N vs) H) : OkD P w K mg base (k + 1) x ps sp := by
  obtain ⟨f, fd, hm, F, hb⟩ := D.ex
  exact ⟨f, fd, hm, F.kp, hb, F.ok S len (hbody f)⟩
theorem OkD.mono {n m : Nat} (G : OkD P w K mg base n x ps sp) (h : n ≤ m) : OkD P w K mg base m x ps sp := by
  obtain ⟨f, fd, a, b, c, d⟩ := G.ex
  exact ⟨f, fd, a, b, c, d.mono h⟩
theorem DefAt.never (D : DefAt K mg x st ps) (n : Nat) (h : ∀ vs H Q E, ¬ sp vs H Q E) : OkD P w K mg base n x ps sp := by
  obtain ⟨f, fd, hm, F, hb⟩ := D.ex
  exact ⟨f, fd, hm, F.kp, hb, ⟨fun vs H Q E q => absurd q (h vs H Q E), fun A outer s H args us vs Q E _ _ _ _ q => absurd q (h vs H Q E)⟩⟩
theorem DefAt.mk' {h : Heap} {f : Addr} {oc : Value} {od an : Option Addr} {osl : Array (Option Value)} {kV doc pm cdv ct : Value} (X : K.In h) (G : h.Ns mainGlobals mg) (a : PySem.W.nsIn K mainGlobals x = some (some (.ref f)))
    (l : K.lookup f = some ⟨oc, od, .func (PySem.W.fnOf x x (defArgs st) (defBody st) (defScope st) .none kV doc pm an cdv ct), osl⟩) (c : PySem.W.codeIn K cdv x = true) (k : PySem.W.keepIn K (.ref f) = true)
    (b : ∀ (kV doc pm : Value) (an : Option Addr) (cdv ct : Value) (us : List Value), us.length = ps.length → bindArgs (PySem.W.fnOf x x (defArgs st) (defBody st) (defScope st) .none kV doc pm an cdv ct) ⟨us, []⟩ = pure (ps.zip us)) : DefAt K mg x st ps :=
  have F := fun_mk (st := st) l c k
  ⟨f, _, PySem.W.mg_of X G a, F, F.binds b⟩
end
section
variable {X : Cx} {k n : Nat} {ps : List Str} {sp : Sp} {x : Str} {p pos : Pos} {e : Expr} {es : List Expr} {t : TA}
theorem pe_def (G : OkD X.prog X.w X.K X.mg X.base k x ps sp) (hr : Room n X.A) (hg : Gl X x) (ha : PA X (e :: es) t) (hk : k ≤ n := by omega) (hdb : (x == ("__debug__" : Str)) = false := by decide)
    (hs : (e :: es).all notStar = true := by rfl) : PE X (.Call (.Name x p) (e :: es) [] pos) (tDef sp t) := by
  obtain ⟨f, fd, hm, kp, hb, F⟩ := G.ex
  intro pins s σ H Q I h
  refine pe_call F (hr.mono hk) hg hm kp hb .nil pass0 ha hdb (star_of (Bool.and_eq_true_iff.mp hs).1) (star_all (Bool.and_eq_true_iff.mp hs).2) pins s σ H Q I ?_
  have e : (fun vs H1 => sp (vs ++ []) H1 Q E0) = fun vs H1 => sp vs H1 Q E0 := by funext vs H1; rw [List.append_nil]
  show t σ H fun vs H1 => sp (vs ++ []) H1 Q E0
  rw [e]
  exact h
end
def spLaw (K : PySem.W.Frag) : Sp := fun vs H Q _ => ∃ (a : Addr) (ns : List Int), vs = [.ref a] ∧ SqL K H a (ns.map V.int) ∧ ns.length ≤ 63 ∧ ∀ H', Q (.bl true) H'
end L2

set_option Elab.async false
set_option linter.all false
set_option maxRecDepth 100000
set_option maxHeartbeats 4000000
/-! our own rules: exceptions of own classes, raised, passed on, caught -/
namespace L2
open PySem PySem.Spec PyProof.Rows

structure Fly (h : Heap) (x T : Addr) (cls fl : Value) : Prop where
  ex : ∃ oe vs oT ts, h.get? x = some oe ∧ oe.cls = cls ∧ oe.dict = none ∧ oe.data = .fields vs ∧ vs[1]? = some (.ref T) ∧ T ≠ x ∧ h.get? T = some oT ∧ oT.data = .fields ts ∧ ts[3]? = some fl
def CXr (P : Program) (w : World) : CXT := fun outer H s E e s' => ∃ (x T : Addr) (cls : Value) (H' : Hp), e = .ref x ∧ s'.os = s.os ∧ AllBare s'.gens ∧ Un (frs outer) [] H H' s.heap s'.heap ∧ HOk P w H' s'.heap ∧
  Fly s'.heap x T cls .none ∧ s.heap.get? x = none ∧ s.heap.get? T = none ∧ H' x = none ∧ H' T = none ∧ E cls none H'

structure Kept (x : Addr) (ts fr : List Addr) (h h' : Heap) : Prop where
  keep : ∀ b o, h.get? b = some o → b ≠ x → b ∉ ts → b ∉ fr → h'.get? b = some o
  slot : ∀ b o, h.get? b = some o → b ≠ x → b ∉ ts → ∃ sl, h'.get? b = some { o with slots := sl }
theorem dict_mapFields (o : Obj) (f : Array Value → Array Value) : (o.mapFields f).dict = o.dict := by
  cases o with | mk c d dt sl => cases dt <;> rfl
section
variable {M : Model} {A : Around} {E : Value → Shared → Prop} {s : Shared} {base : Heap} {env : Env} {outer : List Env} {L x : Addr} {oe : Obj} {vs : Array Value} {Q : Unit → Shared → Prop}
theorem entry_exact {head : Value} {had : Bool} (hfr : A.frames = some (env :: outer)) (hl : s.heap.FunFrames base (env :: outer)) (hf : env.frame = some L) (hx : s.heap.get? x = some oe) (hd : oe.data = .fields vs) (hsz : 1 < vs.size) (hdc : oe.dict = none)
    (h : ∀ h' T, Kept x [] (frs (env :: outer)) s.heap h' → s.heap.get? T = none → Fly h' x T oe.cls (rawInt L) → Q () { s with heap := h' }) :
    wpAny M A (do let a ← frameOf env; let pl ← entryPlaceOf L had; let b ← EntryCells.newEntry head a .none (rawInt L) .none pl; setField (.ref x) 1 b) Q E s := by
  have xfr : x ∉ frs (env :: outer) := fun z => by
    obtain ⟨_, o, q, no⟩ := hl.mem z
    exact no vs (by rw [hx] at q; cases q; exact hd)
  refine wpAny_bind (wpAny_frameOf_fun hfr hl hf fun g so => wpAny_bind (wpAny_entryPlaceOf fun pl hpl => ?_))
  unfold EntryCells.newEntry newFields
  refine wpAny_bind (wpAny_newObj_type ?_ (hpl.sizeOk5 _ _ _ _ _))
  have gx : g.get? x = some oe := (so.2.1 x xfr).trans hx
  have gx' := Heap.get?_push_of_some (h := g) { cls := .type "traceback", dict := none, data := .fields ([head, .ref L, .none, rawInt L, .none] ++ (if pl.isEmpty then List.replicate 6 Value.none else pl)).toArray } gx
  have ne : g.objs.size ≠ x := Nat.ne_of_gt (Heap.lt_size gx)
  have nd := Obj.data_mapFields hd (·.setIfInBounds 1 (Value.ref g.objs.size))
  have hT := (Heap.get?_update_other (g.push { cls := .type "traceback", dict := none, data := .fields ([head, .ref L, .none, rawInt L, .none] ++ (if pl.isEmpty then List.replicate 6 Value.none else pl)).toArray }) (Obj.mapFields (·.setIfInBounds 1 (Value.ref g.objs.size))) (Ne.symm ne)).trans (Heap.get?_push_size g rfl)
  refine wpAny_setField gx' hd hsz (h _ g.objs.size ⟨fun b o q n1 _ n3 => ?_, fun b o q n1 _ => ?_⟩ (Heap.get?_none_of_le (by rw [so.1]; exact Nat.le_refl _)) ⟨_, _, _, _, Heap.get?_update_self _ gx' (Obj.isFreed_of_fields nd), Obj.cls_mapFields _ _, (dict_mapFields _ _).trans hdc, nd, by simp [hsz], ne, hT, rfl, by simp⟩)
  · rw [Heap.get?_update_other _ _ (Ne.symm n1)]
    exact Heap.get?_push_of_some _ ((so.2.1 b n3).trans q)
  · obtain ⟨sl, r⟩ := so.2.2 b o q
    exact ⟨sl, by rw [Heap.get?_update_other _ _ (Ne.symm n1)]; exact Heap.get?_push_of_some _ r⟩
theorem note_first (hfr : A.frames = some (env :: outer)) (hl : s.heap.FunFrames base (env :: outer)) (hf : env.frame = some L) (hx : s.heap.get? x = some oe) (hd : oe.data = .fields vs) (h1 : vs[1]? = some .none) (hdc : oe.dict = none)
    (h : ∀ h' T, Kept x [] (frs (env :: outer)) s.heap h' → s.heap.get? T = none → Fly h' x T oe.cls (rawInt L) → Q () { s with heap := h' }) : wpAny M A (noteFrame (.ref x) env) Q E s := by
  unfold noteFrame
  simp only [hf]
  refine wpAny_bind (wpAny_field hx hd h1 ?_)
  rw [if_neg (by decide)]
  exact entry_exact hfr hl hf hx hd (Array.getElem?_eq_some_iff.mp h1).1 hdc h
theorem note_next {T : Addr} {cls : Value} (hfr : A.frames = some (env :: outer)) (hl : s.heap.FunFrames base (env :: outer)) (hf : env.frame = some L) (F : Fly s.heap x T cls .none)
    (h : ∀ h' T', Kept x [T] (frs (env :: outer)) s.heap h' → s.heap.get? T' = none → Fly h' x T' cls (rawInt L) → Q () { s with heap := h' }) : wpAny M A (noteFrame (.ref x) env) Q E s := by
  obtain ⟨oe, vs, oT, ts, hx, hc, hdc, hd, h1, ne, hT, hdT, h3⟩ := F.ex
  subst hc
  unfold noteFrame
  simp only [hf]
  refine wpAny_bind (wpAny_field hx hd h1 ?_)
  rw [if_pos (by simp)]
  refine wpAny_bind (wpAny_field hT hdT h3 ?_)
  rw [if_neg (by simp [rawInt])]
  refine wpAny_bind (wpAny_setField hT hdT (Array.getElem?_eq_some_iff.mp h3).1 ?_)
  have ot : ∀ b, b ≠ T → (s.heap.update T (Obj.mapFields (·.setIfInBounds 3 Value.none))).get? b = s.heap.get? b := fun b n => Heap.get?_update_other _ _ (Ne.symm n)
  have Tself := Heap.get?_update_self (Obj.mapFields (·.setIfInBounds 3 Value.none)) hT (Obj.isFreed_of_fields (Obj.data_mapFields hdT _))
  refine entry_exact (base := base) hfr (hl.of_keeps fun b o q no => ⟨o, (ot b fun z => no ts (by rw [z, hT] at q; cases q; exact hdT)).trans q, rfl⟩) hf ((ot x (Ne.symm ne)).trans hx) hd (Array.getElem?_eq_some_iff.mp h1).1 hdc fun h' T' k n f => h h' T' ⟨fun b o q n1 n2 n3 => ?_, fun b o q n1 n2 => ?_⟩ ?_ f
  · exact k.keep b o ((ot b fun z => n2 (by rw [z]; exact List.mem_singleton_self _)).trans q) n1 (by simp) n3
  · exact k.slot b o ((ot b fun z => n2 (by rw [z]; exact List.mem_singleton_self _)).trans q) n1 (by simp)
  · by_cases z : T' = T
    · subst z; rw [Tself] at n; cases n
    · exact (ot T' z).symm.trans n
theorem flight_exact {T : Addr} {cls fl : Value} (F : Fly s.heap x T cls fl) (h : ∀ h', (∀ b, b ≠ T → h'.get? b = s.heap.get? b) → Fly h' x T cls .none → Q () { s with heap := h' }) : wpAny M A (setFlight (.ref x) none) Q E s := by
  obtain ⟨oe, vs, oT, ts, hx, hc, hdc, hd, h1, ne, hT, hdT, h3⟩ := F.ex
  unfold setFlight
  refine wpAny_bind (wpAny_field hx hd h1 ?_)
  rw [if_pos (by simp)]
  have ot : ∀ b, b ≠ T → (s.heap.update T (Obj.mapFields (·.setIfInBounds 3 ((none : Option Addr).elim Value.none fun f => rawInt f)))).get? b = s.heap.get? b := fun b n => Heap.get?_update_other _ _ (Ne.symm n)
  have sz := (Array.getElem?_eq_some_iff.mp h3).1
  exact wpAny_setField hT hdT sz (h _ ot ⟨oe, vs, _, _, (ot x (Ne.symm ne)).trans hx, hc, hdc, hd, h1, ne, Heap.get?_update_self _ hT (Obj.isFreed_of_fields (Obj.data_mapFields hdT _)), Obj.data_mapFields hdT _, by simp [sz]⟩)
end

section
variable {X : Cx} {pins : List (Addr × Obj)} {σ : St} {H1 : Hp} {s1 : Shared}
theorem Inv.tracked (I : Inv X pins σ H1 s1) {b : Addr} {u : HO} (h : H1 b = some u) : ∃ o, s1.heap.get? b = some o := by
  have hb := I.hok.lt h
  have := I.hok b u h
  cases u with
  | lst xs => obtain ⟨_, _, _, _, e⟩ := this; exact ⟨_, e⟩
  | tup xs => obtain ⟨_, _, _, o, e, _⟩ := this; exact ⟨_, e⟩
  | dK kvs => obtain ⟨_, _, _, _, o, _, _, e, _⟩ := this; exact ⟨_, e⟩
  | dT kvs => obtain ⟨_, _, _, _, o, _, _, e, _⟩ := this; exact ⟨_, e⟩
  | set S n => obtain ⟨o, _, _, _, e, _⟩ := this; exact ⟨_, e⟩
  | ins C dx fs => obtain ⟨_, _, _, e, _⟩ := this; exact ⟨_, e⟩
  | own y => exact this
  | xd fs => obtain ⟨_, ⟨_, _, _, e, _⟩, _⟩ := this; exact ⟨_, e⟩
  | rng lo hi => obtain ⟨_, _, _, e⟩ := this; exact ⟨_, e⟩
  | frz ob u => obtain ⟨e, _⟩ := this; exact ⟨_, e⟩
  | tbl ps => exact ⟨_, this⟩
  | met f y => exact ⟨_, this⟩
  | ext φ => obtain ⟨_, e, _⟩ := this; exact e
end

section
variable {P : Program} {w : World} {K : PySem.W.Frag} {mg : Str → Option Value} {base : Heap} {N : List Str} {qual : Str} {scope : Scope} {f : Addr} {cd : Value} {A : Around} {outer : List Env} {s : Shared} {H : Hp} {E : XK}
theorem left_cx {CX : CXT} {pins : List (Addr × Obj)} {σ : St} {H1 : Hp} {s1 : Shared} (I : Inv (cxOf CX P w K mg base N qual scope f cd A outer s H E) pins σ H1 s1) {x T : Addr} {ts : List Addr} {cls : Value} {h' : Heap}
    (hx : s.heap.get? x = none) (hxt : H1 x = none) (hts : ∀ b ∈ ts, s.heap.get? b = none ∧ H1 b = none) (he : E cls none H1) (k : Kept x ts (frs (cxOf CX P w K mg base N qual scope f cd A outer s H E).stack) s1.heap h')
    (hT : s1.heap.get? T = none) (F : Fly h' x T cls .none) : CXr P w outer H s E (.ref x) { s1 with heap := h' } := by
  have Lf : s.heap.objs.size ≤ (envOfC qual scope s.heap.objs.size f cd).locals := I.ok.above
  have trk : ∀ b u, H1 b = some u → ∀ o, s1.heap.get? b = some o → h'.get? b = some o := fun b u hb o e => by
    refine k.keep b o e (fun z => (by rw [z, hxt] at hb; cases hb)) (fun z => (by rw [(hts b z).2] at hb; cases hb)) fun z => ?_
    rw [I.stkFree b z] at hb; cases hb
  have old : ∀ b o, s.heap.get? b = some o → b ≠ x ∧ b ∉ ts ∧ (b ∉ frs outer → b ∉ frs (cxOf CX P w K mg base N qual scope f cd A outer s H E).stack) := fun b o e => by
    refine ⟨fun z => (by rw [z, hx] at e; cases e), fun z => (by rw [(hts b z).1] at e; cases e), fun n z => ?_⟩
    rcases List.mem_cons.mp (I.stkSub b z) with q | q
    · have : b < s.heap.objs.size := Heap.lt_size e
      have q' : b = (envOfC qual scope s.heap.objs.size f cd).locals := q
      rw [q'] at this
      exact absurd (Nat.lt_of_lt_of_le this Lf) (Nat.lt_irrefl _)
    · exact n q
  have ub : Un (frs outer) [] H H1 s.heap s1.heap := I.base
  have hTs : s.heap.get? T = none := by
    cases q : s.heap.get? T with
    | none => rfl
    | some o =>
      obtain ⟨o1, r⟩ := ub.there T o q (by simp)
      rw [hT] at r; cases r
  have hTH : H1 T = none := by
    cases q : H1 T with
    | none => rfl
    | some u =>
      obtain ⟨o1, r⟩ := I.tracked q
      rw [hT] at r; cases r
  refine ⟨x, T, cls, H1, rfl, I.os, I.bare, ?_, ?_, F, hx, hTs, hxt, hTH, he⟩
  · refine ⟨fun b o e n1 n2 n3 => ?_, fun b o e n1 n2 n3 => ?_, ub.free, fun b o e n3 => ?_, ub.tups, ub.frzs, ub.tbls⟩
    · obtain ⟨m1, m2, m3⟩ := old b o e
      exact k.keep b o (ub.keep b o e n1 n2 n3) m1 m2 (m3 n2)
    · obtain ⟨sl, q⟩ := ub.slot b o e n1 n2 n3
      obtain ⟨m1, m2, _⟩ := old b o e
      obtain ⟨sl', r⟩ := k.slot b _ q m1 m2
      exact ⟨sl', r⟩
    · obtain ⟨o1, r⟩ := ub.there b o e n3
      obtain ⟨m1, m2, _⟩ := old b o e
      obtain ⟨sl, q⟩ := k.slot b o1 r m1 m2
      exact ⟨_, q⟩
  · intro a o q
    refine (I.hok a o q).stay (fun b u hb r => ?_) (fun _ z => z) fun _ _ z => z
    rcases hb with rfl | hb
    · exact trk b o q u r
    · exact trk b _ hb u r
theorem Kept.flew {x T : Addr} {ts fr : List Addr} {h h' h'' : Heap} (k : Kept x ts fr h h') (hT : h.get? T = none) (o : ∀ b, b ≠ T → h''.get? b = h'.get? b) : Kept x ts fr h h'' :=
  have n : ∀ b o, h.get? b = some o → b ≠ T := fun b o q z => by rw [z, hT] at q; cases q
  ⟨fun b u q n1 n2 n3 => (o b (n b u q)).trans (k.keep b u q n1 n2 n3), fun b u q n1 n2 => let ⟨sl, r⟩ := k.slot b u q n1 n2; ⟨sl, (o b (n b u q)).trans r⟩⟩
theorem Inv.raised {X : Cx} {pins : List (Addr × Obj)} {σ : St} {H1 H' : Hp} {s1 s' : Shared} (I : Inv X pins σ H1 s1) (os : s'.os = s1.os) (bare : AllBare s'.gens) (un : Un (frs X.stack) [] H1 H' s1.heap s'.heap) (hok : HOk X.prog X.w H' s'.heap) : Inv X pins σ H' s' := by
  obtain ⟨hh, g, d, t, os'⟩ := s'
  obtain rfl : os' = s1.os := os
  exact I.call (h' := hh) (g' := g) (d' := d) (t' := t) (ch := []) un hok bare (fun b z => absurd z (by simp))
theorem passR : Passes (CXr P w) (cxOf (CXr P w) P w K mg base N qual scope f cd A outer s H E) E := by
  intro pins σ H1 s1 e s' I h
  obtain ⟨x, T, cls, H', rfl, os, bare, un, hok, F, hx, hT, hxH, hTH, he⟩ := h
  have I' := I.raised os bare un hok
  have fresh : ∀ b, s1.heap.get? b = none → s.heap.get? b = none := fun b hb => by
    cases q : s.heap.get? b with
    | none => rfl
    | some o =>
      obtain ⟨o1, r⟩ := I.base.there b o q (by simp [cxOf])
      rw [hb] at r; cases r
  show wpAny (model P w) (A.deeper (envOfC qual scope s.heap.objs.size f cd)) (leaving (envOfC qual scope s.heap.objs.size f cd) (.ref x)) _ _ s'
  unfold leaving
  refine wpAny_bind (note_next (base := base) I'.ok.frames I'.stack rfl F fun h' T' k n f' => ?_)
  refine flight_exact f' fun h'' o f'' => ?_
  exact left_cx I' (ts := [T]) (fresh x hx) hxH (fun b hb => by cases List.mem_singleton.mp hb; exact ⟨fresh T hT, hTH⟩) he (k.flew n o) n f''
theorem raiseR {pins : List (Addr × Obj)} {σ : St} {H1 : Hp} {s1 : Shared} (I : Inv (cxOf (CXr P w) P w K mg base N qual scope f cd A outer s H E) pins σ H1 s1) {x : Addr} {cls : Value} {us : List Value} {h1 : Heap} (hm : Heap.MadeExcOf s1.heap h1 x cls us) (he : E cls none H1) :
    (cxOf (CXr P w) P w K mg base N qual scope f cd A outer s H E).xe (.ref x) { s1 with heap := h1 } := by
  have I' : Inv (cxOf (CXr P w) P w K mg base N qual scope f cd A outer s H E) pins σ H1 { s1 with heap := h1 } := I.kept (t' := s1.toks) hm.keeps
  have fresh : s.heap.get? x = none := by
    cases q : s.heap.get? x with
    | none => rfl
    | some o =>
      obtain ⟨o1, r⟩ := I.base.there x o q (by simp [cxOf])
      rw [hm.new] at r; cases r
  have hxH : H1 x = none := by
    cases q : H1 x with
    | none => rfl
    | some u =>
      obtain ⟨o1, r⟩ := I.tracked q
      rw [hm.new] at r; cases r
  obtain ⟨t, ht, _, _⟩ := hm.there
  show wpAny (model P w) (A.deeper (envOfC qual scope s.heap.objs.size f cd)) (leaving (envOfC qual scope s.heap.objs.size f cd) (.ref x)) _ _ { s1 with heap := h1 }
  unfold leaving
  refine wpAny_bind (note_first (base := base) I'.ok.frames I'.stack rfl ht rfl rfl rfl fun h' T' k n f' => ?_)
  refine flight_exact f' fun h'' o f'' => ?_
  exact left_cx I' (ts := []) fresh hxH (fun b hb => by cases hb) he (k.flew n o) n f''
end
/-! ### own classes of ValueError's line -/
def veM : List Value := [.type "ValueError", .type "Exception", .type "BaseException", .type "object"]
structure ExcAt (K : PySem.W.Frag) (mg : Str → Option Value) (x : Str) (C : Addr) : Prop where
  gl : mg x = some (.ref C)
  ok : PySem.W.excIn K C veM "ValueError.__new__" = true
theorem exc_obj {K : PySem.W.Frag} {h : Heap} {C : Addr} {bmB : List Value} {newId : String} (kin : K.In h) (ok : PySem.W.excIn K C bmB newId = true) :
    ∃ (tl : List Value) (N : Addr) (nm qn : Str) (bs : List Value) (hd : Bool) (sn : List Str) (sub : List Value) (ab : Bool) (col : Option Bool) (dd : Option Addr) (k0 k1 k2 k3 k5 : Option Value) (mN : Str → Option Value),
      h.get? C = some (excClassObj nm qn C N bs tl hd sn sub ab col dd k0 k1 k2 k3 k5 newId) ∧ h.Ns N mN ∧ mN "__init__" = none ∧ OwnTail h bmB tl := by
  unfold PySem.W.excIn at ok
  split at ok
  next dd cd sl lk =>
    split at ok
    next C1 tl k0 k1 k2 k3 nn k5 em es =>
      have parts : ((((C1 = C ∧ nn = newId) ∧ cd.hasDel = false) ∧ PySem.W.tailIn K bmB tl = true) ∧ PySem.W.nsOkIn K cd.ns = true) ∧ PySem.W.nsIn K cd.ns "__init__" = some none := by
        simpa only [Bool.and_eq_true, beq_iff_eq, Bool.not_eq_true'] using ok
      obtain ⟨⟨⟨⟨⟨p1, p2⟩, p3⟩, p4⟩, p5⟩, p6⟩ := parts
      subst p1 p2
      cases cd
      simp only at em p3 p5 p6
      subst em p3
      have : sl = #[k0, k1, k2, k3, some (.builtin nn), k5] := by
        cases sl
        simp only at es
        rw [es]
      subst this
      exact ⟨tl, _, _, _, _, _, _, _, _, _, dd, k0, k1, k2, k3, k5, _, kin _ _ lk, Heap.Ns.of_isNs (PySem.W.isNs_of_in kin p5), PySem.W.nsMap_none_of_in kin p5 p6, PySem.W.tail_of_in kin p4⟩
    next => cases ok
  next => cases ok
def Raises (X : Cx) (E : XK) : Prop := ∀ (pins : List (Addr × Obj)) (σ : St) (H : Hp) (s : Shared) (x : Addr) (cls : Value) (us : List Value) (h1 : Heap), Inv X pins σ H s → Heap.MadeExcOf s.heap h1 x cls us → E cls none H → X.xe (.ref x) { s with heap := h1 }
def tRaise (C : Addr) (t : TA) (E : XK) : TS := fun _ σ H => t σ H fun vs H1 => vs.length ≤ sizeLine ∧ E (.ref C) none H1
section
variable {X : Cx} {E : XK} {x : Str} {C : Addr} {np cpos pos : Pos} {e : Expr} {es : List Expr} {t : TA}
theorem ps_raise (hx : Raises X E) (hc : X.calm = true) (O : ExcAt X.K X.mg x C) (hg : Gl X x) (ha : PA X (e :: es) t) (hdb : (x == ("__debug__" : Str)) = false := by decide) (hs : (e :: es).all notStar = true := by rfl) :
    PS X (.Raise (some (.Call (.Name x np) (e :: es) [] cpos)) none pos) (tRaise C t E) := by
  intro pins s σ H D I h
  obtain ⟨tl, N, nm, qn, bs, hd, sn, sub, ab, col, dd, k0, k1, k2, k3, k5, mN, hC, hN, hni, T⟩ := exc_obj I.mod.kin O.ok
  have h1 := star_of (es := es) (env := X.env) (Bool.and_eq_true_iff.mp hs).1
  refine wpAny_Raise_call_subU (C := C) (nm := nm) (q := qn) (N := N) (bs := bs) (bm := tl) (hdct := hd) (sn := sn) (sub := sub) (ab := ab) (col := col) (dd := dd) (k0 := k0) (k1 := k1) (k2 := k2) (k3 := k3) (k5 := k5)
    PySem.F.excBase_ValueError (by decide +kernel) PySem.F.excBase_ValueError (mN := mN) (T.hasType (by decide +kernel)) (I.ok.hd hc) (star_all hs) hni (ld_glob I hg O.gl ⟨rfl, ?_⟩ hdb)
  have hA := ha cpos pins s σ H _ I h
  rw [h1] at hA ⊢
  refine Calls.evalArgs_plain (thn hA fun us s2 ⟨vs, H2, I2, r, z, q⟩ => ⟨rfl, by show us.length ≤ sizeLine; rw [← r.length]; exact z, I2.bk _ _ hC, hN.keeps I2.bk, T.keeps I2.bk, fun h' x' hm => hx pins σ H2 s2 x' _ us h' I2 hm q⟩)
end
section
variable {P : Program} {w : World} {K : PySem.W.Frag} {mg : Str → Option Value} {base : Heap} {N : List Str} {qual : Str} {scope : Scope} {f : Addr} {cd : Value} {A : Around} {outer : List Env} {s : Shared} {H : Hp} {E : XK}
theorem raises_def : Raises (cxOf (CXr P w) P w K mg base N qual scope f cd A outer s H E) E := fun _ _ _ _ _ _ _ _ I hm he => raiseR I hm he
theorem owns_def : PassesOwn (model P w) (cxOf (CXr P w) P w K mg base N qual scope f cd A outer s H E).A (cxOf (CXr P w) P w K mg base N qual scope f cd A outer s H E).env (cxOf (CXr P w) P w K mg base N qual scope f cd A outer s H E).xe := PassesOwn.leaving
end

/-! ### a def that may raise, by its name -/
structure OkR (P : Program) (w : World) (K : PySem.W.Frag) (mg : Str → Option Value) (base : Heap) (n : Nat) (x : Str) (ps : List Str) (sp : Sp) : Prop where
  ex : ∃ f fd, mg x = some (.ref f) ∧ PySem.W.keepIn K (.ref f) = true ∧ Binds K fd ps [] ∧ FnOk P w K mg base (CXr P w) n f fd ps sp
def tDefR (sp : Sp) (E : XK) (t : TA) : TE := fun σ H Q => t σ H fun vs H1 => sp vs H1 Q E
section
variable {P : Program} {w : World} {K : PySem.W.Frag} {mg : Str → Option Value} {base : Heap} {x : Str} {st : Stmt} {N ps : List Str} {k : Nat} {sp : Sp}
theorem OkD.toR {n : Nat} (G : OkD P w K mg base n x ps sp) : OkR P w K mg base n x ps sp := by
  obtain ⟨f, fd, a, b, c, d⟩ := G.ex
  refine ⟨f, fd, a, b, c, d.len, fun A outer s H args us vs Q E hr he hb hv hs => ?_⟩
  refine codeAny_mono (d.run A outer s H args us vs Q E hr he hb hv hs) fun r s' h => ?_
  cases r with
  | error e => exact False.elim h
  | ok fl => cases fl <;> exact h
theorem OkR.mono {n m : Nat} (G : OkR P w K mg base n x ps sp) (h : n ≤ m) : OkR P w K mg base m x ps sp := by
  obtain ⟨f, fd, a, b, c, d⟩ := G.ex
  exact ⟨f, fd, a, b, c, d.mono h⟩
theorem DefAt.okR (D : DefAt K mg x st ps) (S : FnScope N ps (defScope st)) (len : ∀ vs H Q E, sp vs H Q E → vs.length = ps.length)
    (hbody : ∀ (f : Addr) (cdv : Value) (A : Around) (outer : List Env) (s : Shared) (H : Hp) (vs : List V) (Q : VK) (E : XK), Room k (A.deeper (envOfC x (defScope st) s.heap.objs.size f cdv)) → sp vs H Q E →
      ∃ t, PSs (cxOf (CXr P w) P w K mg base N x (defScope st) f cdv A outer s H E) (defBody st) t ∧ t { nx := fun _ H' => Q .non H', rt := Q } (start N vs) H) : OkR P w K mg base (k + 1) x ps sp := by
  obtain ⟨f, fd, hm, F, hb⟩ := D.ex
  refine ⟨f, fd, hm, F.kp, hb, ?_⟩
  obtain ⟨oc, od, kV, doc, pm, an, cdv, ct, osl, rfl, lk, hcd⟩ := F.ex
  exact fn_of lk hcd S len fun A outer s H vs Q E hr hsp => hbody f cdv A outer s H vs Q E hr hsp
end
section
variable {X : Cx} {E : XK} {k n : Nat} {ps : List Str} {sp : Sp} {x : Str} {p pos : Pos} {e : Expr} {es : List Expr} {t : TA}
theorem pe_defR (G : OkR X.prog X.w X.K X.mg X.base k x ps sp) (hx : Passes (CXr X.prog X.w) X E) (hr : Room n X.A) (hg : Gl X x) (ha : PA X (e :: es) t) (hk : k ≤ n := by omega) (hdb : (x == ("__debug__" : Str)) = false := by decide)
    (hs : (e :: es).all notStar = true := by rfl) : PE X (.Call (.Name x p) (e :: es) [] pos) (tDefR sp E t) := by
  obtain ⟨f, fd, hm, kp, hb, F⟩ := G.ex
  intro pins s σ H Q I h
  refine pe_call F (hr.mono hk) hg hm kp hb .nil hx ha hdb (star_of (Bool.and_eq_true_iff.mp hs).1) (star_all (Bool.and_eq_true_iff.mp hs).2) pins s σ H Q I ?_
  have e : (fun vs H1 => sp (vs ++ []) H1 Q E) = fun vs H1 => sp vs H1 Q E := by funext vs H1; rw [List.append_nil]
  show t σ H fun vs H1 => sp (vs ++ []) H1 Q E
  rw [e]
  exact h
end

/-! ### caught -/
abbrev Cx.marked (X : Cx) (x : Addr) : Cx := { X with A := X.A.mark (some (.ref x)), calm := false, xe := fun _ _ => False }
section
variable {X : Cx} {pins : List (Addr × Obj)} {σ : St} {H : Hp} {s : Shared}
theorem Inv.marked (I : Inv X pins σ H s) (x : Addr) : Inv (X.marked x) pins σ H s :=
  have ok := I.ok
  ⟨⟨ok.mod, ok.kind, ok.glob, ok.blt, ok.above, ok.inj, ok.has, ok.cab, fun z => absurd z Bool.false_ne_true, ok.frames, ok.stk, ok.exf, ok.bs, ok.bsz, ok.noex, ok.exfs, ok.funs, ok.frf⟩, I.os, I.bare, I.base, I.loc, I.cell, I.free, I.freeC, I.pin, I.hok, I.len⟩
theorem Inv.unmarked {x : Addr} (I : Inv (X.marked x) pins σ H s) (ok : X.Ok) : Inv X pins σ H s := ⟨ok, I.os, I.bare, I.base, I.loc, I.cell, I.free, I.freeC, I.pin, I.hok, I.len⟩
structure Far (X : Cx) (pins : List (Addr × Obj)) (b : Addr) : Prop where
  old : X.s₀.heap.get? b = none
  loc : b ≠ X.env.locals
  cel : ∀ y c, X.env.cells.lookup y = some c → c ≠ b
  pin : ∀ p ∈ X.pn ++ pins, p.1 ≠ b
theorem Inv.far (I : Inv X pins σ H s) {b : Addr} (h : s.heap.get? b = none) (hex : X.ex = []) : Far X pins b where
  old := by
    cases q : X.s₀.heap.get? b with
    | none => rfl
    | some o =>
      obtain ⟨o1, r⟩ := I.base.there b o q (by rw [hex]; simp)
      rw [h] at r; cases r
  loc := fun z => by
    obtain ⟨m, ⟨o, _, _, q, _⟩, _⟩ := I.loc
    rw [← z, h] at q; cases q
  cel := fun y c e z => by
    obtain ⟨v, o, q, _⟩ := I.cell y c e
    rw [z, h] at q; cases q
  pin := fun p hp z => by
    have q := (I.pin p hp).1
    rw [z, h] at q; cases q
theorem Inv.noted {x : Addr} {ts : List Addr} {h' : Heap} {tk : Nat} (I : Inv X pins σ H s) (k : Kept x ts (frs X.stack) s.heap h') (fx : Far X pins x) (hx : H x = none) (ft : ∀ b ∈ ts, Far X pins b ∧ H b = none) : Inv X pins σ H { s with heap := h', toks := tk } := by
  have far : ∀ b, (b = x ∨ b ∈ ts) → Far X pins b ∧ H b = none := fun b hb => by
    rcases hb with rfl | hb
    · exact ⟨fx, hx⟩
    · exact ft b hb
  have nf : ∀ b, ¬ (Far X pins b ∧ H b = none) → b ≠ x ∧ b ∉ ts := fun b n => ⟨fun z => n (far b (.inl z)), fun z => n (far b (.inr z))⟩
  have slot : ∀ b o, s.heap.get? b = some o → ¬ (Far X pins b ∧ H b = none) → ∃ sl, h'.get? b = some { o with slots := sl } := fun b o q n => k.slot b o q (nf b n).1 (nf b n).2
  have keep : ∀ b o, s.heap.get? b = some o → ¬ (Far X pins b ∧ H b = none) → b ∉ frs X.stack → h'.get? b = some o := fun b o q n n3 => k.keep b o q (nf b n).1 (nf b n).2 n3
  have s0 : ∀ b o, X.s₀.heap.get? b = some o → ¬ (Far X pins b ∧ H b = none) := fun b o q z => by rw [z.1.old] at q; cases q
  refine ⟨I.ok, I.os, I.bare, ⟨fun b o e n1 n2 n3 => ?_, fun b o e n1 n2 n3 => ?_, I.base.free, fun b o e n3 => ?_, I.base.tups, I.base.frzs, I.base.tbls⟩, ?_, fun y c e => ?_, I.free, I.freeC, fun p hp => ?_, fun a o q => ?_, I.len⟩
  · refine keep b o (I.base.keep b o e n1 n2 n3) (s0 b o e) fun z => ?_
    rcases List.mem_cons.mp (I.stkSub b z) with q | q
    · have l1 : b < X.s₀.heap.objs.size := Heap.lt_size e
      rw [q] at l1
      exact absurd (Nat.lt_of_lt_of_le l1 I.ok.above) (Nat.lt_irrefl _)
    · exact n2 q
  · obtain ⟨sl, q⟩ := I.base.slot b o e n1 n2 n3
    obtain ⟨sl', r⟩ := slot b _ q (s0 b o e)
    exact ⟨sl', r⟩
  · obtain ⟨o1, q⟩ := I.base.there b o e n3
    obtain ⟨sl', r⟩ := slot b _ q (s0 b o e)
    exact ⟨_, r⟩
  · obtain ⟨m, ⟨o, es, ep, q, hd, hk⟩, hl⟩ := I.loc
    obtain ⟨sl, r⟩ := slot _ o q fun z => z.1.loc rfl
    refine ⟨m, ⟨_, es, ep, r, hd, hk⟩, fun i y v a b c => ?_⟩
    obtain ⟨u, ru, l⟩ := hl i y v a b c
    refine ⟨u, ru, ?_⟩
    rcases l with l | ⟨l, cc, e, o', q', hd'⟩
    · exact .inl l
    · obtain ⟨sl', r'⟩ := slot cc o' q' fun z => z.1.cel y cc e rfl
      exact .inr ⟨l, cc, e, _, r', hd'⟩
  · obtain ⟨v, o, q, hd⟩ := I.cell y c e
    obtain ⟨sl, r⟩ := slot c o q fun z => z.1.cel y c e rfl
    exact ⟨v, _, r, hd⟩
  · obtain ⟨p1, p2, p3, p4, p5⟩ := I.pin p hp
    refine ⟨keep p.1 p.2 p1 (fun z => z.1.pin p hp rfl) fun z => ?_, p2, p3, p4, p5⟩
    rcases List.mem_cons.mp (I.stkSub p.1 z) with q | q
    · exact p3 q
    · exact p4 q
  · refine (I.hok a o q).stay (fun b u hb r => ?_) (fun _ z => z) fun _ _ z => z
    have tr : ∀ {c : Addr} {w' : HO}, H c = some w' → ∀ u, s.heap.get? c = some u → h'.get? c = some u := fun {c w'} hc u r =>
      keep c u r (fun z => by rw [z.2] at hc; cases hc) fun z => by rw [I.stkFree c z] at hc; cases hc
    rcases hb with rfl | hb
    · exact tr q u r
    · exact tr hb u r
theorem Inv.track {x : Addr} {o : HO} (I : Inv X pins σ H s) (fx : Far X pins x) (hx : H x = none) (ho : ObjOk X.prog X.w (upd H x o) s.heap x o) : Inv X pins σ (upd H x o) s := by
  have H0 : X.H₀ x = none → ∀ b u, X.H₀ b = some u → b ≠ x := fun z b u q e => by rw [e, z] at q; cases q
  refine ⟨I.ok, I.os, I.bare, ⟨I.base.keep, I.base.slot, fun b q e n1 n3 => ?_, I.base.there, fun b xs q => ?_, fun b a u q => ?_, fun b ps q => ?_⟩, I.loc, I.cell, ?_, fun y c e => ?_, fun p hp => ?_, fun a u q => ?_, I.len⟩
  · rw [upd_ne (fun z => by rw [z, fx.old] at e; cases e)]
    exact I.base.free b q e n1 n3
  · have r := I.base.tups b xs q
    rw [upd_ne (ne_of_none r hx)]; exact r
  · have r := I.base.frzs b a u q
    rw [upd_ne (ne_of_none r hx)]; exact r
  · obtain ⟨more, r⟩ := I.base.tbls b ps q
    exact ⟨more, by rw [upd_ne (ne_of_none r hx)]; exact r⟩
  · rw [upd_ne (Ne.symm fx.loc)]; exact I.free
  · rw [upd_ne (fx.cel y c e)]; exact I.freeC y c e
  · obtain ⟨p1, p2, p3, p4, p5⟩ := I.pin p hp
    exact ⟨p1, by rw [upd_ne (fx.pin p hp)]; exact p2, p3, p4, p5⟩
  · by_cases z : a = x
    · subst z; rw [upd_same] at q; cases q; exact ho
    · rw [upd_ne z] at q
      exact (I.hok a u q).stay (fun b v _ r => r) (fun b r => by rw [upd_ne (ne_of_none r hx)]; exact r) fun b xs r => by rw [upd_ne (ne_of_none r hx)]; exact r
theorem Inv.gone {i : Nat} {n : Str} {h' : Heap} {tk : Nat} {m : Str → Option Value} {v : Option Value} (I : Inv X pins σ H s) (nd : X.N.Nodup) (hi : X.N[i]? = some n)
    (hl : ∀ (j : Nat) (x : Str) (v : V), X.N[j]? = some x → σ[j]? = some (some v) → Vis X.env.scope x → ∃ u, RelV v u ∧ Look X.env s.heap m x u)
    (hn : h'.Ns X.env.locals fun y => if y = n then v else m y) (hs : Heap.SameBut X.env.locals s.heap h') : Inv X pins (σ.set i none) H { s with heap := h', toks := tk } := by
  have s0 : ∀ b o, X.s₀.heap.get? b = some o → b ≠ X.env.locals := fun b o e z => by
    have l1 : b < X.s₀.heap.objs.size := Heap.lt_size e
    rw [z] at l1
    exact absurd (Nat.lt_of_lt_of_le l1 I.ok.above) (Nat.lt_irrefl _)
  refine ⟨I.ok, I.os, I.bare, ⟨fun b o e n1 n2 n3 => (hs.2 b (s0 b o e)).trans (I.base.keep b o e n1 n2 n3), fun b o e n1 n2 n3 => ?_, I.base.free, fun b o e n3 => ?_, I.base.tups, I.base.frzs, I.base.tbls⟩, ⟨_, hn, fun j y w a b c => ?_⟩, fun y c e => ?_, I.free, I.freeC, fun p hp => ?_, fun a o q => ?_, by rw [List.length_set]; exact I.len⟩
  · obtain ⟨sl, q⟩ := I.base.slot b o e n1 n2 n3
    exact ⟨sl, (hs.2 b (s0 b o e)).trans q⟩
  · obtain ⟨o1, q⟩ := I.base.there b o e n3
    exact ⟨o1, (hs.2 b (s0 b o e)).trans q⟩
  · have ji : j ≠ i := fun z => by
      subst z
      rw [List.getElem?_set] at b
      split at b
      · split at b <;> cases b
      · rename_i q; exact q rfl
    rw [List.getElem?_set_ne (Ne.symm ji)] at b
    obtain ⟨u, ru, l⟩ := hl j y w a b c
    have yn : y ≠ n := fun z => by
      subst z
      exact ji ((List.getElem?_inj (List.getElem?_eq_some_iff.mp a).1 nd).mp (a.trans hi.symm))
    refine ⟨u, ru, ?_⟩
    rcases l with ⟨l1, l2⟩ | ⟨l, cc, e, o', q', hd'⟩
    · exact .inl ⟨l1, by show (if y = n then v else m y) = _; rw [if_neg yn]; exact l2⟩
    · exact .inr ⟨l, cc, e, o', (hs.2 cc (I.cne y cc e)).trans q', hd'⟩
  · obtain ⟨w, o, q, hd⟩ := I.cell y c e
    exact ⟨w, o, (hs.2 c (I.cne y c e)).trans q, hd⟩
  · obtain ⟨p1, p2, p3, p4, p5⟩ := I.pin p hp
    exact ⟨(hs.2 p.1 p3).trans p1, p2, p3, p4, p5⟩
  · refine (I.hok a o q).stay (fun b u hb r => (hs.2 b fun z => ?_).trans r) (fun _ z => z) fun _ _ z => z
    rcases hb with rfl | hb
    · rw [z, I.free] at q; cases q
    · rw [z, I.free] at hb; cases hb
end

/-! ### a caught exception as a value -/
def ExcIs (x C : Addr) (h : Heap) : Prop := ∃ ox, PySem.W.InstAt h x ox C none
def excO (x C : Addr) : HO := .ext (ExcIs x C)
theorem Fly.exc {h : Heap} {x T C : Addr} {fl : Value} (F : Fly h x T (.ref C) fl) : ExcIs x C h := by
  obtain ⟨oe, vs, oT, ts, hx, hc, hdc, hd, _⟩ := F.ex
  refine ⟨oe, hx, hc, ?_, ?_⟩
  · cases oe with | mk c d dt sl => cases hd; rfl
  · rw [hdc]; exact True.intro
theorem excO_ok {P : Program} {w : World} {H : Hp} {h : Heap} {x C : Addr} (e : ExcIs x C h) : ObjOk P w H h x (excO x C) := by
  refine ⟨e, ?_, fun h1 h2 q k => ?_⟩
  · obtain ⟨ox, i⟩ := e; exact ⟨ox, i.at_⟩
  · obtain ⟨ox, i⟩ := q
    refine ⟨ox, k _ i.at_, i.cls, i.no, ?_⟩
    have z := i.dict
    revert z
    cases ox.dict with
    | none => exact fun _ => True.intro
    | some d => exact fun z => z.elim
section
open PySem.W
theorem exc_cls {prog : Program} {w : World} {A : Around} {E : Value → Shared → Prop} {Q : Option Value → Shared → Prop} {s : Shared} {K : PySem.W.Frag} {x C : Addr} {ox : Obj} {odo : Option Obj} (X : K.In s.heap) (I : InstAt s.heap x ox C odo)
    (hga : findIn K (.ref C) "__getattribute__" = some (some (.builtin "BaseException.__getattribute__"))) (hgt : findIn K (.ref C) "__getattr__" = some none)
    (hf : findObj K C odo "__class__" = some (.bind (.builtin "getset_descriptor.__get__") (.builtin "object.__class__"))) (hmB : mroIn K C (.type "BaseException") = some true) (hmO : mroIn K C (.type "object") = some true)
    (k : Q (some (.ref C)) { s with toks := s.toks + 1 }) : wpAny (model prog w) A (getAttr? (.ref x) "__class__") Q E s := by
  obtain ⟨hh, g, d, t, os⟩ := s
  have L0 := I.type (M := model prog w)
  have L1 := looks_findIn (M := model prog w) X hga
  have L2 := looks_findIn (M := model prog w) X hgt
  have L3 := looks_mroIn (M := model prog w) X hmB
  have L4 := looks_find (M := model prog w) X I hf
  unfold getAttr? getAttrBy? getAttrBy
  refine wpAny_bind (wpAny_mkText (wpAny_bind (wpAny_attempt (wpAny_holding (wpAny_bind (L0.at (wpAny_bind (L1.at ?_))))))))
  show wpAny _ _ (getAttrByItsOwn _ _ _ _ _ _) _ _ _
  unfold getAttrByItsOwn
  refine wpAny_bind (L2.at ?_)
  refine wpAny_bind (wpAny_attempt (wpAny_holding ?_))
  show wpAny _ _ (boundAndCalled _ _ _) _ _ _
  unfold boundAndCalled
  have FB := PySem.F.attrBase_ValueError
  rw [FB.ga.bind (.ref x)]
  refine wpAny_bind (wpAny_pure ?_)
  refine wpAny_call (codeAny_call_builtin FB.ga.plain F.entry_bexc_ga ?_)
  have hk : builtinKind "BaseException.__getattribute__" = some .slot := by decide +kernel
  have hsplit : splitId "BaseException.__getattribute__" = some ("BaseException", "__getattribute__") := by decide +kernel
  have ha := F.args_bexc_ga (.ref x) (.str "__class__" t)
  simp only [checkBuiltinCall, hk, hsplit]
  refine wpAny_bind ?_
  unfold isInstance
  repeat (first | assumption | (with_reducible refine wpAny_call (class_get (ox := ox) (od := odo) X I hmO ?_)) | lk | wp_step)
end
structure PlainX (K : PySem.W.Frag) (C : Addr) : Prop where
  ga : PySem.W.findIn K (.ref C) "__getattribute__" = some (some (.builtin "BaseException.__getattribute__"))
  gt : PySem.W.findIn K (.ref C) "__getattr__" = some none
  mroB : PySem.W.mroIn K C (.type "BaseException") = some true
  cls : (PySem.W.clsIn K C).isSome = true
  fnd : PySem.W.findIn K (.ref C) "__class__" = some (some (.builtin "object.__class__"))
  spc : PySem.W.specialIn K (.builtin "object.__class__") "__get__" = some (some (.builtin "getset_descriptor.__get__"))
  tak : PySem.W.takesIn K (.builtin "object.__class__") = some true
  mro : PySem.W.mroIn K C (.type "object") = some true
theorem kitx_exc {K : PySem.W.Frag} {x C : Addr} (p : PlainX K C) : PySem.W.KitX K (.ref x) (.ref C) (ExcIs x C) where
  ty := fun _ _ _ ⟨_, i⟩ => i.type
  it := fun M h X _ => by
    obtain ⟨cd, hc⟩ := Option.isSome_iff_exists.mp p.cls
    unfold PySem.W.clsIn at hc
    split at hc
    · next c' d' cd' sl' ho =>
      intro A' Q' E' s' k q
      unfold isType loadHead
      exact wpAny_bind (wpAny_loadPart (k _ _ (X _ _ ho)) (wpAny_pure q))
    · cases hc
  ne := fun h tp dd its n sl X htp => by
    obtain ⟨cd, hc⟩ := Option.isSome_iff_exists.mp p.cls
    refine Bool.eq_false_iff.mpr fun q => ?_
    obtain rfl : C = tp := Value.ref.inj (beq_iff_eq.mp q)
    unfold PySem.W.clsIn at hc
    split at hc
    · next c' d' cd' sl' ho =>
      have z := (X _ _ ho).symm.trans htp
      cases z
    · cases hc
  ca := fun {prog w A E Q s} X e k => by
    obtain ⟨ox, i⟩ := e
    have hf : PySem.W.findObj K C none "__class__" = some (.bind (.builtin "getset_descriptor.__get__") (.builtin "object.__class__")) := by
      obtain ⟨cd, hc⟩ := Option.isSome_iff_exists.mp p.cls
      unfold PySem.W.findObj
      simp [hc, p.fnd, p.spc, p.tak]
    exact exc_cls X i p.ga p.gt hf p.mroB p.mro k
def rIsiX (K : PySem.W.Frag) : List V → Hp → VK → Prop := fun xs H Q => ∃ x C c cv b, xs = [.ref x, c] ∧ H x = some (excO x C) ∧ PlainX K C ∧ (c = .ref cv ∧ PySem.W.kitOne K (.ref C) (.ref cv) = some b ∧ Q (.bl b) H)
theorem call_isinstX {X : Cx} : CallR X (.builtin "isinstance") (rIsiX X.K) := by
  intro pins s σ H xs us Q I r h
  obtain ⟨x, C, c, cv, b, rfl, hx, p, rfl, e, q⟩ := h
  obtain ⟨u, w', rfl, ru, rw'⟩ := vals2 r
  cases ru
  cases rw'
  obtain ⟨ex, _, _⟩ := (show ObjOk X.prog X.w H s.heap x (excO x C) from I.hok x _ hx)
  exact PySem.W.kia_one (kitx_exc p) I.kIn ex e (fun z => nomatch z) fun tk => ⟨.bl b, H, I.tok _, rfl, q⟩
def rIsiXT (K : PySem.W.Frag) : List V → Hp → VK → Prop := fun xs H Q => ∃ x C T b, xs = [.ref x, .ty T] ∧ H x = some (excO x C) ∧ PlainX K C ∧ PySem.W.kitOne K (.ref C) (.type T) = some b ∧ Q (.bl b) H
theorem call_isinstXT {X : Cx} : CallR X (.builtin "isinstance") (rIsiXT X.K) := by
  intro pins s σ H xs us Q I r h
  obtain ⟨x, C, T, b, rfl, hx, p, e, q⟩ := h
  obtain ⟨u, w', rfl, ru, rw'⟩ := vals2 r
  cases ru
  cases rw'
  obtain ⟨ex, _, _⟩ := (show ObjOk X.prog X.w H s.heap x (excO x C) from I.hok x _ hx)
  exact PySem.W.kia_one (kitx_exc p) I.kIn ex e (fun z => nomatch z) fun tk => ⟨.bl b, H, I.tok _, rfl, q⟩

/-! ### try: f(..) -/
abbrev TX := St → Hp → VK → XK → Prop
def PEX (X : Cx) (e : Expr) (t : TX) : Prop :=
  ∀ (pins : List (Addr × Obj)) (s : Shared) (σ : St) (H : Hp) (Q : VK) (E : XK), Inv X pins σ H s → t σ H Q E →
    wpAny (model X.prog X.w) X.A (eval e X.env) (EP X pins σ Q) (fun ev s' => ∃ H1 s1, Inv X pins σ H1 s1 ∧ CXr X.prog X.w X.stack H1 s1 E ev s') s
def tCallX (sp : Sp) (t : TA) : TX := fun σ H Q E => t σ H fun vs H1 => sp vs H1 Q E
section
variable {X : Cx} {k n : Nat} {ps : List Str} {sp : Sp} {x : Str} {p pos : Pos} {e : Expr} {es : List Expr} {t : TA}
theorem pex_def (G : OkR X.prog X.w X.K X.mg X.base k x ps sp) (hr : Room n X.A) (hg : Gl X x) (ha : PA X.nox (e :: es) t) (hk : k ≤ n := by omega) (hdb : (x == ("__debug__" : Str)) = false := by decide)
    (hs : (e :: es).all notStar = true := by rfl) : PEX X (.Call (.Name x p) (e :: es) [] pos) (tCallX sp t) := by
  obtain ⟨f, fd, hm, kp, hb, F⟩ := G.ex
  intro pins s σ H Q E I h
  refine wpAny_Call_Name_kw (ld_glob I hg hm ?_ hdb)
  have hA := ha pos pins s σ H _ (I.wish _) h
  refine PySem.W.callWith_K (h₀ := X.base) I.ok.mod.kin kp (wpAny_mono hA (fun us s1 ⟨vs, H1, I1, r, q⟩ => ⟨I1.unwish.kIn, ?_⟩) fun _ _ z => z.elim) (star_of (Bool.and_eq_true_iff.mp hs).1) (star_all (Bool.and_eq_true_iff.mp hs).2)
  have I1 := I1.unwish
  have hl : us.length = ps.length := by rw [← r.length]; exact F.len _ _ _ _ q
  have bs := hb s1 us I1.kIn (by rw [List.append_nil]; exact hl)
  rw [List.append_nil] at bs
  refine wpAny_call (codeAny_mono (F.run X.A X.stack s1 H1 ⟨us, []⟩ us vs Q E (hr.mono hk) I1.env0 bs r q) fun fl s' z => ?_)
  cases fl with
  | error ev => exact ⟨H1, s1, I1, z⟩
  | ok fl =>
    cases fl with
    | ret u => exact I1.after z
    | next => exact False.elim z
    | brk => exact False.elim z
    | cont => exact False.elim z
end
def tTry1 (K : PySem.W.Frag) (B : Addr) (i : Nat) (t : TX) (th : TS) : TS := fun D σ H => t σ H (fun _ H1 => D.nx σ H1) fun cls _ H1 => ∃ C, cls = .ref C ∧ PySem.W.exmOne K (.ref C) (.ref B) = some true ∧
  ∀ x H2, H1 x = none → Same H1 H2 → H2 x = some (excO x C) → th { nx := fun σ' H' => D.nx (σ'.set i none) H', rt := D.rt, bk := fun σ' H' => D.bk (σ'.set i none) H', ct := fun σ' H' => D.ct (σ'.set i none) H' } (σ.set i (some (.ref x))) H2
section
variable {X : Cx} {B : Addr} {i : Nat} {n cx : Str} {e : Expr} {b0 : Stmt} {suite : List Stmt} {ep np hpos pos : Pos} {t : TX} {th : TS}
theorem ps_try1 (hstk : X.stack = X.env :: X.outer) (hfr : X.env.frame = some X.env.locals) (hex : X.ex = []) (hb : PEX X e t) (hg : Gl X cx) (hm : X.mg cx = some (.ref B)) (nd : X.N.Nodup) (hi : X.N[i]? = some n) (hlo : X.env.scope.names.lookup n = some .local)
    (hh : ∀ x, PSs (X.marked x) (b0 :: suite) th) (hs : swapsWith e none ep.line X.env = pure false := by rfl) (hdb : (cx == ("__debug__" : Str)) = false := by decide) :
    PS X (.Try [.Expr e ep] [.ExceptHandler (some (.Name cx np)) (some n) (b0 :: suite) hpos] [] [] pos) (tTry1 X.K B i t th) := by
  intro pins s σ H D I h
  refine wpAny_Try_except (wpAny_execs_cons (wpAny_Expr_any (wpAny_mono (hb pins s σ H _ _ I h) (fun v s1 ⟨y, H1, I1, r1, q1⟩ => wpAny_execs_nil (wpAny_execs_nil ⟨σ, H1, I1, q1⟩)) fun ev s' hx => ?_) I.quiet hs))
  obtain ⟨H1, s1, I1, x, T, cls, H', rfl, os, bare, un, hok, F, hx, hT, hxH, hTH, C, rfl, hex1, hth⟩ := hx
  have I' := I1.raised os bare un hok
  have fx : Far X pins x := I1.far hx hex
  have fT : Far X pins T := I1.far hT hex
  have hA : X.A.frames = some (X.env :: X.outer) := by rw [← hstk]; exact I.ok.frames
  have hF : s'.heap.FunFrames X.base (X.env :: X.outer) := by rw [← hstk]; exact I'.stack
  refine note_next hA hF hfr F fun h2 T2 k2 n2 f2 => flight_exact f2 fun h3 o3 f3 => ?_
  have k3 : Kept x [T] (frs X.stack) s'.heap h3 := by rw [hstk]; exact k2.flew n2 o3
  have I3 : Inv X pins σ H' { s' with heap := h3 } := I'.noted (tk := s'.toks) k3 fx hxH (fun b hb => by cases List.mem_singleton.mp hb; exact ⟨fT, hTH⟩)
  have fT2 : Far X pins T2 := I'.far n2 hex
  have hT2H : H' T2 = none := by
    cases q : H' T2 with
    | none => rfl
    | some u =>
      obtain ⟨o1, r⟩ := I'.tracked q
      rw [n2] at r; cases r
  have LT : PySem.W.Looks (model X.prog X.w) h3 (typeOf (.ref x)) (.ref C) := by
    obtain ⟨ox, i⟩ := f3.exc
    exact i.type
  have M3 := I3.marked x
  refine wpAny_handleBy_cons (codeAny_handlers_test (ld_glob M3 hg hm ?_ hdb)) (by intro q; cases q)
  refine (PySem.W.exm_one I3.kIn LT hex1).at (codeAny_handlers_suite_as ?_)
  refine flight_exact f3 fun h4 o4 f4 => ?_
  have I4 : Inv X pins σ H' { s' with heap := h4 } := by
    refine I3.noted (x := x) (ts := [T2]) (tk := s'.toks) ⟨fun b o q n1 n2 n3 => ?_, fun b o q n1 n2 => ?_⟩ fx hxH (fun b hb => by cases List.mem_singleton.mp hb; exact ⟨fT2, hT2H⟩)
    · exact (o4 b fun z => n2 (by rw [z]; exact List.mem_singleton_self _)).trans q
    · exact ⟨o.slots, (o4 b fun z => n2 (by rw [z]; exact List.mem_singleton_self _)).trans q⟩
  have I5 := I4.track (o := excO x C) fx hxH (excO_ok f4.exc)
  refine store_ok (X := X) (v := .ref x) I5 nd hi (.inl hlo) rfl (fun s6 I6 => ?_) (.inr hlo)
  have hth' := hth x (upd H' x (excO x C)) hxH (same_new hxH _) upd_same
  refine wpAny_mono (hh x pins s6 _ _ _ (I6.marked x) hth') (fun fl s7 q7 => ?_) fun _ _ z => z.elim
  have fin : ∀ {σ' : St} {H7 : Hp} {R : Shared → Prop}, Inv (X.marked x) pins σ' H7 s7 → (∀ s8, Inv X pins (σ'.set i none) H7 s8 → R s8) → wpAny (model X.prog X.w) X.A (do bindName X.env n .none; unbindBehindTheSuite X.env n hpos) (fun _ s8 => R s8) X.xe s7 := fun {σ' H7 R} M7 hR => by
    have I7 := M7.unmarked I.ok
    obtain ⟨m, hn, hl⟩ := I7.loc
    exact wpAny_nameGoes_keeps hlo hn (by rw [I7.ok.kind]; rfl) fun h8 v hn8 hs8 => hR _ (I7.gone nd hi hl hn8 hs8)
  cases fl with
  | next => obtain ⟨σ7, H7, M7, q⟩ := q7; exact fin M7 fun s8 I8 => ⟨_, _, I8, q⟩
  | brk => obtain ⟨σ7, H7, M7, q⟩ := q7; exact fin M7 fun s8 I8 => ⟨_, _, I8, q⟩
  | cont => obtain ⟨σ7, H7, M7, q⟩ := q7; exact fin M7 fun s8 I8 => ⟨_, _, I8, q⟩
  | ret u => obtain ⟨v, σ7, H7, M7, rv, q⟩ := q7; exact fin M7 fun s8 I8 => ⟨v, _, _, I8, rv, q⟩
end
end L2

set_option Elab.async false
set_option linter.all false
set_option maxRecDepth 100000
set_option maxHeartbeats 4000000
/-! our own rules: [elt for x in iter if c], nothing raised inside -/
namespace L2
open PySem PySem.Spec PyProof.Rows
abbrev Cx.comp (X : Cx) (scope : Scope) (cl : List (Str × Addr)) (N : List Str) (C : Addr) (fp : List Addr) (s₀ : Shared) (H₀ : Hp) : Cx :=
  { X with N := N, s₀ := s₀, H₀ := H₀, env := compEnvC scope cl C X.env, outer := X.stack, ex := fp, fn := fun _ => false, pn := [], xe := fun _ _ => False }
structure CompScope (X : Cx) (scope : Scope) (cl : List (Str × Addr)) (N : List Str) (cap : List Nat) : Prop where
  kind : scope.kind = .function
  clos : X.Ok → closureFor scope X.env = pure cl
  ncell : ∀ y ∈ scope.names, y.2 ≠ .cell
  names : ∀ y ∈ scope.names, y.2 = .local → scope.names.lookup y.1 = some .local
  nd : N.Nodup
  has : ∀ y, ((relabel scope X.env).names.lookup y = some .cell ∨ (relabel scope X.env).names.lookup y = some .free) → ∃ c, cl.lookup y = some c
  sub : X.Ok → ∀ y c, cl.lookup y = some c → X.env.cells.lookup y = some c
  len : N.length = cap.length + 1
  cap : ∀ (j i : Nat) (y : Str), N[j + 1]? = some y → cap[j]? = some i → X.N[i]? = some y ∧ Vis X.env.scope y ∧ X.env.kindOf y ≠ some .local ∧ ((relabel scope X.env).names.lookup y = some .cell ∨ (relabel scope X.env).names.lookup y = some .free)
def capOf (σ : St) (cap : List Nat) : St := cap.map fun i => (σ[i]?).join
def tComp (cap : List Nat) (wi : TI) (tc : TT) (te : TE) : TE := fun σ H Q => wi σ H fun J H1 => ∀ D, H1 D = none → ∃ W : Nat → Nat → Hp → Prop, (∃ m, W 0 m (upd H1 D (.lst []))) ∧ ∀ i m H, W i m H →
  (J.stop i H ∧ Q (.ref D) H) ∨ (J.go i H ∧ ∀ x H', J.yld i H x H' → tc (some x :: capOf σ cap) H' fun b H2 => if b = true then te (some x :: capOf σ cap) H2 fun v H3 => ∃ ys, H3 D = some (.lst ys) ∧ ys.length < sizeLine ∧ ∃ m', m' < m ∧ W (i + 1) m' (upd H3 D (.lst (ys ++ [v])))
    else ∃ m', m' < m ∧ W (i + 1) m' H2)
section
variable {X : Cx} {pins : List (Addr × Obj)} {σ : St} {H : Hp} {s : Shared} {scope : Scope} {cl : List (Str × Addr)} {N : List Str} {cap : List Nat}
theorem Inv.enter {fp : List Addr} {h' : Heap} {tk : Nat} (S : CompScope X scope cl N cap) (I : Inv X pins σ H s) (f : ∀ b ∈ fp, FpOk X pins H b ∧ b < s.heap.objs.size) (hn : h'.Ns s.heap.objs.size fun _ => none)
    (k : ∀ b o, s.heap.get? b = some o → h'.get? b = some o) : Inv (X.comp scope cl N s.heap.objs.size fp s H) [] (none :: capOf σ cap) H { s with heap := h', toks := tk } := by
  have nC : ∀ b o, s.heap.get? b = some o → b ≠ s.heap.objs.size := fun b o e => Nat.ne_of_lt (Heap.lt_size e)
  have ok := I.ok
  have cellOut : ∀ y c, cl.lookup y = some c → ∃ v, s.heap.IsCell c v := fun y c e => I.cell y c (S.sub I.ok y c e)
  refine ⟨⟨ok.mod, ?_, ok.glob, ok.blt, Nat.le_refl _, fun x y c a b => ok.inj x y c (S.sub I.ok x c a) (S.sub I.ok y c b), S.has, fun _ _ z => absurd z Bool.false_ne_true, ok.hd, ok.frames, .inl rfl, fun b hb => ⟨Nat.ne_of_lt (f b hb).2, fun y c e => (f b hb).1.2.2.2.2.1 y c (S.sub I.ok y c e)⟩, I.bs, Nat.le_trans ok.bsz I.sz, fun b o e hb => ?_, fun b hb z => ?_, I.stack, I.stkFree⟩,
    rfl, I.bare, Un.kept k, ⟨_, hn, fun i y v a b c => ?_⟩, fun y c e => ?_, I.hok.fresh (Nat.le_refl _), fun y c e => I.freeC y c (S.sub I.ok y c e), fun p hp => by simp at hp, I.hok.kept k, ?_⟩
  · exact S.kind
  · have := (f b hb).1.2.2.2.1
    rcases this with z | z
    · exact ok.noex b o e z
    · have l1 := Heap.lt_size e
      exact absurd (Nat.lt_of_lt_of_le l1 (Nat.le_trans ok.bsz z)) (Nat.lt_irrefl _)
  · rcases List.mem_cons.mp (I.stkSub b z) with q | q
    · exact (f b hb).1.2.1 q
    · exact (f b hb).1.2.2.1 q
  · cases i with
    | zero => simp at b
    | succ j =>
      simp only [List.getElem?_cons_succ] at b
      unfold capOf at b
      rw [List.getElem?_map] at b
      cases e : cap[j]? with
      | none => rw [e] at b; cases b
      | some i =>
        rw [e] at b
        have b : (σ[i]?).join = some v := by simpa using b
        obtain ⟨p1, p2, p3, p4⟩ := S.cap j i y a e
        have b' : σ[i]? = some (some v) := by
          cases q : σ[i]? with
          | none => rw [q] at b; cases b
          | some w => rw [q] at b; exact congrArg some b
        obtain ⟨m, hm, hl⟩ := I.loc
        obtain ⟨u, ru, l⟩ := hl i y v p1 b' p2
        refine ⟨u, ru, .inr ⟨p4, ?_⟩⟩
        rcases l with l | ⟨l, c0, e0, o', q', hd'⟩
        · exact absurd l.1 p3
        · obtain ⟨c, ec⟩ := S.has y p4
          have := S.sub I.ok y c ec
          rw [e0] at this
          cases this
          exact ⟨c0, ec, o', k _ _ q', hd'⟩
  · obtain ⟨v, o, q, hd⟩ := cellOut y c e
    exact ⟨v, o, k _ _ q, hd⟩
  · show (none :: capOf σ cap).length = N.length
    rw [S.len, List.length_cons]
    unfold capOf
    rw [List.length_map]
end

def PTs (X : Cx) (ifs : List Expr) (t : TT) : Prop :=
  ∀ (pins : List (Addr × Obj)) (s : Shared) (σ : St) (H : Hp) (Q : Bool → Hp → Prop), Inv X pins σ H s → t σ H Q →
    wpAny (model X.prog X.w) X.A (forIn ifs true fun c r => if r = true then do let ok ← isTrue c X.env (eval c X.env); pure (ForInStep.yield ok) else pure (ForInStep.yield r)) (TP X pins σ Q) X.xe s
def tYes : TT := fun _ H Q => Q true H
theorem pts_nil {X : Cx} : PTs X [] tYes := fun _ _ _ H _ I h => wpAny_tests_nil ⟨H, I, h⟩
theorem pts_one {X : Cx} {c : Expr} {t : TT} (h : PT X c t) : PTs X [c] t := fun pins s σ H Q I q => wpAny_tests_one (h pins s σ H Q I q)
section
variable {X : Cx} {scope : Scope} {cl : List (Str × Addr)} {N : List Str} {cap : List Nat} {x : Str} {px pos : Pos} {iter elt : Expr} {ifs : List Expr} {wi : TI} {tc : TT} {te : TE}
theorem comp_core {use : Option (Value → Sem Unit)} {Qv : Value → Shared → Prop} {pins : List (Addr × Obj)} {s : Shared} {σ : St} {H : Hp} {Q : VK} {pos' : Pos} (S : CompScope X scope cl N cap) (hc : X.calm = true) (hi : PI X (.Name x px) iter wi) (hx : N[0]? = some x) (hxl : scope.names.lookup x = some .local)
    (ht : ∀ C fp s₀ H₀, PTs (X.comp scope cl N C fp s₀ H₀) ifs tc) (he : ∀ C fp s₀ H₀, PE (X.comp scope cl N C fp s₀ H₀) elt te) (hs : ∀ x, foldedSetIterable iter X.env x = pure x)
    (I : Inv X pins σ H s) (h : tComp cap wi tc te σ H Q)
    (fin : ∀ (D C : Addr) (H6 : Hp) (s6 : Shared) (m : Str → Option Value), Inv X pins σ H6 s6 → FpOk X pins H6 C → s6.heap.Ns C m → Q (.ref D) H6 → compPost (model X.prog X.w) X.A X.xe use Qv (.ref D) C (.ok .next) s6) :
    wpAny (model X.prog X.w) X.A (comprehension (.ListComp elt [⟨.Name x px, iter, ifs, 0⟩] scope pos) scope X.env pos' (newList []) false (eval iter X.env) use) Qv X.xe s := by
  refine wpAny_comprehension_free (use := use) rfl hs (S.clos I.ok) S.kind S.names (thn (hi pins s σ H _ I h) fun v s1 h1 => thn h1 fun itv s2 h2 => ?_)
  obtain ⟨it, fp, tn, J, H2, rfl, I2, T, st2, f2, q⟩ := h2
  obtain ⟨W, ⟨m0, w0⟩, turn⟩ := q s2.heap.objs.size (I2.hok.fresh (Nat.le_refl _))
  have I3 : Inv X pins σ (upd H2 s2.heap.objs.size (.lst [])) { s2 with heap := s2.heap.push { cls := .type "list", dict := none, data := .seq ([] : List Value).toArray } } :=
    I2.laid (t' := s2.toks) (fun b u e => Heap.get?_push_of_some _ e) (Nat.le_refl _) ⟨Nat.zero_le _, [], 0, .nil, Heap.get?_push_size _ rfl⟩
  refine wpAny_newObj_type (wpAny_newFunctionEnv S.ncell (by intro y hy; simp at hy) (fun h4 hns hsb => ?_) S.kind)
  generalize hs3 : ({ s2 with heap := s2.heap.push { cls := .type "list", dict := none, data := .seq ([] : List Value).toArray } } : Shared) = s3 at I3 hns hsb ⊢
  have f3 : ∀ b ∈ fp, FpOk X pins (upd H2 s2.heap.objs.size (.lst [])) b ∧ b < s3.heap.objs.size := fun b hb => by
    obtain ⟨o, ho, _⟩ := T.obj _ _ st2 b hb
    have l1 : b < s2.heap.objs.size := Heap.lt_size ho
    refine ⟨⟨?_, (f2 b hb).2⟩, ?_⟩
    · rw [upd_ne (Nat.ne_of_lt l1)]; exact (f2 b hb).1
    · rw [← hs3, Heap.size_push]; exact Nat.lt_succ_of_lt l1
  have nsN : h4.Ns s3.heap.objs.size fun _ => none := by
    have := hns
    simpa using this
  have keep4 : ∀ b o, s3.heap.get? b = some o → h4.get? b = some o := fun b o e => (hsb.2 b (Nat.ne_of_lt (Heap.lt_size e))).trans (Heap.get?_push_of_some _ e)
  have Ic := I3.enter (tk := s3.toks + ([] : List (Str × Value)).length) S f3 nsN keep4
  have st4 : tn 0 h4 := T.keep _ _ _ st2 fun b hb o e => keep4 b o (by rw [← hs3]; exact Heap.get?_push_of_some _ e)
  have stat : ∀ {H' : Hp}, (∀ b ∈ fp, H' b = none) → ∀ b ∈ fp, FpOk (X.comp scope cl N s3.heap.objs.size fp s3 (upd H2 s2.heap.objs.size (.lst []))) [] H' b := fun hn b hb =>
    ⟨hn b hb, Nat.ne_of_lt (f3 b hb).2, fun z => (List.mem_cons.mp (I3.stkSub b z)).elim (fun q => (f3 b hb).1.2.1 q) fun q => (f3 b hb).1.2.2.1 q, .inl hb, fun y c e => (f3 b hb).1.2.2.2.2.1 y c (S.sub I.ok y c e), fun p hp => by simp at hp⟩
  have out : ∀ {ox : Option V} {H6 : Hp} {s6 : Shared}, Inv (X.comp scope cl N s3.heap.objs.size fp s3 (upd H2 s2.heap.objs.size (.lst []))) [] (ox :: capOf σ cap) H6 s6 → Q (.ref s2.heap.objs.size) H6 →
      compPost (model X.prog X.w) X.A X.xe use Qv (Value.ref s2.heap.objs.size) s3.heap.objs.size (.ok .next) s6 := fun {ox H6 s6} I6 q6 => by
    obtain ⟨m, hm, _⟩ := I6.loc
    have Io : Inv X pins σ H6 s6 := I3.call' I6.os I6.base I6.hok I6.bare fun b hb => ⟨(f3 b hb).1.2.2.2.1, (f3 b hb).1.2.1, (f3 b hb).1.2.2.2.2.1, (f3 b hb).1.2.2.2.2.2⟩
    exact fin _ _ _ _ m Io (I3.fpOk (b := s3.heap.objs.size) (H' := H6) (Nat.le_refl _) I6.free) hm q6
  have loop : codeAny (model X.prog X.w) X.A (.compLoop (.ListComp elt [⟨.Name x px, iter, ifs, 0⟩] scope pos) 0 (.ref it) (.ref s2.heap.objs.size) (compEnvC scope cl s3.heap.objs.size X.env))
      (compPost (model X.prog X.w) X.A X.xe use Qv (Value.ref s2.heap.objs.size) s3.heap.objs.size) { s3 with heap := h4, toks := s3.toks + ([] : List (Str × Value)).length } := by
    refine codeAny_compLoop_tests (fun n s' => ∃ i ox H', Inv (X.comp scope cl N s3.heap.objs.size fp s3 (upd H2 s2.heap.objs.size (.lst []))) [] (ox :: capOf σ cap) H' s' ∧ tn i s'.heap ∧ (∀ b ∈ fp, H' b = none) ∧ W i n H') ?_ m0 ⟨0, none, _, Ic, st4, fun b hb => (f3 b hb).1.1, w0⟩
    rintro n s5 ⟨i, ox, H5, I5, st5, fr5, w5⟩
    rcases turn i n H5 w5 with ⟨stop, qd⟩ | ⟨go, step⟩
    · refine wpAny_mono (T.done (X.comp scope cl N s3.heap.objs.size fp s3 (upd H2 s2.heap.objs.size (.lst []))) rfl rfl rfl hc i [] s5 _ H5 (fun _ _ => False) I5 (stat fr5) st5 stop) (fun r s6 ⟨hr, I6⟩ => ?_) fun _ _ z => z.elim
      subst hr
      exact out I6 qd
    · refine wpAny_mono (T.item (X.comp scope cl N s3.heap.objs.size fp s3 (upd H2 s2.heap.objs.size (.lst []))) rfl rfl rfl hc i [] s5 _ H5 (fun _ _ => False) I5 (stat fr5) st5 go) (fun r s6 ⟨u, hr, h6⟩ => ?_) fun _ _ z => z.elim
      subst hr
      have hgx : PG (X.comp scope cl N s3.heap.objs.size fp s3 (upd H2 s2.heap.objs.size (.lst []))) (.Name x px) (gName 0) := pg_name (i := 0) S.nd hx (.inl (lookup_relabel_local hxl)) (.inr (lookup_relabel_local hxl))
      refine (show wpAny (model X.prog X.w) X.A (letOwnedTupleGo (.Name x px) (.ref it) u >>= fun _ => assign (.Name x px) (compEnvC scope cl s3.heap.objs.size X.env) u) _ _ s6 from wpAny_bind (wpAny_mono h6 (fun _ s7 ⟨v, H7, I7, r7, y7, st7, fr7⟩ => ?_) fun _ _ z => z.elim))
      have I7' := I7.pinned (stat fr7) (T.obj _ _ st7)
      have again : ∀ {v' : V} {H9 : Hp} {s9 : Shared}, Inv (X.comp scope cl N s3.heap.objs.size fp s3 (upd H2 s2.heap.objs.size (.lst []))) ([] ++ pinsAt fp s7.heap) (some v' :: capOf σ cap) H9 s9 → (∃ m', m' < n ∧ W (i + 1) m' H9) →
          ∃ m', m' < n ∧ ∃ i ox H', Inv (X.comp scope cl N s3.heap.objs.size fp s3 (upd H2 s2.heap.objs.size (.lst []))) [] (ox :: capOf σ cap) H' s9 ∧ tn i s9.heap ∧ (∀ b ∈ fp, H' b = none) ∧ W i m' H' := fun {v' H9 s9} I9 ⟨m', lt, w'⟩ => by
        refine ⟨m', lt, i + 1, some v', H9, I9.unpinned, T.keep _ _ _ st7 fun b hb o e => (I9.pin (b, o) (List.mem_append_right _ (List.mem_append_right _ (mem_pinsAt hb e)))).1, fun b hb => ?_, w'⟩
        obtain ⟨o, e, d⟩ := T.obj _ _ st7 b hb
        exact (I9.pin (b, o) (List.mem_append_right _ (List.mem_append_right _ (mem_pinsAt hb e)))).2.1
      refine wpAny_mono (hgx _ s7 (ox :: capOf σ cap) H7 v u (fun σ' H' => σ' = some v :: capOf σ cap ∧ H' = H7) I7' r7 ⟨rfl, rfl⟩) (fun _ s8 ⟨σ8, H8, I8, e8, e8'⟩ => ?_) fun _ _ z => z.elim
      subst e8 e8'
      refine wpAny_mono (ht _ _ _ _ _ s8 _ H8 _ I8 (step v H8 y7)) (fun b s9 ⟨H9, I9, q9⟩ => ?_) fun _ _ z => z.elim
      cases b with
      | false => exact again I9 q9
      | true =>
        refine wpAny_mono (he _ _ _ _ _ s9 _ H9 _ I9 q9) (fun u' s10 ⟨v', H10, I10, r10, ys, hD, hz, q10⟩ => ?_) fun _ _ z => z.elim
        refine wpAny_mono (mt_append (X := X.comp scope cl N s3.heap.objs.size fp s3 (upd H2 s2.heap.objs.size (.lst []))) _ s10 _ H10 (.ref s2.heap.objs.size) [v'] (.ref s2.heap.objs.size) [u'] (fun _ H' => ∃ m', m' < n ∧ W (i + 1) m' H') I10 rfl (.cons r10 .nil) ⟨_, ys, v', rfl, rfl, hD, hz, q10⟩) (fun _ s11 ⟨_, H11, I11, _, q11⟩ => again I11 q11) fun _ _ z => z.elim
  exact codeAny_compStart_list loop (T.self _ 0 _ _ _ st4 loop)
theorem pe_comp (S : CompScope X scope cl N cap) (hc : X.calm = true) (hi : PI X (.Name x px) iter wi) (hx : N[0]? = some x) (hxl : scope.names.lookup x = some .local)
    (ht : ∀ C fp s₀ H₀, PTs (X.comp scope cl N C fp s₀ H₀) ifs tc) (he : ∀ C fp s₀ H₀, PE (X.comp scope cl N C fp s₀ H₀) elt te) (hs : ∀ x, foldedSetIterable iter X.env x = pure x := by intro _; rfl) :
    PE X (.ListComp elt [⟨.Name x px, iter, ifs, 0⟩] scope pos) (tComp cap wi tc te) := by
  intro pins s σ H Q I h
  rw [eval_ListComp]
  refine comp_core S hc hi hx hxl ht he hs I h fun D C H6 s6 m Io Cf hm q6 => ?_
  exact ⟨m, hm, fun h' sb => ⟨.ref D, H6, Io.turned (it := C) (t' := s6.toks) (fun b o n e => (sb.2 b n).trans e) Cf.1 Cf.2.1 Cf.2.2.2.1 Cf.2.2.2.2.1 Cf.2.2.2.2.2, rfl, q6⟩⟩
theorem ps_setC {i : Nat} {y : Str} {py spos : Pos} (hN : X.N.Nodup) (hiy : X.N[i]? = some y) (hy : Loc X.env.scope y) (S : CompScope X scope cl N cap) (hc : X.calm = true) (hi : PI X (.Name x px) iter wi) (hx : N[0]? = some x) (hxl : scope.names.lookup x = some .local)
    (ht : ∀ C fp s₀ H₀, PTs (X.comp scope cl N C fp s₀ H₀) ifs tc) (he : ∀ C fp s₀ H₀, PE (X.comp scope cl N C fp s₀ H₀) elt te) (hs : ∀ x, foldedSetIterable iter X.env x = pure x := by intro _; rfl)
    (hsw : swapsWith (.ListComp elt [⟨.Name x px, iter, ifs, 0⟩] scope pos) (some (.Name y py)) spos.line X.env = pure true := by rfl)
    (hf : X.fn y = true ∨ X.env.scope.names.lookup y = some .local := by first | exact .inl rfl | exact .inr rfl | assumption) :
    PS X (.Assign [.Name y py] (.ListComp elt [⟨.Name x px, iter, ifs, 0⟩] scope pos) spos) (tAsg (tComp cap wi tc te) (gName i)) := by
  intro pins s σ H D I h
  rw [exec_Assign_Name_used _ _ _ _ hsw]
  refine wpAny_bind (wpAny_standAt (wpAny_bind ?_))
  show wpAny _ X.A (do let _ ← comprehension (.ListComp elt [⟨.Name x px, iter, ifs, 0⟩] scope pos) scope X.env _ (newList []) false (eval iter X.env) (some (assign (.Name y py) X.env))) _ _ s
  refine wpAny_bind (wpAny_mono (comp_core (use := some (assign (.Name y py) X.env)) (Qv := fun _ s' => SP X pins D .next s') S hc hi hx hxl ht he hs I h fun D' C H6 s6 m Io Cf hm q6 => ?_) (fun _ s' hq => wpAny_pure (wpAny_pure hq)) fun _ _ e => e)
  show wpAny _ X.A (assign (.Name y py) X.env (.ref D')) _ _ _
  refine wpAny_assign_Name (store_ok2 (v := .ref D') Io hN hiy hy rfl (fun s7 I7 hsb => ?_) hf)
  obtain ⟨a, sb, ha⟩ := hsb
  have hne : C ≠ a := fun e => ha.elim (fun q => Cf.2.1 (e.trans q)) fun q => Cf.2.2.2.2.1 _ _ q e.symm
  refine ⟨m, hm.at' fun o e => (sb.2 C hne).trans e, fun h' sb' => ?_⟩
  exact ⟨_, H6, I7.turned (it := C) (t' := s7.toks) (fun b o n e => (sb'.2 b n).trans e) Cf.1 Cf.2.1 Cf.2.2.2.1 Cf.2.2.2.2.1 Cf.2.2.2.2.2, q6⟩
end
end L2

set_option Elab.async false
set_option linter.all false
set_option maxRecDepth 100000
set_option maxHeartbeats 4000000
/-! our own rules: texts -/
namespace L2
open PySem PySem.Spec PyProof.Rows
def Its (x : Str) : It := ⟨fun i _ => i < x.cps.size, fun i H v H' => H' = H ∧ ∃ c, x.cps[i]? = some c ∧ v = .str ⟨#[c]⟩, fun i _ => x.cps.size ≤ i⟩
theorem turn_ascii {P : Program} {w : World} {K : PySem.W.Frag} {tg : Expr} (x : Str) (t : Tok) (it : Addr) : Turn P w K tg (Its x) [it] it (fun i h => h.IsStrIter it "str_ascii_iterator" x t i) where
  mem := List.mem_singleton_self _
  obj := fun i h st b hb => by
    obtain rfl := List.mem_singleton.mp hb
    obtain ⟨o, e, c, d⟩ := st
    exact ⟨o, e, fun v z => by rw [d] at z; cases z⟩
  keep := fun i h h' ⟨o, e, c, d⟩ k => ⟨o, k it (List.mem_singleton_self _) o e, c, d⟩
  item := by
    intro X hP hw hK hc i pins s σ H E I hf st hg
    subst hP hw hK
    obtain ⟨f0, f1, f2, f3, f4, f5⟩ := hf it (List.mem_singleton_self _)
    have hi : i < x.cps.size := hg
    refine wpAny_pyNext_ascii_item st (c := x.cps[i]) (Array.getElem?_eq_getElem hi) fun h' st' sb => ?_
    have I1 : Inv X pins σ H { s with heap := h', toks := s.toks + 1 } := I.turned (t' := s.toks + 1) (fun b o hb e => (sb.2 b hb).trans e) f0 f1 f3 f4 f5
    obtain ⟨o, e, c, d⟩ := id st'
    exact ⟨_, rfl, go_of (s := { s with heap := h', toks := s.toks + 1 }) e c d (by decide) ⟨.str ⟨#[x.cps[i]]⟩, H, I1, ⟨_, rfl⟩, ⟨rfl, _, Array.getElem?_eq_getElem hi, rfl⟩, st', fun b hb => (hf b hb).1⟩⟩
  done := by
    intro X hP hw hK hc i pins s σ H E I hf st hg
    subst hP hw hK
    obtain ⟨f0, f1, f2, f3, f4, f5⟩ := hf it (List.mem_singleton_self _)
    have hi : x.cps.size ≤ i := hg
    exact wpAny_pyNext_ascii_end (I.ok.hd hc) st (Array.getElem?_eq_none hi) fun h' eb => ⟨rfl, I.turned (t' := s.toks) (fun b o hb e => eb b o hb e) f0 f1 f3 f4 f5⟩
  self := fun _ _ _ _ _ st h => wpAny_pyIter_striter_ascii st h
theorem turn_wide {P : Program} {w : World} {K : PySem.W.Frag} {tg : Expr} (x : Str) (t : Tok) (it : Addr) : Turn P w K tg (Its x) [it] it (fun i h => h.IsStrIter it "str_iterator" x t i) where
  mem := List.mem_singleton_self _
  obj := fun i h st b hb => by
    obtain rfl := List.mem_singleton.mp hb
    obtain ⟨o, e, c, d⟩ := st
    exact ⟨o, e, fun v z => by rw [d] at z; cases z⟩
  keep := fun i h h' ⟨o, e, c, d⟩ k => ⟨o, k it (List.mem_singleton_self _) o e, c, d⟩
  item := by
    intro X hP hw hK hc i pins s σ H E I hf st hg
    subst hP hw hK
    obtain ⟨f0, f1, f2, f3, f4, f5⟩ := hf it (List.mem_singleton_self _)
    have hi : i < x.cps.size := hg
    refine wpAny_pyNext_wide_item st (c := x.cps[i]) (Array.getElem?_eq_getElem hi) fun h' st' sb => ?_
    have I1 : Inv X pins σ H { s with heap := h', toks := s.toks + 1 } := I.turned (t' := s.toks + 1) (fun b o hb e => (sb.2 b hb).trans e) f0 f1 f3 f4 f5
    obtain ⟨o, e, c, d⟩ := id st'
    exact ⟨_, rfl, go_of (s := { s with heap := h', toks := s.toks + 1 }) e c d (by decide) ⟨.str ⟨#[x.cps[i]]⟩, H, I1, ⟨_, rfl⟩, ⟨rfl, _, Array.getElem?_eq_getElem hi, rfl⟩, st', fun b hb => (hf b hb).1⟩⟩
  done := by
    intro X hP hw hK hc i pins s σ H E I hf st hg
    subst hP hw hK
    obtain ⟨f0, f1, f2, f3, f4, f5⟩ := hf it (List.mem_singleton_self _)
    have hi : x.cps.size ≤ i := hg
    exact wpAny_pyNext_wide_end (I.ok.hd hc) st (Array.getElem?_eq_none hi) fun h' eb => ⟨rfl, I.turned (t' := s.toks) (fun b o hb e => eb b o hb e) f0 f1 f3 f4 f5⟩
  self := fun _ _ _ _ _ st h => wpAny_pyIter_striter_wide st h
def iStr (tl : TE) : TI := fun σ H R => tl σ H fun v H1 => ∃ x, v = .str x ∧ R (Its x) H1
theorem pi_str {X : Cx} {tg l : Expr} {tl : TE} (hl : PE X l tl) : PI X tg l (iStr tl) := by
  intro pins s σ H R I h
  refine thn (hl pins s σ H _ I h) fun v s1 ⟨y, H1, I1, r1, x, e, q⟩ => ?_
  subst e
  obtain ⟨t, rfl⟩ := r1
  have new : ∀ {o : Obj}, Inv X pins σ H1 { s1 with heap := s1.heap.push o } := fun {o} => I1.kept (t' := s1.toks) fun b u e => Heap.get?_push_of_some _ e
  have fp : ∀ b ∈ [s1.heap.objs.size], FpOk X pins H1 b := fun b hb => by
    obtain rfl := List.mem_singleton.mp hb
    exact I1.fpOk (Nat.le_refl _) (I1.hok.fresh (Nat.le_refl _))
  cases ha : x.cps.all (· < 128)
  · exact wpAny_pyIter_wide ha ⟨_, _, _, _, H1, rfl, new, turn_wide x t _, ⟨_, Heap.get?_push_size _ rfl, rfl, rfl⟩, fp, q⟩
  · exact wpAny_pyIter_ascii ha ⟨_, _, _, _, H1, rfl, new, turn_ascii x t _, ⟨_, Heap.get?_push_size _ rfl, rfl, rfl⟩, fp, q⟩

/-! ### all([..]) of bools -/
def rAll : List V → Hp → VK → Prop := fun xs H Q => ∃ (p : Addr) (bs : List Bool), xs = [.ref p] ∧ H p = some (.lst (bs.map V.bl)) ∧ Q (.bl (bs.all id)) H
theorem call_all {X : Cx} (hc : X.calm = true) : CallR X (.builtin "all") rAll := by
  intro pins s σ H xs us Q I r h
  obtain ⟨p, bs, rfl, hp, q⟩ := h
  obtain ⟨u, rfl, ru⟩ := vals1 r
  cases ru
  obtain ⟨its, rv, pl, hz⟩ := I.list (SqL.of hp)
  have hlt : p < s.heap.objs.size := I.hok.lt hp
  have item : ∀ (i : Nat) (v : Value), its.toArray[i]? = some v → ∃ b : Bool, bs[i]? = some b ∧ v = Value.bool b := fun i v e => by
    have e' : its[i]? = some v := by simpa using e
    have hi : i < its.length := (List.getElem?_eq_some_iff.mp e').1
    have hi' : i < (bs.map V.bl).length := by rw [rv.length]; exact hi
    obtain ⟨w', e2, rw'⟩ := rv.get (i := i) (x := (bs.map V.bl)[i]) (List.getElem?_eq_getElem hi')
    rw [e'] at e2; cases e2
    rw [List.getElem_map] at rw'
    exact ⟨_, List.getElem?_eq_getElem (by simpa using hi'), rw'⟩
  refine call_all_walk (wpAny_pyIter_list pl.isList ⟨_, _, _, _, _, _, fun i => bs.getD i false, rfl, Walks.list (A := X.A.in1) (show X.A.in1.handled = none from I.ok.hd hc) _ p (Nat.ne_of_lt hlt) its.toArray, ⟨?_, ?_⟩, ?_, fun h' tk k => ?_⟩)
  · exact ⟨_, Heap.get?_push_size _ rfl, rfl, rfl⟩
  · exact pl.isList.at fun o e => Heap.get?_push_of_some _ e
  · intro i v s' Q' E' hv hq
    obtain ⟨b, hb, rfl⟩ := item i v hv
    refine wpAny_truthy_bool ?_
    have e : bs.getD i false = b := by rw [List.getD_eq_getElem?_getD, hb]; rfl
    have hq : Q' (bs.getD i false) s' := hq
    rw [e] at hq
    exact hq
  · have e : (List.range its.toArray.size).all (fun i => bs.getD i false) = bs.all id := by
      have l : its.toArray.size = bs.length := by
        have := rv.length
        simp at this
        simp [this]
      rw [l]
      clear q hp rv item
      rw [Bool.eq_iff_iff]
      simp only [List.all_eq_true, List.mem_range, id]
      constructor
      · intro a b hb
        obtain ⟨i, hi, rfl⟩ := List.getElem_of_mem hb
        have := a i hi
        rw [List.getD_eq_getElem?_getD, List.getElem?_eq_getElem hi] at this
        exact this
      · intro a i hi
        rw [List.getD_eq_getElem?_getD, List.getElem?_eq_getElem hi]
        exact a _ (List.getElem_mem hi)
    rw [e]
    exact ⟨.bl _, H, I.kept (t' := tk) fun b o z => k b o (fun m => absurd (Heap.lt_size z) (by rw [List.mem_singleton.mp m]; exact Nat.lt_irrefl _)) (Heap.get?_push_of_some _ z), rfl, q⟩
/-! ### int(text) -/
theorem call_int_str {X : Cx} : CallR X (.type "int") (fun xs H Q => ∃ x n, xs = [.str x] ∧ PySem.intText? x = some n ∧ x.length ≤ 640 ∧ Q (.int n) H) := by
  intro pins s σ H xs us Q I r h
  obtain ⟨x, n, rfl, hn, hl, q⟩ := h
  obtain ⟨u, rfl, ru⟩ := vals1 r
  obtain ⟨t, rfl⟩ := ru
  exact PySem.W.KIN.call_text hn hl ⟨.int n, H, I.tok _, ⟨_, rfl⟩, q⟩

/-! ### a comprehension that only reads: what it gives -/
structure Over (J : It) (xs : List V) (ok : Hp → Prop) : Prop where
  go : ∀ i H, ok H → i < xs.length → J.go i H
  stop : ∀ i H, ok H → xs.length ≤ i → J.stop i H
  yld : ∀ i H x H', ok H → i < xs.length → J.yld i H x H' → H' = H ∧ xs[i]? = some x
theorem over_str (x : Str) : Over (Its x) (x.cps.toList.map fun c => V.str ⟨#[c]⟩) (fun _ => True) where
  go := fun i H _ h => (show i < x.cps.size by simpa using h)
  stop := fun i H _ h => (show x.cps.size ≤ i by simpa using h)
  yld := fun i H v H' _ h y => by
    obtain ⟨e, c, hc, rfl⟩ := y
    refine ⟨e, ?_⟩
    rw [List.getElem?_map]
    have : x.cps.toList[i]? = some c := by simpa using hc
    rw [this]; rfl
theorem over_list {K : PySem.W.Frag} {a : Addr} {xs : List V} : Over (Itl K a) xs (fun H => H a = some (.lst xs)) where
  go := fun i H e h => ⟨xs, xs[i], SqL.of e, List.getElem?_eq_getElem h⟩
  stop := fun i H e h => ⟨xs, SqL.of e, h⟩
  yld := fun i H v H' e h y => ⟨y.1, y.2 xs (SqL.of e)⟩
theorem over_tup {K : PySem.W.Frag} {a : Addr} {xs : List V} : Over (Itt K a) xs (fun H => H a = some (.tup xs)) where
  go := fun i H e h => ⟨xs, xs[i], SqT.of e, List.getElem?_eq_getElem h⟩
  stop := fun i H e h => ⟨xs, SqT.of e, h⟩
  yld := fun i H v H' e h y => ⟨y.1, y.2 xs (SqT.of e)⟩
theorem over_range (lo : Int) (n : Nat) : Over (Itr lo n) ((List.range n).map fun (k : Nat) => V.int (lo + k)) (fun _ => True) where
  go := fun i H _ h => (show i < n by simpa using h)
  stop := fun i H _ h => (show n ≤ i by simpa using h)
  yld := fun i H v H' _ h y => by
    obtain ⟨e, rfl⟩ := y
    refine ⟨e, ?_⟩
    have h' : i < n := by simpa using h
    rw [List.getElem?_map, List.getElem?_range h']; rfl
theorem comp_pure {J : It} {xs : List V} {ok : Hp → Prop} (O : Over J xs ok) (p : V → Bool) (f : V → V) {tc : TT} {te : TE} {cs : St} {H1 : Hp} {Q : VK} {D : Addr} (hD : H1 D = none) (hok : ∀ ys, ok (upd H1 D (.lst ys))) (sz : xs.length < sizeLine)
    (htc : ∀ x ∈ xs, ∀ H Q, Q (p x) H → tc (some x :: cs) H Q) (hte : ∀ x ∈ xs, p x = true → ∀ H Q, Q (f x) H → te (some x :: cs) H Q)
    (q : ∀ H', Same H1 H' → H' D = some (.lst ((xs.filter p).map f)) → Q (.ref D) H') :
    ∃ W : Nat → Nat → Hp → Prop, (∃ m, W 0 m (upd H1 D (.lst []))) ∧ ∀ i m H, W i m H →
      (J.stop i H ∧ Q (.ref D) H) ∨ (J.go i H ∧ ∀ x H', J.yld i H x H' → tc (some x :: cs) H' fun b H2 => if b = true then te (some x :: cs) H2 fun v H3 => ∃ ys, H3 D = some (.lst ys) ∧ ys.length < sizeLine ∧ ∃ m', m' < m ∧ W (i + 1) m' (upd H3 D (.lst (ys ++ [v])))
        else ∃ m', m' < m ∧ W (i + 1) m' H2) := by
  refine ⟨fun i m H => m = xs.length - i ∧ i ≤ xs.length ∧ H = upd H1 D (.lst (((xs.take i).filter p).map f)), ⟨_, rfl, Nat.zero_le _, by simp⟩, ?_⟩
  rintro i m H ⟨rfl, hi, rfl⟩
  by_cases hlt : i < xs.length
  · refine .inr ⟨O.go i _ (hok _) hlt, fun x H' y => ?_⟩
    obtain ⟨rfl, hx⟩ := O.yld i _ x H' (hok _) hlt y
    have hm := List.mem_of_getElem? hx
    have tk : (xs.take (i + 1)).filter p = (xs.take i).filter p ++ (if p x then [x] else []) := take_succ_filter p xs i x hx
    refine htc x hm _ _ ?_
    cases hp : p x with
    | true =>
      refine iteT (hte x hm hp _ _ ⟨_, upd_same, ?_, xs.length - (i + 1), by omega, rfl, hlt, ?_⟩)
      · rw [List.length_map]
        exact Nat.lt_of_le_of_lt (Nat.le_trans (List.length_filter_le _ _) (List.length_take_le _ _)) (Nat.lt_of_lt_of_le (by omega) (Nat.le_refl _))
      · rw [upd_upd, tk, hp]; simp
    | false =>
      refine iteF ⟨xs.length - (i + 1), by omega, rfl, hlt, ?_⟩
      rw [tk, hp]; simp
  · have e : i = xs.length := by omega
    subst e
    refine .inl ⟨O.stop _ _ (hok _) (Nat.le_refl _), q _ (same_new hD _) ?_⟩
    rw [upd_same, List.take_length]

/-! ### a comprehension that captures nothing -/
theorem lookup_mem {names : List (Str × NameKind)} {y : Str} {k : NameKind} (h : names.lookup y = some k) : (y, k) ∈ names := PySem.mem_of_lookup h
theorem comp_scope0 {X : Cx} {scope : Scope} {x : Str} (hk : scope.kind = .function) (h1 : scope.names.all (fun y => y.2 != .free && y.2 != .cell) = true) (h2 : scope.names.all (fun y => y.2 != .local || scope.names.lookup y.1 == some .local) = true) :
    CompScope X scope [] [x] [] := by
  have nf : ∀ y ∈ scope.names, y.2 ≠ .free ∧ y.2 ≠ .cell := fun y hy => by
    have := List.all_eq_true.mp h1 y hy
    simpa using this
  have rl : (relabel scope X.env).names = scope.names := by
    show scope.names.map _ = _
    refine map_eq_self fun y hy => ?_
    obtain ⟨n, k⟩ := y
    have q : (k == NameKind.free) = false := by
      have := (nf _ hy).1
      simpa using this
    simp [q]
  refine ⟨hk, fun _ => closureFor_none fun y hy => (nf y hy).1, fun y hy => (nf y hy).2, fun y hy e => ?_, List.nodup_cons.mpr ⟨by simp, List.nodup_nil⟩, fun y hy => ?_, fun _ y c e => (by cases e), rfl, fun j i y a b => (by simp at b)⟩
  · have := List.all_eq_true.mp h2 y hy
    simpa [e] using this
  · rw [rl] at hy
    rcases hy with hy | hy
    · exact absurd rfl (nf _ (lookup_mem hy)).2
    · exact absurd rfl (nf _ (lookup_mem hy)).1
/-! ### f-strings of texts and ints -/
def tFmt (te : TE) : TE := fun σ H Q => te σ H fun v H1 => (∃ x, v = .str x ∧ x.length ≤ sizeLine ∧ Q (.str x) H1) ∨ ∃ i : Int, v = .int i ∧ i.natAbs.log2 < 1920 ∧ Q (.str (toString i)) H1
theorem pe_fmt {X : Cx} {e : Expr} {te : TE} {pos : Pos} (he : PE X e te) : PE X (.FormattedValue e (-1) none pos) (tFmt te) := by
  intro pins s σ H Q I h
  refine PySem.wpAny_FormattedValue_plain (thn (he pins s σ H _ I h) fun v s1 ⟨y, H1, I1, r1, q1⟩ => ?_)
  rcases q1 with ⟨x, rfl, hz, q⟩ | ⟨i, rfl, hz, q⟩
  · obtain ⟨t, rfl⟩ := r1
    exact wpAny_formatField_str ⟨.str x, H1, I1, ⟨_, rfl⟩, q⟩ ⟨.str x, H1, I1.tok _, ⟨_, rfl⟩, q⟩ hz
  · obtain ⟨t, rfl⟩ := r1
    exact wpAny_formatField_int hz ⟨.str _, H1, (I1.tok _).tok _, ⟨_, rfl⟩, q⟩
abbrev TJ := Str → St → Hp → (Str → Hp → Prop) → Prop
def PJ (X : Cx) (es : List Expr) (t : TJ) : Prop := ∀ (pins : List (Addr × Obj)) (s : Shared) (σ : St) (H : Hp) (out : Str) (Q : Str → Hp → Prop), Inv X pins σ H s → t out σ H Q →
  wpAny (model X.prog X.w) X.A (joinParts out (evalEach es X.env)) (fun u s' => ∃ x t H', u = .str x t ∧ Inv X pins σ H' s' ∧ Q x H') X.xe s
def jNil : TJ := fun out _ H Q => out.length ≤ sizeLine ∧ Q out H
def jCons (te : TE) (t : TJ) : TJ := fun out σ H Q => te σ H fun v H1 => ∃ x, v = .str x ∧ (out ++ x).length ≤ sizeLine ∧ t (out ++ x) σ H1 Q
theorem pj_nil {X : Cx} : PJ X [] jNil := fun pins s σ H out Q I h => joinParts_nil ⟨out, _, H, rfl, I.tok _, h.2⟩ h.1
theorem pj_cons {X : Cx} {e : Expr} {es : List Expr} {te : TE} {t : TJ} (he : PE X e te) (hr : PJ X es t) : PJ X (e :: es) (jCons te t) := by
  intro pins s σ H out Q I h
  refine joinParts_cons (thn (he pins s σ H _ I h) fun v s1 ⟨y, H1, I1, r1, x, e, hz, q⟩ => ?_)
  subst e
  obtain ⟨t, rfl⟩ := r1
  exact ⟨hz, hr pins s1 σ H1 _ Q I1 q⟩
def tJoin (t : TJ) : TE := fun σ H Q => t Str.empty σ H fun x H1 => Q (.str x) H1
theorem pe_fstr {X : Cx} {e1 e2 : Expr} {es : List Expr} {t : TJ} {pos : Pos} (h : PJ X (e1 :: e2 :: es) t) : PE X (.JoinedStr (e1 :: e2 :: es) pos) (tJoin t) := fun pins s σ H Q I q =>
  JoinedStr_many (thn (h pins s σ H Str.empty _ I q) fun u s' ⟨x, t, H', e, I', q'⟩ => ⟨.str x, H', I', ⟨t, e⟩, q'⟩)
end L2

set_option Elab.async false
set_option linter.all false
set_option maxRecDepth 100000
set_option maxHeartbeats 4000000
/-! our own rules: methods and slices of texts, a module's tuple -/
namespace L2
open PySem PySem.Spec PyProof.Rows
section
variable {X : Cx}
def rStarts : V → List V → Hp → VK → Prop := fun x vs H Q => ∃ a b, x = .str a ∧ vs = [.str b] ∧ Q (.bl (PySem.Txt.startswith a b)) H
theorem mt_startswith : MtR X "str.startswith" rStarts := by
  intro pins s σ H x vs v us Q I rx rv h
  obtain ⟨a, b, rfl, rfl, q⟩ := h
  obtain ⟨t, rfl⟩ := rx
  obtain ⟨u, rfl, ⟨t', rfl⟩⟩ := rv.one
  exact SC.startswith ⟨.bl _, H, I, rfl, q⟩
theorem pe_startswith {o e : Expr} {to te : TE} {apos cpos : Pos} (ho : PE X o to) (he : PE X e te) (hn : notStar e = true := by rfl)
    (hbase : attributeBase o "startswith" X.env (eval o X.env) = eval o X.env := by rfl)
    (hfew : ((backTo cpos (starEach [e] X.env)).all (fun x => !x.1) && (backToKw cpos (keywordEach [] X.env)).all (fun x => x.1.isSome)
      && decide (([e] : List Expr).length + ([] : List Keyword).length + (if ([] : List Keyword).isEmpty then 0 else 1) < 30)) = true := by rfl)
    (hline : (apos.endLine == cpos.line) = true := by rfl) (hs : starEach [e] X.env = (false, eval e X.env) :: starEach [] X.env := by rfl) (hplain : (backTo cpos (starEach [] X.env)).any (·.1) = false := by rfl) :
    PE X (.Call (.Attribute o "startswith" apos) [e] [] cpos) (tBM X.K "str" rStarts to (tCons te tNil)) :=
  pe_bm F.plainAttrs_str F.slot_str_startswith F.type_str_startswith mt_startswith ho (pa_c he pa_nil hn) hbase hfew hline hs hplain
def rMulS : R2 := fun x y H Q => ∃ a n, x = .str a ∧ y = .int n ∧ MulOk a n ∧ Q (.str (PySem.Txt.mul a n)) H
def rSlS : V → Option Int → Option Int → Hp → VK → Prop := fun x lo hi H Q => ∃ a, x = .str a ∧ a.length ≤ sizeLine ∧ Q (.str (PySem.Txt.slice a lo hi)) H
theorem sl_str : SlR X rSlS := by
  intro pins s σ H x v vl vu lo hi sl Q I rx hs pl pu h
  obtain ⟨a, rfl, hz, q⟩ := h
  obtain ⟨t, rfl⟩ := rx
  refine ⟨"str", _, F.slot_str_getitem.lookup, typeIs_str _ _ _, ?_⟩
  cases pl with
  | none =>
    cases pu with
    | none => exact wpAny_getItem_str_slice (l := none) (u := none) (st := none) hs rfl (post_val_or_str ⟨Nat.le_trans (PySem.Txt.slice_le a _ _) hz, fun t' k => ⟨.str _, H, I.tok _, ⟨_, rfl⟩, q⟩⟩)
    | int j uj => exact wpAny_getItem_str_slice (l := none) (u := some (j, uj)) (st := none) hs rfl (post_val_or_str ⟨Nat.le_trans (PySem.Txt.slice_le a _ _) hz, fun t' k => ⟨.str _, H, I.tok _, ⟨_, rfl⟩, q⟩⟩)
  | int i ui =>
    cases pu with
    | none => exact wpAny_getItem_str_slice (l := some (i, ui)) (u := none) (st := none) hs rfl (post_val_or_str ⟨Nat.le_trans (PySem.Txt.slice_le a _ _) hz, fun t' k => ⟨.str _, H, I.tok _, ⟨_, rfl⟩, q⟩⟩)
    | int j uj => exact wpAny_getItem_str_slice (l := some (i, ui)) (u := some (j, uj)) (st := none) hs rfl (post_val_or_str ⟨Nat.le_trans (PySem.Txt.slice_le a _ _) hz, fun t' k => ⟨.str _, H, I.tok _, ⟨_, rfl⟩, q⟩⟩)
theorem vals_strs : ∀ {ys : List Str} {us : List Value}, Vals (ys.map V.str) us → ∃ l : List (Str × Tok), us = strValues l ∧ l.map (·.1) = ys
  | [], _, .nil => ⟨[], rfl, rfl⟩
  | y :: ys, _, .cons r t => by
    obtain ⟨k, rfl⟩ := r
    obtain ⟨l, rfl, e⟩ := vals_strs t
    exact ⟨(y, k) :: l, rfl, by rw [List.map_cons, e]⟩
def rJoinS : V → List V → Hp → VK → Prop := fun x vs H Q => ∃ a l ys, x = .str a ∧ vs = [.ref l] ∧ H l = some (.lst (ys.map V.str)) ∧ JoinOk a ys = true ∧ Q (.str (PySem.Txt.join a ys)) H
theorem mt_join : MtR X "str.join" rJoinS := by
  intro pins s σ H x vs v us Q I rx rv h
  obtain ⟨a, l, ys, rfl, rfl, hl, hok, q⟩ := h
  obtain ⟨t, rfl⟩ := rx
  obtain ⟨u, rfl, ru⟩ := rv.one
  cases ru
  obtain ⟨z, its, n, r, hlen, e⟩ := I.lstM hl
  obtain ⟨m, rfl, e2⟩ := vals_strs r
  exact SC.join ⟨_, e, rfl, _, rfl⟩ e2 hok fun t' k => ⟨.str _, H, I.tok _, ⟨_, rfl⟩, q⟩
theorem pe_join {o e : Expr} {to te : TE} {apos cpos : Pos} (ho : PE X o to) (he : PE X e te) (hn : notStar e = true := by rfl)
    (hbase : attributeBase o "join" X.env (eval o X.env) = eval o X.env := by rfl)
    (hfew : ((backTo cpos (starEach [e] X.env)).all (fun x => !x.1) && (backToKw cpos (keywordEach [] X.env)).all (fun x => x.1.isSome)
      && decide (([e] : List Expr).length + ([] : List Keyword).length + (if ([] : List Keyword).isEmpty then 0 else 1) < 30)) = true := by rfl)
    (hline : (apos.endLine == cpos.line) = true := by rfl) (hs : starEach [e] X.env = (false, eval e X.env) :: starEach [] X.env := by rfl) (hplain : (backTo cpos (starEach [] X.env)).any (·.1) = false := by rfl) :
    PE X (.Call (.Attribute o "join" apos) [e] [] cpos) (tBM X.K "str" rJoinS to (tCons te tNil)) :=
  pe_bm F.plainAttrs_str F.slot_str_join F.type_str_join mt_join ho (pa_c he pa_nil hn) hbase hfew hline hs hplain
def rInK (K : PySem.W.Frag) (neg : Bool) : R2 := fun x y H Q => ∃ p xs, y = .ref p ∧ (∀ H, SqT K H p xs) ∧ flatV x = true ∧ xs.all flatV = true ∧ Q (.bl (if neg then !inV x xs else inV x xs)) H
theorem op_notInK : OpR X (compareOp .NotIn) (rInK X.K true) := by
  intro pins s σ H x y v u Q I rx ry h
  obtain ⟨p, xs, rfl, hq, fx, fs, q⟩ := h
  exact op_notIn_seq pins s σ H x _ v u Q I rx ry ⟨p, xs, rfl, .inr (hq H), fx, fs, q⟩
end
/-! ### comprehensions that only read, whole -/
def sgn (v : V) : Nat := match v with | .str s => s.cps[0]?.getD 0 | _ => 0
theorem filter_signs (p : Nat → Bool) (f : Nat → V) : ∀ l : List Nat, ((l.map fun c => V.str ⟨#[c]⟩).filter fun v => p (sgn v)).map (fun v => f (sgn v)) = (l.filter p).map f
  | [] => rfl
  | c :: l => by
    have e : sgn (V.str ⟨#[c]⟩) = c := rfl
    rw [List.map_cons, List.filter_cons, List.filter_cons, e]
    cases p c
    · exact filter_signs p f l
    · show f (sgn (V.str ⟨#[c]⟩)) :: _ = f c :: _
      rw [e, filter_signs p f l]
theorem tcomp_str {cap : List Nat} {tl te : TE} {tc : TT} {σ : St} {H : Hp} {Q : VK} (x : Str) (p : Nat → Bool) (f : Nat → V) (htl : ∀ K : VK, K (.str x) H → tl σ H K) (sz : x.length < sizeLine)
    (htc : ∀ c ∈ x.cps.toList, ∀ (H : Hp) (Q : Bool → Hp → Prop), Q (p c) H → tc (some (.str ⟨#[c]⟩) :: capOf σ cap) H Q) (hte : ∀ c ∈ x.cps.toList, p c = true → ∀ (H : Hp) (Q : VK), Q (f c) H → te (some (.str ⟨#[c]⟩) :: capOf σ cap) H Q)
    (q : ∀ D H', H D = none → Same H H' → H' D = some (.lst ((x.cps.toList.filter p).map f)) → Q (.ref D) H') : tComp cap (iStr tl) tc te σ H Q := by
  refine htl _ ⟨x, rfl, fun D hD => ?_⟩
  refine comp_pure (over_str x) (fun v => p (sgn v)) (fun v => f (sgn v)) hD (fun _ => trivial) (by rw [List.length_map]; exact sz) ?_ ?_ ?_
  · intro v hv
    obtain ⟨c, hc, rfl⟩ := List.mem_map.mp hv
    exact htc c hc
  · intro v hv
    obtain ⟨c, hc, rfl⟩ := List.mem_map.mp hv
    exact hte c hc
  · intro H' hS e
    exact q D H' hD hS (by rw [e, filter_signs])
/-! ### heap-abstract: + of lists, xs[i] = v -/
def rCatG : R2 := fun x y H Q => ∃ l b xs zs, x = .ref l ∧ y = .ref b ∧ H l = some (.lst xs) ∧ H b = some (.lst zs) ∧ xs.length + zs.length ≤ sizeLine ∧ ∀ p H', H p = none → Same H H' → H' p = some (.lst (xs ++ zs)) → Q (.ref p) H'
theorem op_catG {X : Cx} : OpR X (binaryOp .Add) rCatG := by
  intro pins s σ H x y v u Q I rx ry h
  obtain ⟨l, b, xs, zs, e1, e2, h1, h2, hz, q⟩ := h
  exact op_cat pins s σ H x y v u Q I rx ry ⟨l, b, xs, zs, e1, e2, h1, h2, hz, fresh_any q⟩
def rSetG : V → V → V → Hp → (Hp → Prop) → Prop := fun o i v H Q => ∃ p xs k j, o = .ref p ∧ i = .int k ∧ H p = some (.lst xs) ∧ ixN xs.length k = some j ∧ ∀ H', Mu H p (.lst (xs.set j v)) H' → Q H'
theorem set_listG {X : Cx} : PSet X rSetG := by
  intro pins s σ H o i v ov iv u Q I ro ri rv h
  obtain ⟨p, xs, k, j, e1, e2, h1, h2, q⟩ := h
  exact set_list pins s σ H o i v ov iv u Q I ro ri rv ⟨p, xs, k, j, e1, e2, h1, h2, q _ .mk'⟩
/-! ### a loop over anything whose items are known -/
/-! ### the state behind a statement, named -/
def tMs (t : TS) : TS := fun D σ H => ∃ Z : St → Hp → Prop, t { D with nx := Z } σ H ∧ ∀ σ' H', Z σ' H' → D.nx σ' H'
theorem ps_up {X : Cx} {st : Stmt} {t : TS} (h : PS X st t) : PS X st (tMs t) := by
  intro pins s σ H D I hq
  obtain ⟨Z, h1, h2⟩ := hq
  refine thn (h pins s σ H _ I h1) fun fl s' hs => ?_
  cases fl with
  | next => obtain ⟨σ', H', I', q⟩ := hs; exact ⟨σ', H', I', h2 _ _ q⟩
  | _ => exact hs
end L2

set_option Elab.async false
set_option linter.all false
set_option maxRecDepth 100000
set_option maxHeartbeats 4000000
/-! our own rules: enumerate, comprehensions that capture names -/
namespace L2
open PySem PySem.Spec PyProof.Rows
section
variable {X : Cx} {pins : List (Addr × Obj)} {σ : St} {H : Hp} {s : Shared} {h' : Heap}
theorem Inv.turnedL {t' : Nat} {ch : List Addr} (I : Inv X pins σ H s) (k : ∀ b o, b ∉ ch → s.heap.get? b = some o → h'.get? b = some o) (hf : ∀ b ∈ ch, FpOk X pins H b) : Inv X pins σ H { s with heap := h', toks := t' } := by
  have nit : ∀ b u, H b = some u → b ∉ ch := fun b u e z => by rw [(hf b z).1] at e; cases e
  refine I.step (g' := s.gens) (d' := s.drawn) (ch := ch) (fun b hb => ?_) (fun b o _ _ hc e _ => k b o hc e) (fun b o _ _ hc e _ => ⟨o.slots, k b o hc e⟩) (fun _ _ _ _ n => n)
    (fun b o hc e => ⟨o, k b o hc e⟩) (fun _ _ e => e) (fun _ _ _ e => e) (fun b ps e => ⟨#[], by rw [e]; simp⟩) (fun m hm => ?_) (fun b u e => ?_) I.bare
  · obtain ⟨_, f1, _, f3, f4, f5⟩ := hf b hb
    exact ⟨f3, f1, f4, f5⟩
  · obtain ⟨o, es, ep, ho, r⟩ := hm
    exact ⟨o, es, ep, k _ o (fun z => (hf _ z).2.1 rfl) ho, r⟩
  · refine (I.hok b u e).stay (fun c v hc q => k c v ?_ q) (fun _ q => q) fun _ _ q => q
    rcases hc with z | z
    · rw [z]; exact nit b u e
    · exact nit c _ z
end
/-! ### enumerate of a list -/
/-! ### a comprehension's items, by a relation -/
inductive F2 (R : V → V → Prop) : List V → List V → Prop
  | nil : F2 R [] []
  | cons {x v : V} {xs vs : List V} : R x v → F2 R xs vs → F2 R (x :: xs) (v :: vs)
theorem F2.snoc {R : V → V → Prop} {x v : V} : ∀ {xs vs : List V}, F2 R xs vs → R x v → F2 R (xs ++ [x]) (vs ++ [v])
  | _, _, .nil, r => .cons r .nil
  | _, _, .cons a t, r => .cons a (t.snoc r)
theorem F2.length {R : V → V → Prop} : ∀ {xs vs : List V}, F2 R xs vs → vs.length = xs.length
  | _, _, .nil => rfl
  | _, _, .cons _ t => by rw [List.length_cons, List.length_cons, t.length]
theorem F2.all {R : V → V → Prop} {P : V → Prop} (h : ∀ x v, R x v → P v) : ∀ {xs vs : List V}, F2 R xs vs → ∀ v ∈ vs, P v
  | _, _, .nil => fun v hv => absurd hv List.not_mem_nil
  | _, _, .cons a t => fun v hv => (List.mem_cons.mp hv).elim (fun e => e ▸ h _ _ a) (t.all h v)
/-! ### the scope of a comprehension that captures names -/
theorem forIn_yield_fold {α β : Type} {f : α → β → Sem (ForInStep β)} (g : α → β → β) : ∀ (l : List α) (b : β), (∀ x ∈ l, ∀ b, f x b = pure (.yield (g x b))) → forIn l b f = pure (l.foldl (fun b x => g x b) b)
  | [], b, _ => by rw [List.forIn_nil]; rfl
  | x :: l, b, h => by
    rw [List.forIn_cons, h x List.mem_cons_self b, pure_bind]
    exact forIn_yield_fold g l (g x b) fun y hy => h y (List.mem_cons_of_mem _ hy)
def capG (env : Env) (x : Str × NameKind) (r : List (Str × Addr)) : List (Str × Addr) := if x.2 == .free then (x.1, (env.cells.lookup x.1).getD 0) :: r else r
def clOf (env : Env) (scope : Scope) : List (Str × Addr) := scope.names.foldl (fun r x => capG env x r) []
theorem closure_of {scope : Scope} {env : Env} (h : ∀ y ∈ scope.names, y.2 = .free → ∃ c, env.cells.lookup y.1 = some c) : closureFor scope env = pure (clOf env scope) := by
  simp only [closureFor]
  rw [forIn_yield_fold (capG env) scope.names [] (fun x hx b => by
    obtain ⟨n, k⟩ := x
    cases hk : (k == NameKind.free) with
    | false => simp [capG, hk]
    | true =>
      have e : k = .free := by simpa using hk
      obtain ⟨c, hc⟩ := h _ hx e
      have hc' : env.cells.lookup n = some c := hc
      simp [capG, hk, cellOf, hc'])]
  rfl
theorem cl_sub {env : Env} : ∀ (names : List (Str × NameKind)) (acc : List (Str × Addr)), (∀ y ∈ names, y.2 = .free → ∃ c, env.cells.lookup y.1 = some c) → (∀ y c, acc.lookup y = some c → env.cells.lookup y = some c) →
    ∀ y c, (names.foldl (fun r x => capG env x r) acc).lookup y = some c → env.cells.lookup y = some c
  | [], acc, _, ha, y, c, e => ha y c e
  | (n, k) :: names, acc, h, ha, y, c, e => by
    refine cl_sub names (capG env (n, k) acc) (fun z hz => h z (List.mem_cons_of_mem _ hz)) (fun z d ez => ?_) y c e
    unfold capG at ez
    split at ez
    · rename_i hk
      have hk' : k = .free := by simpa using hk
      obtain ⟨c', hc'⟩ := h _ List.mem_cons_self hk'
      have hc' : env.cells.lookup n = some c' := hc'
      rw [List.lookup_cons] at ez
      split at ez
      · rename_i hzn
        have : z = n := by simpa using hzn
        subst this
        rw [hc'] at ez ⊢
        exact ez
      · exact ha z d ez
    · exact ha z d ez
theorem cl_has {env : Env} : ∀ (names : List (Str × NameKind)) (acc : List (Str × Addr)) (y : Str), ((y, NameKind.free) ∈ names ∨ (acc.lookup y).isSome) → ((names.foldl (fun r x => capG env x r) acc).lookup y).isSome
  | [], acc, y, h => h.elim (fun z => absurd z List.not_mem_nil) id
  | (n, k) :: names, acc, y, h => by
    refine cl_has names (capG env (n, k) acc) y ?_
    rcases h with h | h
    · rcases List.mem_cons.mp h with h | h
      · obtain ⟨rfl, rfl⟩ := Prod.mk.inj h
        right
        simp [capG]
      · exact .inl h
    · right
      unfold capG
      split
      · rw [List.lookup_cons]
        split
        · rfl
        · exact h
      · exact h
theorem lookup_relabel_free {env : Env} : ∀ {names : List (Str × NameKind)} {x : Str}, names.lookup x = some .free →
    (names.map fun (n, k) => if (k == NameKind.free && env.scope.kind == .function && env.kindOf n == some .cell) then (n, NameKind.cell) else (n, k)).lookup x = some .cell ∨
    (names.map fun (n, k) => if (k == NameKind.free && env.scope.kind == .function && env.kindOf n == some .cell) then (n, NameKind.cell) else (n, k)).lookup x = some .free
  | [], _, h => by simp at h
  | (n, k) :: r, x, h => by
    have ih := @lookup_relabel_free env r x
    rw [List.lookup_cons] at h
    rw [List.map_cons]
    cases hx : x == n with
    | true =>
      rw [hx] at h
      have hk : k = .free := by simpa using h
      subst hk
      dsimp only
      split
      · left; rw [List.lookup_cons, hx]
      · right; rw [List.lookup_cons, hx]
    | false =>
      rw [hx] at h
      dsimp only
      split
      · rw [List.lookup_cons, hx]; exact ih h
      · rw [List.lookup_cons, hx]; exact ih h
theorem passX0 {X : Cx} : Passes (CXr X.prog X.w) X E0 := fun _ _ _ _ _ _ _ h => by
  obtain ⟨_, _, _, _, _, _, _, _, _, _, _, _, _, _, z⟩ := h
  exact z.elim
/-! ### str(x) of a text or an int; try .. except C: -/
theorem call_strG {X : Cx} : CallR X (.type "str") (fun xs H Q => (∃ i, xs = [.int i] ∧ i.natAbs.log2 < 1920 ∧ Q (.str (toString i)) H) ∨ ∃ x, xs = [.str x] ∧ Q (.str x) H) := by
  intro pins s σ H xs us Q I r h
  rcases h with ⟨i, rfl, hz, q⟩ | ⟨x, rfl, q⟩
  · obtain ⟨u, rfl, t, rfl⟩ := vals1 r
    exact PySem.P.str_of_int hz ⟨.str _, H, I.tok _, ⟨_, rfl⟩, q⟩
  · obtain ⟨u, rfl, t, rfl⟩ := vals1 r
    exact PySem.P.str_of_str ⟨.str x, H, I, ⟨_, rfl⟩, q⟩
def tTry0 (K : PySem.W.Frag) (B : Addr) (t : TX) (th : TS) : TS := fun D σ H => t σ H (fun _ H1 => D.nx σ H1) fun cls _ H1 => ∃ C, cls = .ref C ∧ PySem.W.exmOne K (.ref C) (.ref B) = some true ∧ th D σ H1
section
variable {X : Cx} {B : Addr} {cx : Str} {e : Expr} {b0 : Stmt} {suite : List Stmt} {ep np hpos pos : Pos} {t : TX} {th : TS}
end
/-! ### a loop, its iterable read first -/
def ForJ (J : It) (g : TG) (tb : TS) (D : Ends) (σ : St) (H1 : Hp) : Prop := ∃ W : Nat → Nat → St → Hp → Prop, (∃ m, W 0 m σ H1) ∧ ∀ i m σ H, W i m σ H →
  (J.stop i H ∧ D.nx σ H) ∨ (J.go i H ∧ ∃ N : St → Hp → Prop, (∀ σ' H', N σ' H' → ∃ m', m' < m ∧ W (i + 1) m' σ' H') ∧ ∀ x H', J.yld i H x H' → g x σ H' fun σ2 H2 => tb { D with nx := N, ct := N, bk := D.nx } σ2 H2)
theorem tfor_in {wi : TI} {g : TG} {tb : TS} {D : Ends} {σ : St} {H : Hp} (h : wi σ H fun J H1 => ForJ J g tb D σ H1) : tFor wi g tb D σ H := h
end L2

set_option Elab.async false
set_option linter.all false
set_option maxRecDepth 100000
set_option maxHeartbeats 4000000
/-! our own rules: for k in d (d a tracked dict), list.pop, list * int, over the abstract heap -/
namespace L2
open PySem PySem.Spec PyProof.Rows
section
variable {X : Cx} {pins : List (Addr × Obj)} {σ : St} {H : Hp} {s : Shared}
end
/-! ### for k in d -/
def tDGetR (td ty : TE) : TE := fun σ H Q => td σ H fun x H1 => ty σ H1 fun y H2 => ∃ a kvs k v, x = .ref a ∧ Rd H2 a (.dK kvs) ∧ keyOf y = some k ∧ valV kvs k = some v ∧ Q v H2
/-! ### pop, and a list taken n times -/
section
variable {X : Cx}
def rPopG : V → List V → Hp → VK → Prop := fun x vs H Q => ∃ l xs y, x = .ref l ∧ vs = [] ∧ H l = some (.lst (xs ++ [y])) ∧ ∀ H', Mu H l (.lst xs) H' → Q y H'
def rRepG : R2 := fun x y H Q => ∃ l k xs, x = .ref l ∧ y = .int k ∧ H l = some (.lst xs) ∧ -(2 ^ 63) ≤ k ∧ k < 2 ^ 63 ∧ xs.length * k.toNat ≤ sizeLine ∧ ∀ p H', H p = none → Same H H' → H' p = some (.lst (List.replicate k.toNat xs).flatten) → Q (.ref p) H'
end
/-! ### a list unpacked -/
section
variable {prog : Program} {w : World} {A : Around} {E : Value → Shared → Prop} {s : Shared}
end
def gLstG (n : Nat) (t : TGs) : TG := fun v σ H Q => ∃ a xs, v = .ref a ∧ H a = some (.lst xs) ∧ xs.length = n ∧ t xs σ H Q
end L2

set_option Elab.async false
set_option linter.all false
set_option maxRecDepth 100000
set_option maxHeartbeats 4000000
/-! our own rules: sum, sorted, list.insert, dict.pop, list(..), comprehensions with any target, over the abstract heap -/
namespace L2
open PySem PySem.Spec PyProof.Rows
def rSum : List V → Hp → VK → Prop := fun xs H Q => ∃ (p : Addr) (ns : List Int), xs = [.ref p] ∧ H p = some (.lst (ns.map V.int)) ∧ Q (.int ns.sum) H
def rSort : List V → Hp → VK → Prop := fun xs H Q => ∃ (p : Addr) (ns : List Int), xs = [.ref p] ∧ (H p = some (.lst (ns.map V.int)) ∨ ∃ kvs : List (Key × V), H p = some (.dK kvs) ∧ kvs.map (·.1) = ns.map Sum.inl) ∧ ns.length < 64 ∧
  ∀ D H' ms, H D = none → Same H H' → H' D = some (.lst (ms.map V.int)) → List.Perm ms ns → List.Pairwise (fun x y => x ≤ y) ms → Q (.ref D) H'
/-! ### list(..), list.insert, dict.pop -/
def rListG (K : PySem.W.Frag) : List V → Hp → VK → Prop := fun xs H Q => ∃ p ys, xs = [.ref p] ∧ (H p = some (.lst ys) ∨ H p = some (.tup ys)) ∧ ∀ l H', H l = none → Same H H' → H' l = some (.lst ys) → Q (.ref l) H'
def insL (xs : List V) (k : Nat) (y : V) : List V := xs.take k ++ y :: xs.drop k
def rInsG : V → List V → Hp → VK → Prop := fun x vs H Q => ∃ l xs k y, x = .ref l ∧ vs = [.int k, y] ∧ H l = some (.lst xs) ∧ 0 ≤ k ∧ k ≤ xs.length ∧ xs.length < 1000 ∧ ∀ H', Mu H l (.lst (insL xs k.toNat y)) H' → Q .non H'
def tDPopG (td ty : TE) : TE := fun σ H Q => td σ H fun x H1 => ∃ a, x = .ref a ∧ (∃ kvs, H1 a = some (.dK kvs)) ∧ ty σ H1 fun y H2 => ∃ kvs k v, H2 a = some (.dK kvs) ∧ keyOf y = some k ∧ valV kvs k = some v ∧ ∀ H', Mu H2 a (.dK (dropK kvs k)) H' → Q v H'
/-! ### comprehensions with any target -/
section
variable {prog : Program} {w : World} {A : Around} {s : Shared}
theorem cl_loop {elt target iter : PySem.Expr} {ifs : List PySem.Expr} {scope : Scope} {pos : Pos} {it acc : Value} {env : Env} {R : Result → Shared → Prop} (I : Nat → Shared → Prop)
    (turn : ∀ n s, I n s → wpAny (model prog w) A (pyNext it) (fun r s₁ => match r with
      | none => R (.ok .next) s₁
      | some v => wpAny (model prog w) A (letOwnedTupleGo target it v) (fun _ s₀ => wpAny (model prog w) A (assign target env v) (fun _ s₂ =>
          wpAny (model prog w) A (forIn ifs true fun c r => if r = true then do let ok ← isTrue c env (eval c env); pure (ForInStep.yield ok) else pure (ForInStep.yield r)) (fun ok s₃ => if ok = true then wpAny (model prog w) A (eval elt env) (fun x s₄ =>
            wpAny (model prog w) A (call (.builtin "list.append") [acc, x]) (fun _ s₅ => ∃ m, m < n ∧ I m s₅) (notedBy (model prog w) A env fun e s' => R (.error e) s') s₄) (notedBy (model prog w) A env fun e s' => R (.error e) s') s₃
            else ∃ m, m < n ∧ I m s₃) (notedBy (model prog w) A env fun e s' => R (.error e) s') s₂)
          (notedBy (model prog w) A env fun e s' => R (.error e) s') s₀) (notedBy (model prog w) A env fun e s' => R (.error e) s') s₁) (notedBy (model prog w) A env fun e s' => R (.error e) s') s)
    (n : Nat) (h : I n s) : codeAny (model prog w) A (.compLoop (.ListComp elt [⟨target, iter, ifs, 0⟩] scope pos) 0 it acc env) R s := by
  refine codeAny_loop rfl I (fun n s hI => ?_) n h
  refine (show wpAny _ A ((compTurn (.ListComp elt [⟨target, iter, ifs, 0⟩] scope pos) 0 it acc env).onRaise _) _ _ s from wpAny_noted ?_)
  rw [compTurn_list]
  refine wpAny_bind (wpAny_standAt (wpAny_bind (wpAny_mono (turn n s hI) (fun r s1 q1 => ?_) fun _ _ z => z)))
  cases r with
  | none => exact wpAny_pure q1
  | some v =>
    refine wpAny_bind (wpAny_mono q1 (fun _ s2 q2 => wpAny_bind (wpAny_mono q2 (fun _ s3 q3 => wpAny_bind (wpAny_mono q3 (fun b s4 q4 => ?_) fun _ _ z => z)) fun _ _ z => z)) fun _ _ z => z)
    cases b with
    | false => exact wpAny_pure ⟨rfl, q4⟩
    | true => exact wpAny_bind (wpAny_bind (wpAny_mono q4 (fun x s5 q5 => wpAny_bind (wpAny_mono q5 (fun _ s6 q6 => wpAny_pure (wpAny_pure ⟨rfl, q6⟩)) fun _ _ z => z)) fun _ _ z => z))
end
structure CompScopeN (X : Cx) (scope : Scope) (cl : List (Str × Addr)) (N : List Str) (cap : List Nat) (k : Nat) : Prop where
  kind : scope.kind = .function
  clos : X.Ok → closureFor scope X.env = pure cl
  ncell : ∀ y ∈ scope.names, y.2 ≠ .cell
  names : ∀ y ∈ scope.names, y.2 = .local → scope.names.lookup y.1 = some .local
  nd : N.Nodup
  has : ∀ y, ((relabel scope X.env).names.lookup y = some .cell ∨ (relabel scope X.env).names.lookup y = some .free) → ∃ c, cl.lookup y = some c
  sub : X.Ok → ∀ y c, cl.lookup y = some c → X.env.cells.lookup y = some c
  len : N.length = cap.length + k
  cap : ∀ (j i : Nat) (y : Str), N[j + k]? = some y → cap[j]? = some i → X.N[i]? = some y ∧ Vis X.env.scope y ∧ X.env.kindOf y ≠ some .local ∧ ((relabel scope X.env).names.lookup y = some .cell ∨ (relabel scope X.env).names.lookup y = some .free)
def frameN (k : Nat) (σ : St) (cap : List Nat) : St := List.replicate k none ++ capOf σ cap
def tCompN (k : Nat) (cap : List Nat) (wi : TI) (g : TG) (tc : TT) (te : TE) : TE := fun σ H Q => wi σ H fun J H1 => ∀ D, H1 D = none → ∃ W : Nat → Nat → St → Hp → Prop, (∃ m, W 0 m (frameN k σ cap) (upd H1 D (.lst []))) ∧ ∀ i m σ1 H, W i m σ1 H →
  (J.stop i H ∧ Q (.ref D) H) ∨ (J.go i H ∧ ∀ x H', J.yld i H x H' → g x σ1 H' fun σ2 H1 => tc σ2 H1 fun b H2 => if b = true then te σ2 H2 fun v H3 => ∃ ys, H3 D = some (.lst ys) ∧ ys.length < sizeLine ∧ ∃ m', m' < m ∧ W (i + 1) m' σ2 (upd H3 D (.lst (ys ++ [v])))
    else ∃ m', m' < m ∧ W (i + 1) m' σ2 H2)
section
variable {X : Cx} {pins : List (Addr × Obj)} {σ : St} {H : Hp} {s : Shared} {scope : Scope} {cl : List (Str × Addr)} {N : List Str} {cap : List Nat} {k : Nat}
theorem Inv.enterN {fp : List Addr} {h' : Heap} {tk : Nat} (S : CompScopeN X scope cl N cap k) (I : Inv X pins σ H s) (f : ∀ b ∈ fp, FpOk X pins H b ∧ b < s.heap.objs.size) (hn : h'.Ns s.heap.objs.size fun _ => none)
    (kp : ∀ b o, s.heap.get? b = some o → h'.get? b = some o) : Inv (X.comp scope cl N s.heap.objs.size fp s H) [] (frameN k σ cap) H { s with heap := h', toks := tk } := by
  have nC : ∀ b o, s.heap.get? b = some o → b ≠ s.heap.objs.size := fun b o e => Nat.ne_of_lt (Heap.lt_size e)
  have ok := I.ok
  have cellOut : ∀ y c, cl.lookup y = some c → ∃ v, s.heap.IsCell c v := fun y c e => I.cell y c (S.sub I.ok y c e)
  refine ⟨⟨ok.mod, ?_, ok.glob, ok.blt, Nat.le_refl _, fun x y c a b => ok.inj x y c (S.sub I.ok x c a) (S.sub I.ok y c b), S.has, fun _ _ z => absurd z Bool.false_ne_true, ok.hd, ok.frames, .inl rfl, fun b hb => ⟨Nat.ne_of_lt (f b hb).2, fun y c e => (f b hb).1.2.2.2.2.1 y c (S.sub I.ok y c e)⟩, I.bs, Nat.le_trans ok.bsz I.sz, fun b o e hb => ?_, fun b hb z => ?_, I.stack, I.stkFree⟩,
    rfl, I.bare, Un.kept kp, ⟨_, hn, fun i y v a b c => ?_⟩, fun y c e => ?_, I.hok.fresh (Nat.le_refl _), fun y c e => I.freeC y c (S.sub I.ok y c e), fun p hp => by simp at hp, I.hok.kept kp, ?_⟩
  · exact S.kind
  · have := (f b hb).1.2.2.2.1
    rcases this with z | z
    · exact ok.noex b o e z
    · have l1 := Heap.lt_size e
      exact absurd (Nat.lt_of_lt_of_le l1 (Nat.le_trans ok.bsz z)) (Nat.lt_irrefl _)
  · rcases List.mem_cons.mp (I.stkSub b z) with q | q
    · exact (f b hb).1.2.1 q
    · exact (f b hb).1.2.2.1 q
  · unfold frameN at b
    by_cases hik : i < k
    · rw [List.getElem?_append_left (by rw [List.length_replicate]; exact hik)] at b
      simp [hik] at b
    · obtain ⟨j, rfl⟩ : ∃ j, i = j + k := ⟨i - k, by omega⟩
      rw [List.getElem?_append_right (by rw [List.length_replicate]; omega), List.length_replicate, Nat.add_sub_cancel] at b
      unfold capOf at b
      rw [List.getElem?_map] at b
      cases e : cap[j]? with
      | none => rw [e] at b; cases b
      | some i =>
        rw [e] at b
        have b : (σ[i]?).join = some v := by simpa using b
        obtain ⟨p1, p2, p3, p4⟩ := S.cap j i y a e
        have b' : σ[i]? = some (some v) := by
          cases q : σ[i]? with
          | none => rw [q] at b; cases b
          | some w => rw [q] at b; exact congrArg some b
        obtain ⟨m, hm, hl⟩ := I.loc
        obtain ⟨u, ru, l⟩ := hl i y v p1 b' p2
        refine ⟨u, ru, .inr ⟨p4, ?_⟩⟩
        rcases l with l | ⟨l, c0, e0, o', q', hd'⟩
        · exact absurd l.1 p3
        · obtain ⟨c, ec⟩ := S.has y p4
          have := S.sub I.ok y c ec
          rw [e0] at this
          cases this
          exact ⟨c0, ec, o', kp _ _ q', hd'⟩
  · obtain ⟨v, o, q, hd⟩ := cellOut y c e
    exact ⟨v, o, kp _ _ q, hd⟩
  · show (frameN k σ cap).length = N.length
    unfold frameN capOf
    rw [S.len, List.length_append, List.length_replicate, List.length_map]
    omega
end

section
variable {X : Cx} {scope : Scope} {cl : List (Str × Addr)} {N : List Str} {cap : List Nat} {k : Nat} {tg : Expr} {g : TG} {pos : Pos} {iter elt : Expr} {ifs : List Expr} {wi : TI} {tc : TT} {te : TE}
theorem comp_coreN {use : Option (Value → Sem Unit)} {Qv : Value → Shared → Prop} {pins : List (Addr × Obj)} {s : Shared} {σ : St} {H : Hp} {Q : VK} {pos' : Pos} (S : CompScopeN X scope cl N cap k) (hc : X.calm = true) (hi : PI X tg iter wi) (hg : ∀ C fp s₀ H₀, PG (X.comp scope cl N C fp s₀ H₀) tg g)
    (ht : ∀ C fp s₀ H₀, PTs (X.comp scope cl N C fp s₀ H₀) ifs tc) (he : ∀ C fp s₀ H₀, PE (X.comp scope cl N C fp s₀ H₀) elt te) (hs : ∀ x, foldedSetIterable iter X.env x = pure x)
    (I : Inv X pins σ H s) (h : tCompN k cap wi g tc te σ H Q)
    (fin : ∀ (D C : Addr) (H6 : Hp) (s6 : Shared) (m : Str → Option Value), Inv X pins σ H6 s6 → FpOk X pins H6 C → s6.heap.Ns C m → Q (.ref D) H6 → compPost (model X.prog X.w) X.A X.xe use Qv (.ref D) C (.ok .next) s6) :
    wpAny (model X.prog X.w) X.A (comprehension (.ListComp elt [⟨tg, iter, ifs, 0⟩] scope pos) scope X.env pos' (newList []) false (eval iter X.env) use) Qv X.xe s := by
  refine wpAny_comprehension_free (use := use) rfl hs (S.clos I.ok) S.kind S.names (thn (hi pins s σ H _ I h) fun v s1 h1 => thn h1 fun itv s2 h2 => ?_)
  obtain ⟨it, fp, tn, J, H2, rfl, I2, T, st2, f2, q⟩ := h2
  obtain ⟨W, ⟨m0, w0⟩, turn⟩ := q s2.heap.objs.size (I2.hok.fresh (Nat.le_refl _))
  have I3 : Inv X pins σ (upd H2 s2.heap.objs.size (.lst [])) { s2 with heap := s2.heap.push { cls := .type "list", dict := none, data := .seq ([] : List Value).toArray } } :=
    I2.laid (t' := s2.toks) (fun b u e => Heap.get?_push_of_some _ e) (Nat.le_refl _) ⟨Nat.zero_le _, [], 0, .nil, Heap.get?_push_size _ rfl⟩
  refine wpAny_newObj_type (wpAny_newFunctionEnv S.ncell (by intro y hy; simp at hy) (fun h4 hns hsb => ?_) S.kind)
  generalize hs3 : ({ s2 with heap := s2.heap.push { cls := .type "list", dict := none, data := .seq ([] : List Value).toArray } } : Shared) = s3 at I3 hns hsb ⊢
  have f3 : ∀ b ∈ fp, FpOk X pins (upd H2 s2.heap.objs.size (.lst [])) b ∧ b < s3.heap.objs.size := fun b hb => by
    obtain ⟨o, ho, _⟩ := T.obj _ _ st2 b hb
    have l1 : b < s2.heap.objs.size := Heap.lt_size ho
    refine ⟨⟨?_, (f2 b hb).2⟩, ?_⟩
    · rw [upd_ne (Nat.ne_of_lt l1)]; exact (f2 b hb).1
    · rw [← hs3, Heap.size_push]; exact Nat.lt_succ_of_lt l1
  have nsN : h4.Ns s3.heap.objs.size fun _ => none := by
    have := hns
    simpa using this
  have keep4 : ∀ b o, s3.heap.get? b = some o → h4.get? b = some o := fun b o e => (hsb.2 b (Nat.ne_of_lt (Heap.lt_size e))).trans (Heap.get?_push_of_some _ e)
  have Ic := I3.enterN (tk := s3.toks + ([] : List (Str × Value)).length) S f3 nsN keep4
  have st4 : tn 0 h4 := T.keep _ _ _ st2 fun b hb o e => keep4 b o (by rw [← hs3]; exact Heap.get?_push_of_some _ e)
  have stat : ∀ {H' : Hp}, (∀ b ∈ fp, H' b = none) → ∀ b ∈ fp, FpOk (X.comp scope cl N s3.heap.objs.size fp s3 (upd H2 s2.heap.objs.size (.lst []))) [] H' b := fun hn b hb =>
    ⟨hn b hb, Nat.ne_of_lt (f3 b hb).2, fun z => (List.mem_cons.mp (I3.stkSub b z)).elim (fun q => (f3 b hb).1.2.1 q) fun q => (f3 b hb).1.2.2.1 q, .inl hb, fun y c e => (f3 b hb).1.2.2.2.2.1 y c (S.sub I.ok y c e), fun p hp => by simp at hp⟩
  have out : ∀ {σx : St} {H6 : Hp} {s6 : Shared}, Inv (X.comp scope cl N s3.heap.objs.size fp s3 (upd H2 s2.heap.objs.size (.lst []))) [] σx H6 s6 → Q (.ref s2.heap.objs.size) H6 →
      compPost (model X.prog X.w) X.A X.xe use Qv (Value.ref s2.heap.objs.size) s3.heap.objs.size (.ok .next) s6 := fun {σx H6 s6} I6 q6 => by
    obtain ⟨m, hm, _⟩ := I6.loc
    have Io : Inv X pins σ H6 s6 := I3.call' I6.os I6.base I6.hok I6.bare fun b hb => ⟨(f3 b hb).1.2.2.2.1, (f3 b hb).1.2.1, (f3 b hb).1.2.2.2.2.1, (f3 b hb).1.2.2.2.2.2⟩
    exact fin _ _ _ _ m Io (I3.fpOk (b := s3.heap.objs.size) (H' := H6) (Nat.le_refl _) I6.free) hm q6
  have loop : codeAny (model X.prog X.w) X.A (.compLoop (.ListComp elt [⟨tg, iter, ifs, 0⟩] scope pos) 0 (.ref it) (.ref s2.heap.objs.size) (compEnvC scope cl s3.heap.objs.size X.env))
      (compPost (model X.prog X.w) X.A X.xe use Qv (Value.ref s2.heap.objs.size) s3.heap.objs.size) { s3 with heap := h4, toks := s3.toks + ([] : List (Str × Value)).length } := by
    refine cl_loop (fun n s' => ∃ i σx H', Inv (X.comp scope cl N s3.heap.objs.size fp s3 (upd H2 s2.heap.objs.size (.lst []))) [] σx H' s' ∧ tn i s'.heap ∧ (∀ b ∈ fp, H' b = none) ∧ W i n σx H') ?_ m0 ⟨0, _, _, Ic, st4, fun b hb => (f3 b hb).1.1, w0⟩
    rintro n s5 ⟨i, σx, H5, I5, st5, fr5, w5⟩
    rcases turn i n σx H5 w5 with ⟨stop, qd⟩ | ⟨go, step⟩
    · refine wpAny_mono (T.done (X.comp scope cl N s3.heap.objs.size fp s3 (upd H2 s2.heap.objs.size (.lst []))) rfl rfl rfl hc i [] s5 _ H5 (fun _ _ => False) I5 (stat fr5) st5 stop) (fun r s6 ⟨hr, I6⟩ => ?_) fun _ _ z => z.elim
      subst hr
      exact out I6 qd
    · refine wpAny_mono (T.item (X.comp scope cl N s3.heap.objs.size fp s3 (upd H2 s2.heap.objs.size (.lst []))) rfl rfl rfl hc i [] s5 _ H5 (fun _ _ => False) I5 (stat fr5) st5 go) (fun r s6 ⟨u, hr, h6⟩ => ?_) fun _ _ z => z.elim
      subst hr
      refine wpAny_mono h6 (fun _ s7 ⟨v, H7, I7, r7, y7, st7, fr7⟩ => ?_) fun _ _ z => z.elim
      have I7' := I7.pinned (stat fr7) (T.obj _ _ st7)
      have again : ∀ {σ9 : St} {H9 : Hp} {s9 : Shared}, Inv (X.comp scope cl N s3.heap.objs.size fp s3 (upd H2 s2.heap.objs.size (.lst []))) ([] ++ pinsAt fp s7.heap) σ9 H9 s9 → (∃ m', m' < n ∧ W (i + 1) m' σ9 H9) →
          ∃ m', m' < n ∧ ∃ i σx H', Inv (X.comp scope cl N s3.heap.objs.size fp s3 (upd H2 s2.heap.objs.size (.lst []))) [] σx H' s9 ∧ tn i s9.heap ∧ (∀ b ∈ fp, H' b = none) ∧ W i m' σx H' := fun {σ9 H9 s9} I9 ⟨m', lt, w'⟩ => by
        refine ⟨m', lt, i + 1, σ9, H9, I9.unpinned, T.keep _ _ _ st7 fun b hb o e => (I9.pin (b, o) (List.mem_append_right _ (List.mem_append_right _ (mem_pinsAt hb e)))).1, fun b hb => ?_, w'⟩
        obtain ⟨o, e, d⟩ := T.obj _ _ st7 b hb
        exact (I9.pin (b, o) (List.mem_append_right _ (List.mem_append_right _ (mem_pinsAt hb e)))).2.1
      refine wpAny_mono (hg _ _ _ _ _ s7 σx H7 v u _ I7' r7 (step v H7 y7)) (fun _ s8 ⟨σ8, H8, I8, q8⟩ => ?_) fun _ _ z => z.elim
      refine wpAny_mono (ht _ _ _ _ _ s8 _ H8 _ I8 q8) (fun b s9 ⟨H9, I9, q9⟩ => ?_) fun _ _ z => z.elim
      cases b with
      | false => exact again I9 q9
      | true =>
        refine wpAny_mono (he _ _ _ _ _ s9 _ H9 _ I9 q9) (fun u' s10 ⟨v', H10, I10, r10, ys, hD, hz, q10⟩ => ?_) fun _ _ z => z.elim
        refine wpAny_mono (mt_append (X := X.comp scope cl N s3.heap.objs.size fp s3 (upd H2 s2.heap.objs.size (.lst []))) _ s10 _ H10 (.ref s2.heap.objs.size) [v'] (.ref s2.heap.objs.size) [u'] (fun _ H' => ∃ m', m' < n ∧ W (i + 1) m' σ8 H') I10 rfl (.cons r10 .nil) ⟨_, ys, v', rfl, rfl, hD, hz, q10⟩) (fun _ s11 ⟨_, H11, I11, _, q11⟩ => again I11 q11) fun _ _ z => z.elim
  exact codeAny_compStart_list loop (T.self _ 0 _ _ _ st4 loop)
theorem pe_compN (S : CompScopeN X scope cl N cap k) (hc : X.calm = true) (hi : PI X tg iter wi) (hg : ∀ C fp s₀ H₀, PG (X.comp scope cl N C fp s₀ H₀) tg g)
    (ht : ∀ C fp s₀ H₀, PTs (X.comp scope cl N C fp s₀ H₀) ifs tc) (he : ∀ C fp s₀ H₀, PE (X.comp scope cl N C fp s₀ H₀) elt te) (hs : ∀ x, foldedSetIterable iter X.env x = pure x := by intro _; rfl) :
    PE X (.ListComp elt [⟨tg, iter, ifs, 0⟩] scope pos) (tCompN k cap wi g tc te) := by
  intro pins s σ H Q I h
  rw [eval_ListComp]
  refine comp_coreN S hc hi hg ht he hs I h fun D C H6 s6 m Io Cf hm q6 => ?_
  exact ⟨m, hm, fun h' sb => ⟨.ref D, H6, Io.turned (it := C) (t' := s6.toks) (fun b o n e => (sb.2 b n).trans e) Cf.1 Cf.2.1 Cf.2.2.2.1 Cf.2.2.2.2.1 Cf.2.2.2.2.2, rfl, q6⟩⟩
end
theorem comp_scopeN (k : Nat) {X : Cx} {scope : Scope} {N : List Str} {cap : List Nat} (hk : scope.kind = .function) (h1 : scope.names.all (fun y => y.2 != .cell) = true) (h2 : scope.names.all (fun y => y.2 != .local || scope.names.lookup y.1 == some .local) = true)
    (h3 : scope.names.all (fun y => y.2 != .free || X.env.scope.names.lookup y.1 == some .cell || X.env.scope.names.lookup y.1 == some .free) = true)
    (nd : N.Nodup) (hl : N.length = cap.length + k) (hc : (N.drop k).map some = cap.map (fun i => X.N[i]?)) (hf : (N.drop k).all (fun y => scope.names.lookup y == some .free) = true) : CompScopeN X scope (clOf X.env scope) N cap k := by
  have fr : ∀ y : Str, (y, NameKind.free) ∈ scope.names → X.env.scope.names.lookup y = some .cell ∨ X.env.scope.names.lookup y = some .free := fun y hy => by
    have := List.all_eq_true.mp h3 _ hy
    simpa using this
  have nc : ∀ y ∈ scope.names, y.2 ≠ .cell := fun y hy => by
    have := List.all_eq_true.mp h1 y hy
    simpa using this
  have fr2 : X.Ok → ∀ y ∈ scope.names, y.2 = .free → ∃ c, X.env.cells.lookup y.1 = some c := fun ok y hy e => by
    obtain ⟨n, k⟩ := y
    have e : k = .free := e
    subst e
    exact ok.has n (fr n hy)
  refine ⟨hk, fun ok => closure_of (fr2 ok), nc, fun y hy e => ?_, nd, fun y hy => ?_, fun ok y c e => cl_sub scope.names [] (fr2 ok) (fun _ _ z => by simp at z) y c e, hl, fun j i y a b => ?_⟩
  · have := List.all_eq_true.mp h2 y hy
    simpa [e] using this
  · have hm : (y, NameKind.free) ∈ scope.names := by
      have : ∃ k', (k' = NameKind.cell ∨ k' = NameKind.free) ∧ (y, k') ∈ (relabel scope X.env).names := by
        rcases hy with hy | hy
        · exact ⟨_, .inl rfl, lookup_mem hy⟩
        · exact ⟨_, .inr rfl, lookup_mem hy⟩
      obtain ⟨k', hk', hm⟩ := this
      obtain ⟨⟨n, k⟩, hz, e⟩ := List.mem_map.mp hm
      dsimp only at e
      split at e
      · rename_i hcond
        obtain ⟨rfl, rfl⟩ := Prod.mk.inj e
        simp only [Bool.and_eq_true] at hcond
        have : k = .free := by simpa using hcond.1.1
        subst this
        exact hz
      · obtain ⟨rfl, rfl⟩ := Prod.mk.inj e
        rcases hk' with rfl | rfl
        · exact absurd rfl (nc _ hz)
        · exact hz
    have := cl_has (env := X.env) scope.names [] y (.inl hm)
    exact Option.isSome_iff_exists.mp this
  · have hy : y ∈ N.drop k := by
      refine List.mem_of_getElem? (i := j) ?_
      rw [List.getElem?_drop, Nat.add_comm]
      exact a
    have e1 : X.N[i]? = some y := by
      have := congrArg (fun l => l[j]?) hc
      simp only [List.getElem?_map, List.getElem?_drop, Nat.add_comm k j, a, b, Option.map_some] at this
      exact (Option.some.inj this).symm
    have e2 : scope.names.lookup y = some .free := by
      have := List.all_eq_true.mp hf y hy
      simpa using this
    have e3 := fr y (lookup_mem e2)
    refine ⟨e1, e3.elim (fun z => .inr (.inl z)) fun z => .inr (.inr z), ?_, lookup_relabel_free e2⟩
    intro z
    have z : X.env.scope.names.lookup y = some .local := z
    rcases e3 with e3 | e3 <;> rw [e3] at z <;> cases z
def CompJ (J : It) (g : TG) (tc : TT) (te : TE) (cs : St) (H1 : Hp) (Q : VK) : Prop := ∀ D, H1 D = none → ∃ W : Nat → Nat → St → Hp → Prop, (∃ m, W 0 m cs (upd H1 D (.lst []))) ∧ ∀ i m σ1 H, W i m σ1 H →
  (J.stop i H ∧ Q (.ref D) H) ∨ (J.go i H ∧ ∀ x H', J.yld i H x H' → g x σ1 H' fun σ2 H1 => tc σ2 H1 fun b H2 => if b = true then te σ2 H2 fun v H3 => ∃ ys, H3 D = some (.lst ys) ∧ ys.length < sizeLine ∧ ∃ m', m' < m ∧ W (i + 1) m' σ2 (upd H3 D (.lst (ys ++ [v])))
    else ∃ m', m' < m ∧ W (i + 1) m' σ2 H2)
theorem tcomp_in {k : Nat} {cap : List Nat} {wi : TI} {g : TG} {tc : TT} {te : TE} {σ : St} {H : Hp} {Q : VK} (h : wi σ H fun J H1 => CompJ J g tc te (frameN k σ cap) H1 Q) : tCompN k cap wi g tc te σ H Q := h
def CW (xs : List V) (H1 : Hp) (D : Addr) (Pv : Nat → List V → St → Hp → Prop) (i m : Nat) (σ1 : St) (H : Hp) : Prop := m = xs.length - i ∧ i ≤ xs.length ∧ Same H1 H ∧ ∃ ys, H D = some (.lst ys) ∧ ys.length ≤ i ∧ Pv i ys σ1 H
def Put (xs : List V) (H1 : Hp) (D : Addr) (Pv : Nat → List V → St → Hp → Prop) (i : Nat) (σ2 : St) (v : V) (H3 : Hp) : Prop := ∃ ys, H3 D = some (.lst ys) ∧ ys.length < sizeLine ∧ ∃ m', m' < xs.length - i ∧ CW xs H1 D Pv (i + 1) m' σ2 (upd H3 D (.lst (ys ++ [v])))
def Skip (xs : List V) (H1 : Hp) (D : Addr) (Pv : Nat → List V → St → Hp → Prop) (i : Nat) (σ2 : St) (H2 : Hp) : Prop := ∃ m', m' < xs.length - i ∧ CW xs H1 D Pv (i + 1) m' σ2 H2
structure At (xs : List V) (H1 : Hp) (D : Addr) (i : Nat) (ys : List V) (H : Hp) : Prop where
  new : H1 D = none
  lt : i < xs.length
  sz : xs.length < sizeLine
  same : Same H1 H
  lst : H D = some (.lst ys)
  le : ys.length ≤ i
theorem At.put {xs : List V} {H1 : Hp} {D : Addr} {i : Nat} {ys : List V} {H H4 : Hp} {Pv : Nat → List V → St → Hp → Prop} {σ2 : St} {v : V} (a : At xs H1 D i ys H) (g : Same H H4) (p : ∀ H5, Mu H4 D (.lst (ys ++ [v])) H5 → Pv (i + 1) (ys ++ [v]) σ2 H5) : Put xs H1 D Pv i σ2 v H4 :=
  ⟨ys, g _ _ a.lst, by have := a.le; have := a.lt; have := a.sz; omega, xs.length - (i + 1), by have := a.lt; omega, rfl, a.lt, Mu.mk'.same (a.same.trans g) a.new, _, upd_same, by have := a.le; rw [List.length_append, List.length_singleton]; omega, p _ Mu.mk'⟩
theorem At.skip {xs : List V} {H1 : Hp} {D : Addr} {i : Nat} {ys : List V} {H H4 : Hp} {Pv : Nat → List V → St → Hp → Prop} {σ2 : St} (a : At xs H1 D i ys H) (g : Same H H4) (p : Pv (i + 1) ys σ2 H4) : Skip xs H1 D Pv i σ2 H4 :=
  ⟨xs.length - (i + 1), by have := a.lt; omega, rfl, a.lt, a.same.trans g, ys, g _ _ a.lst, Nat.le_succ_of_le a.le, p⟩
theorem compJ {J : It} {xs : List V} {ok : Hp → Prop} (O : Over J xs ok) {g : TG} {tc : TT} {te : TE} {cs : St} {H1 : Hp} {Q : VK} (hok : ∀ H, Same H1 H → ok H) (sz : xs.length < sizeLine) (Pv : Nat → List V → St → Hp → Prop)
    (h0 : ∀ H', Same H1 H' → Pv 0 [] cs H')
    (hs : ∀ D i x ys σ1 H', xs[i]? = some x → At xs H1 D i ys H' → Pv i ys σ1 H' → g x σ1 H' fun σ2 H2 => tc σ2 H2 fun b H3 => if b = true then te σ2 H3 fun v H4 => Put xs H1 D Pv i σ2 v H4 else Skip xs H1 D Pv i σ2 H3)
    (hd : ∀ D ys σ1 H', H1 D = none → Same H1 H' → H' D = some (.lst ys) → ys.length ≤ xs.length → Pv xs.length ys σ1 H' → Q (.ref D) H') : CompJ J g tc te cs H1 Q := by
  intro D hD
  refine ⟨CW xs H1 D Pv, ⟨_, rfl, Nat.zero_le _, same_new hD _, [], upd_same, Nat.le_refl _, h0 _ (same_new hD _)⟩, ?_⟩
  rintro i m σ1 H ⟨rfl, hi, sm, ys, hy, ly, p⟩
  by_cases hlt : i < xs.length
  · refine .inr ⟨O.go i _ (hok _ sm) hlt, fun x H' y => ?_⟩
    obtain ⟨rfl, hx⟩ := O.yld i _ x H' (hok _ sm) hlt y
    exact hs D i x ys σ1 H' hx ⟨hD, hlt, sz, sm, hy, ly⟩ p
  · have e : i = xs.length := by omega
    subst e
    exact .inl ⟨O.stop _ _ (hok _ sm) (Nat.le_refl _), hd D ys σ1 _ hD sm hy ly p⟩
theorem compJ_list {K : PySem.W.Frag} {a : Addr} {xs : List V} {g : TG} {tc : TT} {te : TE} {cs : St} {H1 : Hp} {Q : VK} (ha : H1 a = some (.lst xs)) (sz : xs.length < sizeLine) (Pv : Nat → List V → St → Hp → Prop)
    (h0 : ∀ H', Same H1 H' → Pv 0 [] cs H')
    (hs : ∀ D i x ys σ1 H', xs[i]? = some x → At xs H1 D i ys H' → Pv i ys σ1 H' → g x σ1 H' fun σ2 H2 => tc σ2 H2 fun b H3 => if b = true then te σ2 H3 fun v H4 => Put xs H1 D Pv i σ2 v H4 else Skip xs H1 D Pv i σ2 H3)
    (hd : ∀ D ys σ1 H', H1 D = none → Same H1 H' → H' D = some (.lst ys) → ys.length ≤ xs.length → Pv xs.length ys σ1 H' → Q (.ref D) H') : CompJ (Itl K a) g tc te cs H1 Q :=
  compJ over_list (fun H g => g _ _ ha) sz Pv h0 hs hd
theorem compJ_range {n : Nat} {g : TG} {tc : TT} {te : TE} {cs : St} {H1 : Hp} {Q : VK} (sz : n < 100000) (Pv : Nat → List V → St → Hp → Prop)
    (h0 : ∀ H', Same H1 H' → Pv 0 [] cs H')
    (hs : ∀ D i ys σ1 H', i < n → At ((List.range n).map fun (k : Nat) => V.int (0 + k)) H1 D i ys H' → Pv i ys σ1 H' → g (.int (i : Nat)) σ1 H' fun σ2 H2 => tc σ2 H2 fun b H3 => if b = true then te σ2 H3 fun v H4 => Put ((List.range n).map fun (k : Nat) => V.int (0 + k)) H1 D Pv i σ2 v H4 else Skip ((List.range n).map fun (k : Nat) => V.int (0 + k)) H1 D Pv i σ2 H3)
    (hd : ∀ D ys σ1 H', H1 D = none → Same H1 H' → H' D = some (.lst ys) → ys.length ≤ n → Pv n ys σ1 H' → Q (.ref D) H') : CompJ (Itr 0 n) g tc te cs H1 Q := by
  have el : ((List.range n).map fun (k : Nat) => V.int (0 + k)).length = n := by rw [List.length_map, List.length_range]
  refine compJ (over_range 0 n) (fun _ _ => trivial) (by rw [el]; unfold sizeLine; omega) Pv h0 (fun D i x ys σ1 H' hx a p => ?_) (fun D ys σ1 H' h1 h2 h3 h4 h5 => hd D ys σ1 H' h1 h2 h3 (by rw [el] at h4; exact h4) (by rw [el] at h5; exact h5))
  have hi : i < n := by have := a.lt; rw [el] at this; exact this
  have ex : x = .int (i : Nat) := by
    rw [List.getElem?_map, List.getElem?_range hi] at hx
    simp at hx
    exact hx.symm
  rw [ex]
  exact hs D i ys σ1 H' hi a p
/-! ### what is new in a heap -/
end L2

set_option Elab.async false
set_option linter.all false
set_option maxRecDepth 100000
set_option maxHeartbeats 4000000
/-! our own rules: comprehensions whose invariant knows the list that grows -/
namespace L2
open PySem PySem.Spec PyProof.Rows
end L2

set_option Elab.async false
set_option linter.all false
set_option maxRecDepth 100000
set_option maxHeartbeats 4000000
/-! our own rules: list.pop(i), range(n) as a value, list(range(n)), xs[::-1], over the abstract heap -/
namespace L2
open PySem PySem.Spec PyProof.Rows
section
variable {X : Cx}
def rPopAtG : V → List V → Hp → VK → Prop := fun x vs H Q => ∃ l xs i y, x = .ref l ∧ vs = [.int i] ∧ H l = some (.lst xs) ∧ 0 ≤ i ∧ i < xs.length ∧ xs.length < 100000 ∧ xs[i.toNat]? = some y ∧ ∀ H', Mu H l (.lst (xs.eraseIdx i.toNat)) H' → Q y H'
def tRng1 (ta : TA) : TE := fun σ H Q => ta σ H fun vs H1 => ∃ j : Int, vs = [.int j] ∧ ∀ p H', H1 p = none → Same H1 H' → H' p = some (.rng 0 j) → Q (.ref p) H'
def rListRng : List V → Hp → VK → Prop := fun xs H Q => ∃ p, ∃ n : Nat, xs = [.ref p] ∧ H p = some (.rng 0 n) ∧ n < 100000 ∧ ∀ l H', H l = none → Same H H' → H' l = some (.lst (((List.range n).map fun k => ((k : Nat) : Int)).map V.int)) → Q (.ref l) H'
def tRev (te : TE) (ts : TO) : TE := fun σ H Q => te σ H fun x H1 => ts σ H1 fun o H2 => o = some (-1) ∧ ∃ a xs, x = .ref a ∧ H2 a = some (.lst xs) ∧ ∀ p H', H2 p = none → Same H2 H' → H' p = some (.lst xs.reverse) → Q (.ref p) H'
end
end L2

set_option Elab.async false
set_option linter.all false
set_option maxRecDepth 100000
set_option maxHeartbeats 4000000
/-! our own rules: min of a list, list.index, over the abstract heap -/
namespace L2
open PySem PySem.Spec PyProof.Rows
section
variable {X : Cx}
def rMinL : List V → Hp → VK → Prop := fun xs H Q => ∃ (p : Addr) (ns : List Int), xs = [.ref p] ∧ H p = some (.lst (ns.map V.int)) ∧ 0 < ns.length ∧ ∀ M : Int, M ∈ ns → (∀ a ∈ ns, M ≤ a) → Q (.int M) H
def rIdxG : V → List V → Hp → VK → Prop := fun x vs H Q => ∃ (l : Addr) (ns : List Int) (k : Int), x = .ref l ∧ vs = [.int k] ∧ H l = some (.lst (ns.map V.int)) ∧ k ∈ ns ∧ ns.length < 100000 ∧ Q (.int (ns.idxOf k : Nat)) H
end
end L2

set_option Elab.async false
set_option linter.all false
set_option maxRecDepth 100000
set_option maxHeartbeats 4000000
/-! our own rules: instances of own classes over the abstract heap: attributes, methods, making -/
namespace L2
open PySem PySem.Spec PyProof.Rows
theorem lookup_n {f : Str} : List.lookup f ([] : List (Str × V)) = none := rfl
theorem lookup_c {f g : Str} {v : V} {r : List (Str × V)} : List.lookup f ((g, v) :: r) = if f = g then some v else List.lookup f r := by
  by_cases h : f = g
  · have hb : (f == g) = true := beq_iff_eq.mpr h
    simp only [List.lookup, hb, if_pos h]
  · have hb : (f == g) = false := beq_eq_false_iff_ne.mpr h
    simp only [List.lookup, hb, if_neg h]
theorem putF_n {f : Str} {v : V} : putF f v [] = [(f, v)] := rfl
theorem putF_c {f g : Str} {v x : V} {r : List (Str × V)} : putF f v ((g, x) :: r) = if g = f then (g, v) :: r else (g, x) :: putF f v r := rfl
structure MethAt (K : PySem.W.Frag) (C : Addr) (m q : Str) (st : Stmt) (ps : List Str) : Prop where
  ex : ∃ f fd, Meth K C m f ∧ Fun K m q st f fd ∧ Binds K fd ps []
structure OkM (P : Program) (w : World) (K : PySem.W.Frag) (mg : Str → Option Value) (base : Heap) (n : Nat) (C : Addr) (m : Str) (ps : List Str) (sp : Sp) : Prop where
  ex : ∃ f fd, Meth K C m f ∧ Binds K fd ps [] ∧ FnOk P w K mg base CX0 n f fd ps sp
  cl : Cls K C
structure MakeAt (K : PySem.W.Frag) (mg : Str → Option Value) (x : Str) (C : Addr) (q : Str) (st : Stmt) (ps : List Str) : Prop where
  ex : ∃ f fd, mg x = some (.ref C) ∧ Mk K C f ∧ Fun K "__init__" q st f fd ∧ Binds K fd ps []
structure OkC (P : Program) (w : World) (K : PySem.W.Frag) (mg : Str → Option Value) (base : Heap) (n : Nat) (x : Str) (C : Addr) (ps : List Str) (sp : Sp) : Prop where
  ex : ∃ f fd, mg x = some (.ref C) ∧ Mk K C f ∧ Binds K fd ps [] ∧ FnOk P w K mg base CX0 n f fd ps sp
section
variable {P : Program} {w : World} {K : PySem.W.Frag} {mg : Str → Option Value} {base : Heap} {x m q : Str} {st : Stmt} {N ps : List Str} {k : Nat} {sp : Sp} {C : Addr}
theorem MethAt.ok (D : MethAt K C m q st ps) (cl : Cls K C) (S : FnScope N ps (defScope st)) (len : ∀ vs H Q E, sp vs H Q E → vs.length = ps.length)
    (hbody : ∀ (f : Addr) (cdv : Value) (A : Around) (outer : List Env) (s : Shared) (H : Hp) (vs : List V) (Q : VK) (E : XK), Room k (A.deeper (envOfC q (defScope st) s.heap.objs.size f cdv)) → sp vs H Q E →
      ∃ t, PSs (cxOf CX0 P w K mg base N q (defScope st) f cdv A outer s H E).nox (defBody st) t ∧ t { nx := fun _ H' => Q .non H', rt := Q } (start N vs) H) : OkM P w K mg base (k + 1) C m ps sp := by
  obtain ⟨f, fd, hm, F, hb⟩ := D.ex
  exact ⟨⟨f, fd, hm, hb, F.ok S len (hbody f)⟩, cl⟩
theorem MakeAt.ok (D : MakeAt K mg x C q st ps) (S : FnScope N ps (defScope st)) (len : ∀ vs H Q E, sp vs H Q E → vs.length = ps.length)
    (hbody : ∀ (f : Addr) (cdv : Value) (A : Around) (outer : List Env) (s : Shared) (H : Hp) (vs : List V) (Q : VK) (E : XK), Room k (A.deeper (envOfC q (defScope st) s.heap.objs.size f cdv)) → sp vs H Q E →
      ∃ t, PSs (cxOf CX0 P w K mg base N q (defScope st) f cdv A outer s H E).nox (defBody st) t ∧ t { nx := fun _ H' => Q .non H', rt := Q } (start N vs) H) : OkC P w K mg base (k + 1) x C ps sp := by
  obtain ⟨f, fd, hg, hm, F, hb⟩ := D.ex
  exact ⟨f, fd, hg, hm, hb, F.ok S len (hbody f)⟩
theorem MethAt.mk' {f : Addr} {oc : Value} {od an : Option Addr} {osl : Array (Option Value)} {kV doc pm cdv ct : Value} (a : PySem.W.findIn K (.ref C) m = some (some (.ref f))) (i : PySem.W.isFn K (.ref f) = true)
    (l : K.lookup f = some ⟨oc, od, .func (PySem.W.fnOf m q (defArgs st) (defBody st) (defScope st) .none kV doc pm an cdv ct), osl⟩) (c : PySem.W.codeIn K cdv q = true) (k : PySem.W.keepIn K (.ref f) = true)
    (b : ∀ (kV doc pm : Value) (an : Option Addr) (cdv ct : Value) (us : List Value), us.length = ps.length → bindArgs (PySem.W.fnOf m q (defArgs st) (defBody st) (defScope st) .none kV doc pm an cdv ct) ⟨us, []⟩ = pure (ps.zip us)) : MethAt K C m q st ps :=
  have F := fun_mk (st := st) l c k
  ⟨f, _, ⟨a, i, k⟩, F, F.binds b⟩
theorem MakeAt.mk' {h : Heap} {f : Addr} {oc : Value} {od an : Option Addr} {osl : Array (Option Value)} {kV doc pm cdv ct : Value} (X : K.In h) (G : h.Ns mainGlobals mg) (g : PySem.W.nsIn K mainGlobals x = some (some (.ref C)))
    (mk : PySem.W.makesIn K C = true) (kc : PySem.W.keepIn K (.ref C) = true) (a : PySem.W.findIn K (.ref C) "__init__" = some (some (.ref f))) (i : PySem.W.isFn K (.ref f) = true)
    (l : K.lookup f = some ⟨oc, od, .func (PySem.W.fnOf "__init__" q (defArgs st) (defBody st) (defScope st) .none kV doc pm an cdv ct), osl⟩) (c : PySem.W.codeIn K cdv q = true) (k : PySem.W.keepIn K (.ref f) = true)
    (b : ∀ (kV doc pm : Value) (an : Option Addr) (cdv ct : Value) (us : List Value), us.length = ps.length → bindArgs (PySem.W.fnOf "__init__" q (defArgs st) (defBody st) (defScope st) .none kV doc pm an cdv ct) ⟨us, []⟩ = pure (ps.zip us)) : MakeAt K mg x C q st ps :=
  have F := fun_mk (st := st) l c k
  ⟨f, _, PySem.W.mg_of X G g, ⟨mk, a, i, kc⟩, F, F.binds b⟩
end
def tFldG (C : Addr) (f : Str) (ta : TE) : TE := fun σ H Q => ta σ H fun x H1 => ∃ a dx fs v, x = .ref a ∧ H1 a = some (.ins C dx fs) ∧ fs.lookup f = some v ∧ Q v H1
def sFldG (C : Addr) (f : Str) (ta tv : TE) : TS := fun D σ H => tv σ H fun y H1 => ta σ H1 fun x H2 => ∃ a dx fs, x = .ref a ∧ H2 a = some (.ins C dx fs) ∧ fs.length < 1000 ∧ ∀ H', Mu H2 a (.ins C dx (putF f y fs)) H' → D.nx σ H'
def tMethG (C : Addr) (m : Str) (sp : Sp) (ta : TE) (t : TA) : TE := fun σ H Q => ta σ H fun x H1 => ∃ a dx fs, x = .ref a ∧ H1 a = some (.ins C dx fs) ∧ fs.lookup m = none ∧ t σ H1 fun vs H2 => sp (x :: vs) H2 Q E0
def tMakeG (C : Addr) (sp : Sp) (t : TA) : TE := fun σ H Q => t σ H fun vs H1 => ∀ x dx H', H1 x = none → H1 dx = none → Same H1 H' → H' x = some (.ins C dx []) → H' dx = some (.own x) → sp (.ref x :: vs) H' (fun v H2 => v = .non ∧ Q (.ref x) H2) E0
section
variable {X : Cx} {k n : Nat} {ps : List Str} {sp : Sp} {x m f : Str} {p pos pos' apos : Pos} {o e value : Expr} {es : List Expr} {t : TA} {ta tv : TE} {C : Addr}
end
end L2

set_option Elab.async false
set_option linter.all false
set_option maxRecDepth 100000
set_option maxHeartbeats 4000000
/-! our own rules: d.values(), d.items() walked, d.get(k, x), over the abstract heap -/
namespace L2
open PySem PySem.Spec PyProof.Rows
def tUnf (nf : Addr → Prop) (t : TE) : TE := fun σ H Q => t σ H fun v H' => ∃ d o kvs, nf d ∧ H' d = some (.frz o (.dK kvs)) ∧ Q v (upd H' d (.dK kvs))
def tDGetDG (td ty tx : TE) : TE := fun σ H Q => td σ H fun x H1 => ∃ a, x = .ref a ∧ (∃ kvs, H1 a = some (.dK kvs)) ∧ ty σ H1 fun y H2 => tx σ H2 fun z H3 => ∃ kvs k, H3 a = some (.dK kvs) ∧ keyOf y = some k ∧ Q ((valV kvs k).getD z) H3
end L2

set_option Elab.async false
set_option linter.all false
set_option maxRecDepth 100000
set_option maxHeartbeats 4000000
/-! our own rules: dict(list of pairs) over the abstract heap -/
namespace L2
open PySem PySem.Spec PyProof.Rows
section
variable {prog : Program} {w : World}
inductive ItP (prog : Program) (w : World) (h : Heap) (d it : Addr) : List Value → List (Key × Value) → Prop
  | nil : ItP prog w h d it [] []
  | cons {a : Addr} {o : Obj} {key v : Value} {k : Key} {n : Nat} {xs : List Value} {ps : List (Key × Value)} : h.get? a = some o → o.cls = .type "tuple" → o.data = .seq #[key, v] n → (mixKind prog w).is k key = true → a ≠ d → a ≠ it → ItP prog w h d it xs ps → ItP prog w h d it (.ref a :: xs) ((k, v) :: ps)
theorem ItP.keep {h h' : Heap} {d it : Addr} (g : ∀ b o, b ≠ d → b ≠ it → h.get? b = some o → h'.get? b = some o) : ∀ {xs : List Value} {ps : List (Key × Value)}, ItP prog w h d it xs ps → ItP prog w h' d it xs ps
  | _, _, .nil => .nil
  | _, _, .cons h1 h2 h3 h4 h5 h6 r => .cons (g _ _ h5 h6 h1) h2 h3 h4 h5 h6 (r.keep g)
end
inductive PrK (H : Hp) : List V → List (Key × V) → Prop
  | nil : PrK H [] []
  | cons {a : Addr} {k : Key} {v : V} {xs : List V} {ps : List (Key × V)} : H a = some (.tup [kV k, v]) → PrK H xs ps → PrK H (.ref a :: xs) ((k, v) :: ps)
def putAll (ps : List (Key × V)) : List (Key × V) := ps.foldl (fun c p => putK c p.1 p.2) []
def rDictP : List V → Hp → VK → Prop := fun xs H Q => ∃ (p : Addr) (ys : List V) (ps : List (Key × V)), xs = [.ref p] ∧ H p = some (.lst ys) ∧ PrK H ys ps ∧ ps.length < 1000 ∧ ∀ l H', H l = none → Same H H' → H' l = some (.dK (putAll ps)) → Q (.ref l) H'
end L2

set_option Elab.async false
set_option linter.all false
set_option maxRecDepth 100000
set_option maxHeartbeats 4000000
/-! our own rules: sorted of pairs of whole numbers: some order of the same -/
namespace L2
open PySem PySem.Spec PyProof.Rows PySem.W
def Gd {α : Type} (N : Nat) (R : α → Prop) : KasT α → Prop
  | .ret a => R a
  | .ask i j k => i < N ∧ j < N ∧ ∀ b, Gd N R (k b)
theorem Gd.bind {α β : Type} {N : Nat} {R : α → Prop} {S : β → Prop} {f : α → KasT β} (hf : ∀ a, R a → Gd N S (f a)) : ∀ {t : KasT α}, Gd N R t → Gd N S (t.bind f)
  | .ret a, h => hf a h
  | .ask i j k, ⟨h1, h2, h3⟩ => ⟨h1, h2, fun b => Gd.bind hf (h3 b)⟩
theorem Gd.wp {α : Type} {N : Nat} {R : α → Prop} {cmp : Nat → Nat → (Bool → Shared → Prop) → Shared → Prop} {Q : α → Shared → Prop} {s : Shared} (hc : ∀ i j, i < N → j < N → ∀ C : Bool → Shared → Prop, (∀ b, C b s) → cmp i j C s) (hq : ∀ a, R a → Q a s) : ∀ {t : KasT α}, Gd N R t → t.kasWp cmp Q s
  | .ret a, h => hq a h
  | .ask i j k, ⟨h1, h2, h3⟩ => hc i j h1 h2 _ fun b => Gd.wp hc hq (h3 b)
def Ord (n : Nat) (p : Array Nat) : Prop := p.Perm (List.toArray (List.range n))
theorem Ord.size {n : Nat} {p : Array Nat} (h : Ord n p) : p.size = n := by have := h.size_eq; simpa using this
theorem Ord.get {n : Nat} {p : Array Nat} (h : Ord n p) (hn : 0 < n) (i : Nat) : p.getD i 0 < n := by
  by_cases c : i < p.size
  · have e : p.getD i 0 = p[i] := by simp [Array.getD, c]
    rw [e]
    have hm : p[i] ∈ p.toList := by simp
    have := (Array.perm_iff_toList_perm.mp h).mem_iff.mp hm
    simpa using this
  · have e : p.getD i 0 = 0 := by simp [Array.getD, c]
    rw [e]; exact hn
section
variable {N : Nat} (hN : 0 < N)
include hN
end
section
variable {prog : Program} {w : World} {A : Around} {E : Value → Shared → Prop} {s : Shared}
end
def rSortT : List V → Hp → VK → Prop := fun xs H Q => ∃ (p : Addr) (ys : List V), xs = [.ref p] ∧ H p = some (.lst ys) ∧ (∀ y ∈ ys, ∃ a i j, y = .ref a ∧ H a = some (.tup [.int i, .int j])) ∧ ys.length < 64 ∧
  ∀ D H' zs, H D = none → Same H H' → H' D = some (.lst zs) → zs.Perm ys → Q (.ref D) H'
end L2

set_option Elab.async false
set_option linter.all false
set_option maxRecDepth 100000
set_option maxHeartbeats 4000000
/-! our own rules: is True, comprehensions over a dict's values and items, comprehensions whose items change the heap -/
namespace L2
open PySem PySem.Spec PyProof.Rows
end L2

set_option Elab.async false
set_option linter.all false
set_option maxRecDepth 100000
set_option maxHeartbeats 4000000
/-! our own rules: list(a dict), a pair of numbers in a list of such pairs, over the abstract heap -/
namespace L2
open PySem PySem.Spec PyProof.Rows
section
variable {X : Cx}
def rListK : List V → Hp → VK → Prop := fun xs H Q => ∃ (d : Addr) (kvs : List (Key × V)), xs = [.ref d] ∧ H d = some (.dK kvs) ∧ kvs.length < 1000 ∧ ∀ l H', H l = none → Same H H' → H' l = some (.lst (kvs.map fun kv => kV kv.1)) → Q (.ref l) H'
end
end L2
namespace L2
open PySem PySem.Spec PyProof.Rows
def pairO (i j : Int) : Option HO → Bool
  | some (.tup [.int a, .int b]) => decide (a = i) && decide (b = j)
  | _ => false
def pairV (H : Hp) (i j : Int) : V → Bool
  | .ref b => pairO i j (H b)
  | _ => false
def rInP : R2 := fun x y H Q => ∃ a p i j xs, x = .ref a ∧ y = .ref p ∧ H a = some (.tup [.int i, .int j]) ∧ H p = some (.lst xs) ∧ (∀ v ∈ xs, ∃ b i' j', v = .ref b ∧ H b = some (.tup [.int i', .int j'])) ∧ Q (.bl (xs.any (pairV H i j))) H
def rIntB : List V → Hp → VK → Prop := fun xs H Q => ∃ k, xs = [.bl k] ∧ Q (.int (if k = true then 1 else 0)) H
theorem call_intB {X : Cx} : CallR X (.type "int") rIntB := by
  intro pins s σ H xs us Q I r h
  exact call_int1 pins s σ H xs us Q I r (.inr h)
end L2

set_option Elab.async false
set_option linter.all false
set_option maxRecDepth 100000
set_option maxHeartbeats 4000000
/-! our own rules: sorted of tuples of whole numbers that are all different: rising -/
namespace L2
open PySem PySem.Spec PyProof.Rows PySem.W
def Go {α : Type} (lt : Nat → Nat → Bool) (N : Nat) (R : α → Prop) : KasT α → Prop
  | .ret a => R a
  | .ask i j k => i < N ∧ j < N ∧ Go lt N R (k (lt i j))
theorem Go.bind {α β : Type} {lt : Nat → Nat → Bool} {N : Nat} {R : α → Prop} {S : β → Prop} {f : α → KasT β} (hf : ∀ a, R a → Go lt N S (f a)) : ∀ {t : KasT α}, Go lt N R t → Go lt N S (t.bind f)
  | .ret a, h => hf a h
  | .ask i j k, ⟨h1, h2, h3⟩ => ⟨h1, h2, Go.bind hf h3⟩
theorem Go.wp {α : Type} {lt : Nat → Nat → Bool} {N : Nat} {R : α → Prop} {cmp : Nat → Nat → (Bool → Shared → Prop) → Shared → Prop} {Q : α → Shared → Prop} {s : Shared} (hc : ∀ i j, i < N → j < N → ∀ C : Bool → Shared → Prop, C (lt i j) s → cmp i j C s) (hq : ∀ a, R a → Q a s) : ∀ {t : KasT α}, Go lt N R t → t.kasWp cmp Q s
  | .ret a, h => hq a h
  | .ask i j k, ⟨h1, h2, h3⟩ => hc i j h1 h2 _ (Go.wp hc hq h3)
section
variable {lt : Nat → Nat → Bool} {N : Nat} (hN : 0 < N) (tr : ∀ i j k, lt i j = true → lt j k = true → lt i k = true) (tot : ∀ i j, i < N → j < N → i ≠ j → lt i j = true ∨ lt j i = true)
def Up (lt : Nat → Nat → Bool) (p : Array Nat) (k : Nat) : Prop := ∀ i j, i < j → j < k → lt (p.getD i 0) (p.getD j 0) = true
def Down (lt : Nat → Nat → Bool) (p : Array Nat) (k : Nat) : Prop := ∀ i j, i < j → j < k → lt (p.getD j 0) (p.getD i 0) = true
theorem Ord.ne {p : Array Nat} (h : Ord N p) {i j : Nat} (hij : i < j) (hj : j < N) : p.getD i 0 ≠ p.getD j 0 := by
  have nd : p.toList.Nodup := by
    have := (Array.perm_iff_toList_perm.mp h).nodup_iff.mpr (by simpa using List.nodup_range)
    exact this
  have hs := h.size
  have hi' : i < p.size := by omega
  have hj' : j < p.size := by omega
  simp only [Array.getD, hi', hj', dif_pos]
  intro e
  have := (List.pairwise_iff_getElem.mp nd) i j (by simpa using hi') (by simpa using hj') hij
  exact this (by simpa using e)
include tr in
theorem Up.step {p : Array Nat} {n : Nat} (h : Up lt p n) (h1 : 1 ≤ n) (hl : lt (p.getD (n - 1) 0) (p.getD n 0) = true) : Up lt p (n + 1) := fun i j hij hj => by
  by_cases e : j = n
  · subst e
    by_cases e2 : i = j - 1
    · subst e2; exact hl
    · exact tr _ _ _ (h i (j - 1) (by omega) (by omega)) hl
  · exact h i j hij (by omega)
include tr in
theorem Down.step {p : Array Nat} {n : Nat} (h : Down lt p n) (h1 : 1 ≤ n) (hl : lt (p.getD n 0) (p.getD (n - 1) 0) = true) : Down lt p (n + 1) := fun i j hij hj => by
  by_cases e : j = n
  · subst e
    by_cases e2 : i = j - 1
    · subst e2; exact hl
    · exact tr _ _ _ hl (h i (j - 1) (by omega) (by omega))
  · exact h i j hij (by omega)
include hN tr tot in
include hN tr tot in
include hN tr tot in
include hN tr tot in
include hN tr tot in
include hN tr tot in
end

section
variable {prog : Program} {w : World} {A : Around} {E : Value → Shared → Prop} {s : Shared}
end
def SN : Nat := 64
def rSortO : List V → Hp → VK → Prop := fun xs H Q => ∃ (p : Addr) (ps : List (Addr × List Int)) (L : Nat), xs = [.ref p] ∧ H p = some (.lst (ps.map fun q => .ref q.1)) ∧ (∀ q ∈ ps, H q.1 = some (.tup (q.2.map V.int))) ∧ 0 < L ∧ (∀ q ∈ ps, q.2.length = L) ∧ ps.Pairwise (fun q r => q.2 ≠ r.2) ∧ ps.length < SN ∧
  ∀ (D : Addr) (H' : Hp) (qs : List (Addr × List Int)), H D = none → Same H H' → H' D = some (.lst (qs.map fun q => .ref q.1)) → qs.Perm ps → qs.Pairwise (fun q r => HT.lexLt q.2 r.2 = true) → Q (.ref D) H'
theorem PE.or {X : Cx} {e : Expr} {t u : TE} (h : PE X e t) (h' : PE X e u) : PE X e (fun σ H Q => t σ H Q ∨ u σ H Q) := by
  intro pins s σ H Q I q
  rcases q with q | q
  · exact h pins s σ H Q I q
  · exact h' pins s σ H Q I q
end L2

set_option Elab.async false
set_option linter.all false
set_option maxRecDepth 100000
set_option maxHeartbeats 4000000
/-! our own reading tactic: lazy -/
theorem L2.cps {p : Prop} (h : ∀ G : Prop, (p → G) → G) : p := h p id
theorem L2.exBl {b : Bool} {p : Bool → Prop} : (∃ c, L2.V.bl b = L2.V.bl c ∧ p c) = p b := propext ⟨fun ⟨_, e, h⟩ => (L2.V.bl.inj e) ▸ h, fun h => ⟨_, rfl, h⟩⟩
theorem L2.exIn {b : Int} {p : Int → Prop} : (∃ c, L2.V.int b = L2.V.int c ∧ p c) = p b := propext ⟨fun ⟨_, e, h⟩ => (L2.V.int.inj e) ▸ h, fun h => ⟨_, rfl, h⟩⟩
theorem L2.exIn1 {b : Int} {α : Sort _} {p : Int → α → Prop} : (∃ c x, L2.V.int b = L2.V.int c ∧ p c x) = ∃ x, p b x := propext ⟨fun ⟨_, x, e, h⟩ => ⟨x, (L2.V.int.inj e) ▸ h⟩, fun ⟨x, h⟩ => ⟨_, x, rfl, h⟩⟩
theorem L2.exRf {b : PySem.Addr} {p : PySem.Addr → Prop} : (∃ c, L2.V.ref b = L2.V.ref c ∧ p c) = p b := propext ⟨fun ⟨_, e, h⟩ => (L2.V.ref.inj e) ▸ h, fun h => ⟨_, rfl, h⟩⟩
theorem L2.exRf1 {b : PySem.Addr} {α : Sort _} {p : PySem.Addr → α → Prop} : (∃ c x, L2.V.ref b = L2.V.ref c ∧ p c x) = ∃ x, p b x := propext ⟨fun ⟨_, x, e, h⟩ => ⟨x, (L2.V.ref.inj e) ▸ h⟩, fun ⟨x, h⟩ => ⟨_, x, rfl, h⟩⟩
theorem L2.exRf2 {b : PySem.Addr} {α β : Sort _} {p : PySem.Addr → α → β → Prop} : (∃ c x y, L2.V.ref b = L2.V.ref c ∧ p c x y) = ∃ x y, p b x y := propext ⟨fun ⟨_, x, y, e, h⟩ => ⟨x, y, (L2.V.ref.inj e) ▸ h⟩, fun ⟨x, y, h⟩ => ⟨_, x, y, rfl, h⟩⟩
theorem L2.exRf3 {b : PySem.Addr} {α β γ : Sort _} {p : PySem.Addr → α → β → γ → Prop} : (∃ c x y z, L2.V.ref b = L2.V.ref c ∧ p c x y z) = ∃ x y z, p b x y z := propext ⟨fun ⟨_, x, y, z, e, h⟩ => ⟨x, y, z, (L2.V.ref.inj e) ▸ h⟩, fun ⟨x, y, z, h⟩ => ⟨_, x, y, z, rfl, h⟩⟩
theorem L2.exSt {b : PySem.Str} {p : PySem.Str → Prop} : (∃ c, L2.V.str b = L2.V.str c ∧ p c) = p b := propext ⟨fun ⟨_, e, h⟩ => (L2.V.str.inj e) ▸ h, fun h => ⟨_, rfl, h⟩⟩
theorem L2.exSo {α : Type} {b : α} {p : α → Prop} : (∃ c, some b = some c ∧ p c) = p b := propext ⟨fun ⟨_, e, h⟩ => (Option.some.inj e) ▸ h, fun h => ⟨_, rfl, h⟩⟩
theorem L2.qVar {i : Nat} {σ : L2.St} {H : L2.Hp} {Q : L2.VK} {v : L2.V} (h : σ[i]? = some (some v)) : L2.tVar i σ H Q = Q v H := propext ⟨fun ⟨_, e, q⟩ => by rw [h] at e; cases e; exact q, fun q => ⟨_, h, q⟩⟩
theorem L2.and_t {a b : Prop} (h : a = True) : (a ∧ b) = b := by rw [h, true_and]
theorem L2.and_f {a b : Prop} (h : a = False) : (a ∧ b) = False := by rw [h, false_and]
theorem L2.and_r {a b a1 a2 : Prop} (h : a = (a1 ∧ a2)) : (a ∧ b) = (a1 ∧ (a2 ∧ b)) := by rw [h, and_assoc]
theorem L2.and_l {a b a' : Prop} (h : a = a') : (a ∧ b) = (a' ∧ b) := by rw [h]
open Lean Meta Simp in
simproc_decl quickVar (L2.tVar _ _ _ _) := fun e => do
  let_expr L2.tVar i s H Q := e | return .continue
  let l ← mkAppM ``GetElem?.getElem? #[s, i]
  let w ← whnfD l
  let_expr Option.some _ o := w | return .continue
  let o' ← whnfD o
  let_expr Option.some _ v := o' | return .continue
  return .visit { expr := (mkApp2 Q v H).headBeta, proof? := some (mkApp6 (mkConst ``L2.qVar) i s H Q v (← mkEqRefl l)) }
open Lean Meta Simp in
simproc_decl lazyAnd (_ ∧ _) := fun e => do
  let_expr And a b := e | return .continue
  let r ← simp a
  let a' := r.expr
  if a'.isTrue then return .visit { expr := b, proof? := some (mkApp3 (mkConst ``L2.and_t) a b (← r.getProof)) }
  if a'.isFalse then return .done { expr := mkConst ``False, proof? := some (mkApp3 (mkConst ``L2.and_f) a b (← r.getProof)) }
  match_expr a' with
  | And a1 a2 => return .visit { expr := mkAnd a1 (mkAnd a2 b), proof? := some (mkApp5 (mkConst ``L2.and_r) a b a1 a2 (← r.getProof)) }
  | _ =>
    match r.proof? with
    | none => return .done { expr := mkAnd a' b }
    | some h => return .done { expr := mkAnd a' b, proof? := some (mkApp4 (mkConst ``L2.and_l) a b a' h) }
theorem L2.ite_c {α : Sort _} {c c' : Prop} [d : Decidable c] [d' : Decidable c'] (h : c = c') (x y : α) : ite c x y = ite c' x y := by subst h; congr
open Lean Meta Simp in
simproc_decl lazyIte (ite _ _ _) := fun e => do
  let_expr ite α c d x y := e | return .continue
  let r ← simp c
  if r.expr.isTrue || r.expr.isFalse then return .continue
  if r.expr == c then return .done { expr := e }
  let d' ← synthInstance (mkApp (mkConst ``Decidable) r.expr)
  return .done { expr := mkApp5 e.consumeMData.getAppFn α r.expr d' x y, proof? := some (mkAppN (mkConst ``L2.ite_c e.consumeMData.getAppFn.constLevels!) #[α, c, r.expr, d, d', ← r.getProof, x, y]) }
open Lean Meta Simp in
simproc_decl lazyAll (_) := fun e => do
  if e.isForall then return .done { expr := e } else return .continue
def L2.rdPost : String := "L2.rSortO L2.rLtT L2.rIntB L2.rListK L2.rInP L2.tFldG L2.sFldG L2.tMethG L2.tMakeG L2.lookup_n L2.lookup_c L2.putF_n L2.putF_c L2.HO.ins.injEq L2.tDGetDG L2.tUnf L2.rDictP L2.rSortT L2.rMinL L2.rIdxG L2.rPopAtG L2.tRng1 L2.rListRng L2.tRev L2.rIxL L2.tBreak L2.tCont L2.rSum L2.rSort L2.rListG L2.rInsG L2.tDPopG L2.frameN L2.capOf Option.join_some L2.tYes L2.tChain L2.rAll L2.tBM L2.tyV L2.rStarts L2.rInK L2.tFmt L2.tJoin L2.jCons L2.jNil L2.tDefR L2.tRaise L2.rMulS L2.rSlS L2.rJoinS L2.rCatG L2.tTry1 L2.tTry0 L2.tBM0 L2.rPopG L2.rRepG L2.tDGetR L2.gLstG L2.tCallX L2.rIsiX L2.rIsiXT L2.tMs L2.rSetG L2.gSub L2.tSeq L2.tNext L2.tIfS L2.tTest L2.tB L2.tOp L2.tUn L2.rU L2.tVar L2.tC L2.rI0 L2.rI L2.tRet L2.tRetN L2.tDrop L2.tAsg L2.gName L2.gTup L2.gCons L2.gNil L2.tNil L2.tCons L2.tTupG L2.tLstG L2.tDNewG L2.rDictG L2.tAppG L2.sDPutG2 L2.pairsOf L2.tDispG L2.tPairs Option.bind_some L2.tDef L2.tCB L2.tAnd L2.tOr L2.tNot L2.tAndV L2.tOrV L2.tNotV L2.tIf L2.rIxG L2.rIxS L2.rEq L2.rNe L2.scal_ss L2.scal_ii L2.scal_bb L2.scal_nn L2.scal_ns L2.scal_sn L2.scal_ni L2.scal_in L2.flat_s L2.flat_i L2.flat_n L2.flat_b L2.inV_nil L2.inV_cons L2.eqV_ss L2.eqV_ii L2.cx_K L2.rInG L2.gTupG L2.rSlG L2.tSl L2.tPart L2.tNoPart L2.tForT L2.tForL L2.turns L2.upd_same List.all_cons List.all_nil Bool.and_true Bool.true_and Bool.and_self Bool.or_false Bool.or_true Bool.false_or Bool.true_or L2.cutV HT.sIx L2.rIsiG L2.tyG_n L2.tyG_b L2.tyG_i L2.tyG_s L2.tyG_r L2.hoT_l L2.hoT_t L2.hoT_d L2.V.ty.injEq L2.kit_ii L2.kit_it L2.kit_il L2.kit_is L2.kit_ib L2.kit_id L2.kit_ni L2.kit_nt L2.kit_nl L2.kit_ns L2.kit_nb L2.kit_nd L2.kit_ti L2.kit_tt L2.kit_tl L2.kit_ts L2.kit_tb L2.kit_td L2.kit_li L2.kit_lt L2.kit_ll L2.kit_ls L2.kit_lb L2.kit_ld L2.kit_si L2.kit_st L2.kit_sl L2.kit_ss L2.kit_sb L2.kit_sd L2.kit_bi L2.kit_bt L2.kit_bl L2.kit_bs L2.kit_bb L2.kit_bd L2.kit_di L2.kit_dt L2.kit_dl L2.kit_ds L2.kit_db L2.kit_dd L2.mn1 L2.mn2 List.drop_succ_cons List.drop_zero List.take_succ_cons List.take_zero Nat.reduceEqDiff not_false_eq_true L2.tDInG L2.tDNotInG L2.tDGetG L2.keyOf_s L2.keyOf_i List.cons.injEq L2.tDNewK L2.start List.map_cons List.map_nil List.length_cons List.length_nil List.replicate List.cons_append List.nil_append List.getElem?_cons_zero List.getElem?_cons_succ List.set_cons_zero List.set_cons_succ Option.some.injEq L2.V.int.injEq L2.V.str.injEq L2.V.ref.injEq L2.V.bl.injEq L2.HO.tup.injEq L2.HO.lst.injEq L2.HO.dK.injEq reduceCtorEq exists_eq_left' exists_and_left exists_eq_left exists_eq_right L2.CPow L2.CMul L2.CDiv decide_eq_true_eq L2.ofString_inj String.reduceEq decide_true decide_false Bool.false_eq_true if_true if_false if_pos and_true true_and or_false false_or or_true true_or and_false false_and exists_const exists_false Bool.not_true Bool.not_false L2.sz0 L2.sz1 L2.sz2 L2.sz3 L2.sz4 L2.sz5 L2.sz6 L2.atI_0 L2.atI_1 L2.atI_2 L2.atI_3 L2.atI_4 Nat.reduceAdd Nat.reduceSub Nat.zero_add Nat.reduceLeDiff Int.reducePow Int.reduceToNat Int.reduceLT Int.reduceLE Int.reduceNeg L2.na2 L2.na10 Nat.reducePow Nat.reduceLT"
def L2.lzPre : String := "lazyAnd reduceIte lazyIte exists_eq_left exists_eq_left' reduceIte L2.exBl L2.exIn L2.exRf L2.exSt L2.exSo quickVar L2.exIn1 L2.exRf1 L2.exRf2 L2.exRf3"
def L2.rdPre : String := "exists_eq_left exists_eq_left' reduceIte L2.exBl L2.exIn L2.exRf L2.exSt L2.exSo quickVar L2.exIn1 L2.exRf1 L2.exRf2 L2.exRf3"
open Lean in
def L2.rdArgs (pre : String) : MacroM (TSyntaxArray ``Lean.Parser.Tactic.simpLemma) := do
  let p ← (L2.rdPost.splitOn " ").toArray.mapM fun n => `(Lean.Parser.Tactic.simpLemma| $(mkIdent n.toName):ident)
  let a ← (pre.splitOn " ").toArray.mapM fun n => `(Lean.Parser.Tactic.simpLemma| ↓ $(mkIdent n.toName):ident)
  return a ++ p

set_option Elab.async false
set_option linter.all false
set_option maxRecDepth 100000
set_option maxHeartbeats 4000000
/-! our own rules: a method of a thing that is of one of two classes -/
namespace L2
open PySem PySem.Spec PyProof.Rows PySem.W
section
variable {X : Cx} {k k2 n : Nat} {ps ps2 : List Str} {sp sp2 : Sp} {m : Str} {pos apos : Pos} {o e : Expr} {es : List Expr} {t : TA} {ta : TE} {C C2 : Addr}
end
end L2

set_option Elab.async false
set_option linter.all false
set_option maxRecDepth 100000
set_option maxHeartbeats 4000000
/-! our own rules: a comprehension over a range whose items may change the heap -/
namespace L2
open PySem PySem.Spec PyProof.Rows
end L2

set_option Elab.async false
set_option linter.all false
set_option maxRecDepth 100000
set_option maxHeartbeats 4000000
/-! our own rules: zip of two iterators of any kind -/
namespace L2
open PySem PySem.Spec PyProof.Rows
structure Nx (prog : Program) (w : World) (i : Addr) (fp : List Addr) (T : Nat → Heap → Prop) (item : Nat → Option Value) : Prop where
  keep : ∀ k h h', T k h → (∀ b, b = i ∨ b ∈ fp → ∀ o, h.get? b = some o → h'.get? b = some o) → T k h'
  obj : ∀ k h, T k h → ∃ o, h.get? i = some o ∧ (∀ v, o.data ≠ .cell v) ∧ o.cls ≠ .type "StopIteration"
  next : ∀ (A : Around) k x s (Q : Value → Shared → Prop) (E : Value → Shared → Prop), T k s.heap → item k = some x → (∀ h', T (k + 1) h' → Heap.SameBut i s.heap h' → Q x { s with heap := h' }) → wpAny (model prog w) A (Builtin.SmallTypes.nextOf (.ref i)) Q E s
  done : ∀ (A : Around) k s (Q : Value → Shared → Prop) (E : Value → Shared → Prop), A.handled = none → T k s.heap → item k = none → (∀ h' e, Heap.ExtBut i s.heap h' → (∃ o, h'.get? e = some o ∧ o.cls = .type "StopIteration") → E (.ref e) { s with heap := h' }) → wpAny (model prog w) A (Builtin.SmallTypes.nextOf (.ref i)) Q E s
section
variable {prog : Program} {w : World} {A : Around} {E : Value → Shared → Prop} {s : Shared}
theorem nx_list (i l : Addr) (xs : Array Value) (ne : l ≠ i) : Nx prog w i [l] (fun k h => h.IsListIter i l k ∧ h.IsList l xs) (fun k => xs[k]?) where
  keep := fun k h h' ⟨h1, h2⟩ kp => ⟨h1.at fun o e => kp i (.inl rfl) o e, h2.at fun o e => kp l (.inr (by simp)) o e⟩
  obj := fun k h ⟨⟨o, e, c, d⟩, _⟩ => ⟨o, e, fun v z => (by rw [d] at z; cases z), fun z => (by rw [c] at z; simp at z)⟩
  next := fun A k x s Q E ⟨h1, h2⟩ hx q => wpAny_nextOf_list_item h1 h2 hx fun h' a b => q h' ⟨a, h2.extBut b.extBut ne⟩ b
  done := fun A k s Q E hh ⟨h1, h2⟩ hx q => wpAny_nextOf_list_end hh h1 h2 hx q
theorem nx_tuple (i l : Addr) (xs : Array Value) (ne : l ≠ i) : Nx prog w i [l] (fun k h => h.IsTupleIter i l k ∧ h.IsTuple l xs) (fun k => xs[k]?) where
  keep := fun k h h' ⟨⟨o, e, r⟩, ⟨o2, e2, r2⟩⟩ kp => ⟨⟨o, kp i (.inl rfl) o e, r⟩, ⟨o2, kp l (.inr (by simp)) o2 e2, r2⟩⟩
  obj := fun k h ⟨⟨o, e, c, d⟩, _⟩ => ⟨o, e, fun v z => (by rw [d] at z; cases z), fun z => (by rw [c] at z; simp at z)⟩
  next := fun A k x s Q E ⟨h1, h2⟩ hx q => by
    obtain ⟨o, ho, hc, hd⟩ := id h1
    obtain ⟨o2, ho2, hc2, n2, hd2⟩ := id h2
    unfold Builtin.SmallTypes.nextOf
    refine wpAny_bind (wpAny_callSpecial?_slot (name := Str.ofString "__next__") h1.typeIs F.slot_tuple_iterator_next (wpAny_call_entry F.slot_tuple_iterator_next h1.typeIs F.entry_tuple_iterator_next ?_ (F.args_tuple_iterator_next_1 _)))
    show wpAny _ _ (field (.ref i) 0 >>= _) _ _ _
    refine wpAny_bind (wpAny_field ho hd (x := .ref l) rfl ?_)
    show wpAny _ _ (if (Value.ref l == Value.none) = true then _ else _) _ _ _
    rw [if_neg (show ¬ ((Value.ref l == Value.none) = true) from Bool.false_ne_true)]
    show wpAny _ _ (field (.ref i) 1 >>= _) _ _ _
    refine wpAny_bind (wpAny_field ho hd (x := .int k 0) rfl ?_)
    show wpAny _ _ (seqItems? (.ref l) >>= _) _ _ _
    refine wpAny_bind (wpAny_seqItems ho2 hd2 ?_)
    simp only [Int.toNat_natCast, hx]
    have sb := Heap.SameBut.update s.heap i (Obj.mapFields (·.setIfInBounds 1 (rawInt ((k : Int) + 1))))
    refine wpAny_bind (wpAny_setField ho hd (by simp) (wpAny_pure ⟨x, rfl, wpAny_pure (q _ ⟨?_, h2.extBut sb.extBut ne⟩ sb)⟩))
    exact ⟨_, Heap.get?_update_self _ ho (Obj.isFreed_of_fields (Obj.data_mapFields hd _)), (Obj.cls_mapFields ..).trans hc, by rw [Obj.data_mapFields hd]; simp [rawInt]⟩
  done := fun A k s Q E hh ⟨h1, h2⟩ hx q => by
    obtain ⟨o, ho, hc, hd⟩ := id h1
    obtain ⟨o2, ho2, hc2, n2, hd2⟩ := id h2
    unfold Builtin.SmallTypes.nextOf
    refine wpAny_bind (wpAny_callSpecial?_slot (name := Str.ofString "__next__") h1.typeIs F.slot_tuple_iterator_next (wpAny_call_entry F.slot_tuple_iterator_next h1.typeIs F.entry_tuple_iterator_next ?_ (F.args_tuple_iterator_next_1 _)))
    show wpAny _ _ (field (.ref i) 0 >>= _) _ _ _
    refine wpAny_bind (wpAny_field ho hd (x := .ref l) rfl ?_)
    show wpAny _ _ (if (Value.ref l == Value.none) = true then _ else _) _ _ _
    rw [if_neg (show ¬ ((Value.ref l == Value.none) = true) from Bool.false_ne_true)]
    show wpAny _ _ (field (.ref i) 1 >>= _) _ _ _
    refine wpAny_bind (wpAny_field ho hd (x := .int k 0) rfl ?_)
    show wpAny _ _ (seqItems? (.ref l) >>= _) _ _ _
    refine wpAny_bind (wpAny_seqItems ho2 hd2 ?_)
    simp only [Int.toNat_natCast, hx]
    refine wpAny_bind (wpAny_rule (wpAny_bind (wpAny_setField ho hd (by simp) ?_)))
    show wpAny _ _ (newExc (.type "StopIteration") [] >>= _) _ _ _
    refine wpAny_bind ?_
    simp only [newExc, newTuple]
    refine wpAny_bind (wpAny_newObj_type ?_ (by size_fits))
    refine wpAny_bind (m := firstArgMember _ _) (wpAny_of_eq (a := Value.none) (by first | rfl | (simp only [firstArgMember]; rfl)) ?_)
    refine wpAny_newObj_type ?_ (by size_fits)
    simp only [raiseNew]
    refine wpAny_bind (wpAny_handled ?_)
    first | rw [show A.in1.handled = none from hh] | rw [hh]
    refine wpAny_bind (wpAny_pure (wpAny_throw ?_))
    exact q _ _ (((Heap.SameBut.update ..).extBut.push _).push _) ⟨_, Heap.get?_push_size _ rfl, rfl⟩
structure ZA (z TI TO i j : Addr) (f1 f2 : List Addr) : Prop where
  tz : TI ≠ z
  oz : TO ≠ z
  iz : i ≠ z
  jz : j ≠ z
  to : TI ≠ TO
  ti : TI ≠ i
  tj : TI ≠ j
  oi : TO ≠ i
  oj : TO ≠ j
  ij : i ≠ j
  a1 : ∀ b ∈ f1, b ≠ z ∧ b ≠ TO ∧ b ≠ i ∧ b ≠ j
  a2 : ∀ b ∈ f2, b ≠ z ∧ b ≠ TO ∧ b ≠ i ∧ b ≠ j
variable {z TI TO i j : Addr} {f1 f2 : List Addr} {T1 T2 : Nat → Heap → Prop} {e1 e2 : Nat → Option Value}
theorem zp_item {k : Nat} {x y a b : Value} {Q : Option Value → Shared → Prop} (D : ZA z TI TO i j f1 f2) (N1 : Nx prog w i f1 T1 e1) (N2 : Nx prog w j f2 T2 e2) (hz : IsZip s.heap z TI TO .none) (hTI : IsPair s.heap TI (.ref i) (.ref j)) (hTO : IsPair s.heap TO a b)
    (t1 : T1 k s.heap) (t2 : T2 k s.heap) (hx : e1 k = some x) (hy : e2 k = some y)
    (hQ : ∀ h', IsZip h' z TI TO (rawInt s.heap.objs.size) → IsPair h' TO x y → T1 (k + 1) h' → T2 (k + 1) h' → IsPair h' s.heap.objs.size x y → h'.objs.size = s.heap.objs.size + 1 → (∀ c o, c ≠ z → c ≠ TO → c ≠ i → c ≠ j → s.heap.get? c = some o → h'.get? c = some o) → Q (some (.ref s.heap.objs.size)) { s with heap := h' }) :
    wpAny (model prog w) A (pyNext (.ref z)) Q E s := by
  have hT : s.TypeIs (.ref z) "zip" := ⟨_, hz, rfl⟩
  unfold pyNext
  refine wpAny_bind (wpAny_attempt (wpAny_callSpecial?_slot (name := Str.ofString "__next__") hT F.slot_zip_next (wpAny_call_entry F.slot_zip_next hT F.entry_zip_next ?_ (F.args_zip_next_1 _))))
  show wpAny _ _ (field (.ref z) 2 >>= _) _ _ _
  refine wpAny_bind (wpAny_field hz rfl (x := .bool false) rfl ?_)
  show wpAny _ _ (field (.ref z) 3 >>= _) _ _ _
  refine wpAny_bind (wpAny_field hz rfl (x := .ref TI) rfl ?_)
  refine wpAny_bind (wpAny_seqItems hTI rfl ?_)
  show wpAny _ _ (Builtin.SmallTypes.ownedTupleIsFree (.ref z) >>= _) _ _ _
  refine wpAny_bind ?_
  unfold Builtin.SmallTypes.ownedTupleIsFree
  refine wpAny_bind (wpAny_field hz rfl (x := .none) rfl (wpAny_pure ?_))
  simp only [if_true]
  refine wpAny_bind (wpAny_rule ?_)
  refine wpAny_bind (wpAny_field hz rfl (x := .ref TO) rfl ?_)
  refine wpAny_bind (wpAny_setField_rec hz (by simp) fun g1 z1 s1 => ?_)
  replace z1 : IsZip g1 z TI TO .ellipsis := z1
  refine wpAny_bind ?_
  simp only [List.zipIdx_cons, List.zipIdx_nil, List.forIn_cons, List.forIn_nil]
  refine wpAny_bind (wpAny_bind (wpAny_onRaise ?_))
  show wpAny _ _ (Builtin.SmallTypes.nextOf (.ref i) >>= _) _ _ _
  have t1a : T1 k g1 := N1.keep k _ _ t1 fun b hb o e => s1.extBut _ _ (hb.elim (fun q => q ▸ D.iz) fun q => (D.a1 b q).1) e
  refine wpAny_bind (N1.next _ k x _ _ _ t1a hx fun g2 t1b s2 => wpAny_pure ?_)
  have o2 : IsPair g2 TO a b := s2.extBut _ _ D.oi (s1.extBut _ _ D.oz hTO)
  refine wpAny_bind (wpAny_seqItems o2 rfl ?_)
  refine wpAny_bind (wpAny_updateSeq_pair o2 fun g3 o3 s3 => ?_)
  replace o3 : IsPair g3 TO x b := o3
  refine wpAny_bind (wpAny_letGo (wpAny_pure ?_))
  refine wpAny_bind (wpAny_bind (wpAny_onRaise ?_))
  show wpAny _ _ (Builtin.SmallTypes.nextOf (.ref j) >>= _) _ _ _
  have t2a : T2 k g3 := N2.keep k _ _ t2 fun b hb o e => by
    have n : b ≠ z ∧ b ≠ TO ∧ b ≠ i := hb.elim (fun q => q ▸ ⟨D.jz, D.oj.symm, D.ij.symm⟩) fun q => ⟨(D.a2 b q).1, (D.a2 b q).2.1, (D.a2 b q).2.2.1⟩
    exact s3.extBut _ _ n.2.1 (s2.extBut _ _ n.2.2 (s1.extBut _ _ n.1 e))
  refine wpAny_bind (N2.next _ k y _ _ _ t2a hy fun g4 t2b s4 => wpAny_pure ?_)
  have o4 : IsPair g4 TO x b := s4.extBut _ _ D.oj o3
  refine wpAny_bind (wpAny_seqItems o4 rfl ?_)
  refine wpAny_bind (wpAny_updateSeq_pair o4 fun g5 o5 s5 => ?_)
  replace o5 : IsPair g5 TO x y := o5
  refine wpAny_bind (wpAny_letGo (wpAny_pure (wpAny_pure ?_)))
  refine wpAny_bind (wpAny_seqItems o5 rfl ?_)
  refine wpAny_bind (wpAny_newTuple ?_)
  have sz : g5.objs.size = s.heap.objs.size := by rw [s5.1, s4.1, s3.1, s2.1, s1.1]
  have z5 : IsZip g5 z TI TO .ellipsis := s5.extBut _ _ D.oz.symm (s4.extBut _ _ D.jz.symm (s3.extBut _ _ D.oz.symm (s2.extBut _ _ D.iz.symm z1)))
  have k5 : ∀ c o, c ≠ z → c ≠ TO → c ≠ i → c ≠ j → s.heap.get? c = some o → g5.get? c = some o := fun c o c1 c2 c3 c4 e => s5.extBut _ _ c2 (s4.extBut _ _ c4 (s3.extBut _ _ c2 (s2.extBut _ _ c3 (s1.extBut _ _ c1 e))))
  have t15 : T1 (k + 1) g5 := N1.keep _ _ _ t1b fun b hb o e => by
    have n : b ≠ TO ∧ b ≠ j := hb.elim (fun q => q ▸ ⟨D.oi.symm, D.ij⟩) fun q => ⟨(D.a1 b q).2.1, (D.a1 b q).2.2.2⟩
    exact s5.extBut _ _ n.1 (s4.extBut _ _ n.2 (s3.extBut _ _ n.1 e))
  have t25 : T2 (k + 1) g5 := N2.keep _ _ _ t2b fun b hb o e => s5.extBut _ _ (hb.elim (fun q => q ▸ D.oj.symm) fun q => (D.a2 b q).2.1) e
  have zl : z < g5.objs.size := Heap.lt_size z5
  show wpAny _ _ (Builtin.SmallTypes.ownedTupleHandOut (.ref z) (.ref g5.objs.size) >>= _) _ _ _
  refine wpAny_bind ?_
  unfold Builtin.SmallTypes.ownedTupleHandOut
  have z6 : IsZip (g5.push { cls := .type "tuple", data := .seq #[x, y] }) z TI TO .ellipsis := Heap.get?_push_of_some _ z5
  refine wpAny_bind (wpAny_setField_rec z6 (by simp) fun g7 z7 s7 => ?_)
  replace z7 : IsZip g7 z TI TO (rawInt g5.objs.size) := z7
  refine wpAny_setField_rec z7 (by simp) fun g8 z8 s8 => ?_
  replace z8 : IsZip g8 z TI TO (rawInt g5.objs.size) := z8
  have up : ∀ c o, c ≠ z → g5.get? c = some o → g8.get? c = some o := fun c o c1 e => s8.extBut _ _ c1 (s7.extBut _ _ c1 (Heap.get?_push_of_some _ e))
  have p8 : IsPair g8 g5.objs.size x y := s8.extBut _ _ (Nat.ne_of_gt zl) (s7.extBut _ _ (Nat.ne_of_gt zl) (Heap.get?_push_size _ rfl))
  have q8 : g8.objs.size = g5.objs.size + 1 := by rw [s8.1, s7.1, Heap.size_push]
  rw [sz] at z8 p8 q8
  refine wpAny_pure ⟨_, rfl, wpAny_pure ?_⟩
  rw [sz]
  exact hQ g8 z8 (up _ _ D.oz o5) (N1.keep _ _ _ t15 fun b hb o e => up b o (hb.elim (fun q => q ▸ D.iz) fun q => (D.a1 b q).1) e) (N2.keep _ _ _ t25 fun b hb o e => up b o (hb.elim (fun q => q ▸ D.jz) fun q => (D.a2 b q).1) e) p8 q8 fun c o c1 c2 c3 c4 e => up c o c1 (k5 c o c1 c2 c3 c4 e)
theorem zp_end {k : Nat} {a b : Value} {Q : Option Value → Shared → Prop} (hh : A.handled = none) (D : ZA z TI TO i j f1 f2) (N1 : Nx prog w i f1 T1 e1) (N2 : Nx prog w j f2 T2 e2) (hz : IsZip s.heap z TI TO .none) (hTI : IsPair s.heap TI (.ref i) (.ref j)) (hTO : IsPair s.heap TO a b)
    (t1 : T1 k s.heap) (t2 : T2 k s.heap) (hend : e1 k = none ∨ e2 k = none)
    (hQ : ∀ h', (∀ c o, c ≠ z → c ≠ TO → c ≠ i → c ≠ j → s.heap.get? c = some o → h'.get? c = some o) → Q none { s with heap := h' }) : wpAny (model prog w) A (pyNext (.ref z)) Q E s := by
  have hT : s.TypeIs (.ref z) "zip" := ⟨_, hz, rfl⟩
  have fin : ∀ h' e, (∀ c o, c ≠ z → c ≠ TO → c ≠ i → c ≠ j → s.heap.get? c = some o → h'.get? c = some o) → (∃ o, h'.get? e = some o ∧ o.cls = .type "StopIteration") → wpAny (model prog w) A (do if ← isInstance (.ref e) (.type "StopIteration") then pure none else throw (.ref e)) Q E { s with heap := h' } := fun h' e hk he => by
    obtain ⟨o, ho, hc⟩ := he
    exact wpAny_bind (wpAny_isInstance (T := "StopIteration") (b := true) ⟨o, ho, hc⟩ isSubtype_stop (wpAny_pure (hQ _ hk)))
  unfold pyNext
  refine wpAny_bind (wpAny_attempt (wpAny_callSpecial?_slot (name := Str.ofString "__next__") hT F.slot_zip_next (wpAny_call_entry F.slot_zip_next hT F.entry_zip_next ?_ (F.args_zip_next_1 _))))
  show wpAny _ _ (field (.ref z) 2 >>= _) _ _ _
  refine wpAny_bind (wpAny_field hz rfl (x := .bool false) rfl ?_)
  show wpAny _ _ (field (.ref z) 3 >>= _) _ _ _
  refine wpAny_bind (wpAny_field hz rfl (x := .ref TI) rfl ?_)
  refine wpAny_bind (wpAny_seqItems hTI rfl ?_)
  show wpAny _ _ (Builtin.SmallTypes.ownedTupleIsFree (.ref z) >>= _) _ _ _
  refine wpAny_bind ?_
  unfold Builtin.SmallTypes.ownedTupleIsFree
  refine wpAny_bind (wpAny_field hz rfl (x := .none) rfl (wpAny_pure ?_))
  simp only [if_true]
  refine wpAny_bind (wpAny_rule ?_)
  refine wpAny_bind (wpAny_field hz rfl (x := .ref TO) rfl ?_)
  refine wpAny_bind (wpAny_setField_rec hz (by simp) fun g1 z1 s1 => ?_)
  replace z1 : IsZip g1 z TI TO .ellipsis := z1
  refine wpAny_bind ?_
  simp only [List.zipIdx_cons, List.zipIdx_nil, List.forIn_cons, List.forIn_nil]
  refine wpAny_bind (wpAny_bind (wpAny_onRaise ?_))
  show wpAny _ _ (Builtin.SmallTypes.nextOf (.ref i) >>= _) _ _ _
  have t1a : T1 k g1 := N1.keep k _ _ t1 fun b hb o e => s1.extBut _ _ (hb.elim (fun q => q ▸ D.iz) fun q => (D.a1 b q).1) e
  cases hx : e1 k with
  | none =>
    refine wpAny_bind (N1.done _ k _ _ _ hh t1a hx fun g2 e s2 he => ?_)
    obtain ⟨oe, hoe, hce⟩ := he
    have z2 : IsZip g2 z TI TO .ellipsis := s2 _ _ D.iz.symm z1
    have ez : e ≠ z := fun q => by subst q; rw [z2] at hoe; cases hoe; simp at hce
    exact wpAny_setField_rec z2 (by simp) fun g3 _ s3 => fin g3 e (fun c o c1 _ c3 _ q => s3.extBut _ _ c1 (s2 _ _ c3 (s1.extBut _ _ c1 q))) ⟨oe, s3.extBut _ _ ez hoe, hce⟩
  | some x =>
    have hy : e2 k = none := by rcases hend with h | h; (rw [hx] at h; cases h); exact h
    refine wpAny_bind (N1.next _ k x _ _ _ t1a hx fun g2 t1b s2 => wpAny_pure ?_)
    have o2 : IsPair g2 TO a b := s2.extBut _ _ D.oi (s1.extBut _ _ D.oz hTO)
    refine wpAny_bind (wpAny_seqItems o2 rfl ?_)
    refine wpAny_bind (wpAny_updateSeq_pair o2 fun g3 o3 s3 => ?_)
    refine wpAny_bind (wpAny_letGo (wpAny_pure ?_))
    refine wpAny_bind (wpAny_bind (wpAny_onRaise ?_))
    show wpAny _ _ (Builtin.SmallTypes.nextOf (.ref j) >>= _) _ _ _
    have t2a : T2 k g3 := N2.keep k _ _ t2 fun b hb o e => by
      have n : b ≠ z ∧ b ≠ TO ∧ b ≠ i := hb.elim (fun q => q ▸ ⟨D.jz, D.oj.symm, D.ij.symm⟩) fun q => ⟨(D.a2 b q).1, (D.a2 b q).2.1, (D.a2 b q).2.2.1⟩
      exact s3.extBut _ _ n.2.1 (s2.extBut _ _ n.2.2 (s1.extBut _ _ n.1 e))
    refine wpAny_bind (N2.done _ k _ _ _ hh t2a hy fun g4 e s4 he => ?_)
    obtain ⟨oe, hoe, hce⟩ := he
    have z4 : IsZip g4 z TI TO .ellipsis := s4 _ _ D.jz.symm (s3.extBut _ _ D.oz.symm (s2.extBut _ _ D.iz.symm z1))
    have ez : e ≠ z := fun q => by subst q; rw [z4] at hoe; cases hoe; simp at hce
    exact wpAny_setField_rec z4 (by simp) fun g5 _ s5 => fin g5 e (fun c o c1 c2 c3 c4 q => s5.extBut _ _ c1 (s4 _ _ c4 (s3.extBut _ _ c2 (s2.extBut _ _ c3 (s1.extBut _ _ c1 q))))) ⟨oe, s5.extBut _ _ ez hoe, hce⟩
abbrev zG (h : Heap) (o1 o2 : Obj) : Heap := ((((h.push o1).push o2).push { cls := .type "tuple", data := .seq #[.ref h.objs.size, .ref (h.push o1).objs.size] }).push { cls := .type "tuple", data := .seq #[.none, .none] }).push { cls := .type "zip", data := .fields #[.none, .bool false, .bool false, .ref ((h.push o1).push o2).objs.size, .ref (((h.push o1).push o2).push { cls := .type "tuple", data := .seq #[.ref h.objs.size, .ref (h.push o1).objs.size] }).objs.size] }
abbrev zA (h : Heap) (o1 o2 : Obj) : Addr := ((((h.push o1).push o2).push { cls := .type "tuple", data := .seq #[.ref h.objs.size, .ref (h.push o1).objs.size] }).push { cls := .type "tuple", data := .seq #[.none, .none] }).objs.size
abbrev zO (n : String) (l : Addr) : Obj := { cls := .type n, data := .fields #[.ref l, .int 0 0] }
theorem zG_at (h : Heap) (o1 o2 : Obj) (f1 : o1.isFreed = false) (f2 : o2.isFreed = false) : IsZip (zG h o1 o2) (h.objs.size + 4) (h.objs.size + 2) (h.objs.size + 3) .none ∧ IsPair (zG h o1 o2) (h.objs.size + 2) (.ref h.objs.size) (.ref (h.objs.size + 1)) ∧ IsPair (zG h o1 o2) (h.objs.size + 3) .none .none ∧ (zG h o1 o2).get? h.objs.size = some o1 ∧ (zG h o1 o2).get? (h.objs.size + 1) = some o2 ∧ (zG h o1 o2).objs.size = h.objs.size + 5 ∧ ∀ c o, h.get? c = some o → (zG h o1 o2).get? c = some o := by
  have z1 : (h.push o1).objs.size = h.objs.size + 1 := Heap.size_push ..
  have z2 : ((h.push o1).push o2).objs.size = h.objs.size + 2 := by rw [Heap.size_push, z1]
  have z3 : (((h.push o1).push o2).push { cls := .type "tuple", data := .seq #[.ref h.objs.size, .ref (h.push o1).objs.size] }).objs.size = h.objs.size + 3 := by rw [Heap.size_push, z2]
  have z4 : ((((h.push o1).push o2).push { cls := .type "tuple", data := .seq #[.ref h.objs.size, .ref (h.push o1).objs.size] }).push { cls := .type "tuple", data := .seq #[.none, .none] }).objs.size = h.objs.size + 4 := by rw [Heap.size_push, z3]
  refine ⟨?_, ?_, ?_, ?_, ?_, by rw [Heap.size_push, z4], fun c o e => Heap.get?_push_of_some _ (Heap.get?_push_of_some _ (Heap.get?_push_of_some _ (Heap.get?_push_of_some _ (Heap.get?_push_of_some _ e))))⟩
  · have g : (zG h o1 o2).get? _ = some _ := Heap.get?_push_size _ rfl
    rw [z4, z2, z3] at g
    exact g
  · have g : (zG h o1 o2).get? _ = some _ := Heap.get?_push_of_some _ (Heap.get?_push_of_some _ (Heap.get?_push_size ((h.push o1).push o2) (o := { cls := .type "tuple", data := .seq #[.ref h.objs.size, .ref (h.push o1).objs.size] }) rfl))
    rw [z2, z1] at g
    exact g
  · have g : (zG h o1 o2).get? _ = some _ := Heap.get?_push_of_some _ (Heap.get?_push_size (((h.push o1).push o2).push { cls := .type "tuple", data := .seq #[.ref h.objs.size, .ref (h.push o1).objs.size] }) (o := { cls := .type "tuple", data := .seq #[.none, .none] }) rfl)
    rw [z3] at g
    exact g
  · exact Heap.get?_push_of_some _ (Heap.get?_push_of_some _ (Heap.get?_push_of_some _ (Heap.get?_push_of_some _ (Heap.get?_push_size _ f1))))
  · have g : (zG h o1 o2).get? _ = some _ := Heap.get?_push_of_some _ (Heap.get?_push_of_some _ (Heap.get?_push_of_some _ (Heap.get?_push_size (h.push o1) (o := o2) f2)))
    rw [z1] at g
    exact g
theorem meets_zip_tl (l1 l2 : Addr) (xs ys : Array Value) :
    Meets (Builtin.«zip.__new__» ⟨[.type "zip", .ref l1, .ref l2], []⟩) (fun _ R s => s.heap.IsTuple l1 xs ∧ s.heap.IsList l2 ys ∧ R (.ok (.ret (.ref (zA s.heap (zO "tuple_iterator" l1) (zO "list_iterator" l2))))) { s with heap := zG s.heap (zO "tuple_iterator" l1) (zO "list_iterator" l2) }) :=
  .of_wp fun prog w A R s h => by
    obtain ⟨hp, g, d, tk, os⟩ := s; obtain ⟨hl1, hl2, h⟩ := h
    have hsub := sub_zip
    have hL1 : Heap.IsTuple (Shared.heap ⟨hp, g, d, tk, os⟩) l1 xs := hl1
    have hL2 : Heap.IsList (Shared.heap ⟨hp.push (zO "tuple_iterator" l1), g, d, tk, os⟩) l2 ys := Heap.IsList.push hl2 _
    wp_walk using wpAny_pyIter_tuple hL1, wpAny_pyIter_list hL2
    exact ⟨_, rfl, h⟩
theorem zA_eq (h : Heap) (o1 o2 : Obj) : zA h o1 o2 = h.objs.size + 4 := by
  unfold zA
  rw [Heap.size_push, Heap.size_push, Heap.size_push, Heap.size_push]
theorem call_zip_tl {l1 l2 : Addr} {xs ys : Array Value} {Q : Value → Shared → Prop} (hl1 : s.heap.IsTuple l1 xs) (hl2 : s.heap.IsList l2 ys) (h : Q (.ref (s.heap.objs.size + 4)) { s with heap := zG s.heap (zO "tuple_iterator" l1) (zO "list_iterator" l2) }) :
    wpAny (model prog w) A (call (.type "zip") [.ref l1, .ref l2]) Q E s := by
  refine callType_new F.called_zip (by decide) (F.typeCall_zip_2 _ _) (F.newCall_zip_2 _ _) (fun obj => F.args_object_init_3 obj _ _) F.entry_zip_new (meets_zip_tl l1 l2 xs ys) ⟨hl1, hl2, ?_⟩
  have g := (zG_at s.heap (zO "tuple_iterator" l1) (zO "list_iterator" l2) rfl rfl).1
  show _ ∧ _
  rw [zA_eq]
  exact ⟨⟨_, g, rfl⟩, h⟩
def Itz (K : PySem.W.Frag) (a b : Addr) : It :=
  ⟨fun i H => ∃ xs ys x y, SqT K H a xs ∧ SqL K H b ys ∧ xs[i]? = some x ∧ ys[i]? = some y, fun i H v H' => ∃ p x y, v = .ref p ∧ H p = none ∧ Same H H' ∧ H' p = some (.tup [x, y]) ∧ (∀ xs, SqT K H a xs → xs[i]? = some x) ∧ ∀ ys, SqL K H b ys → ys[i]? = some y, fun i H => ∃ xs ys, SqT K H a xs ∧ SqL K H b ys ∧ (xs.length ≤ i ∨ ys.length ≤ i)⟩
end
end L2

set_option Elab.async false
set_option linter.all false
set_option maxRecDepth 100000
set_option maxHeartbeats 4000000
/-! our own rules: for and comprehensions over zip(tuple, list) -/
namespace L2
open PySem PySem.Spec PyProof.Rows
theorem turn_zip {P : Program} {w : World} {K : PySem.W.Frag} {elts : List Expr} {kk : Nat} {tpos : Pos} {a b z TI TO i1 i2 : Addr} (D : ZA z TI TO i1 i2 [a] [b]) :
    Turn P w K (.Tuple elts kk tpos) (Itz K a b) [z, TI, TO, i1, i2] z (fun i h => IsZip h z TI TO .none ∧ IsPair h TI (.ref i1) (.ref i2) ∧ (∃ x y, IsPair h TO x y) ∧ h.IsTupleIter i1 a i ∧ h.IsListIter i2 b i) where
  mem := by simp
  obj := fun i h st c hc => by
    obtain ⟨h1, h2, ⟨x, y, h3⟩, ⟨o4, e4, c4, d4⟩, ⟨o5, e5, c5, d5⟩⟩ := st
    simp only [List.mem_cons, List.not_mem_nil, or_false] at hc
    rcases hc with rfl | rfl | rfl | rfl | rfl
    · exact ⟨_, h1, fun v q => by
        have q' : Data.fields _ = Data.cell v := q
        cases q'⟩
    · exact ⟨_, h2, fun v q => by
        have q' : Data.seq _ _ = Data.cell v := q
        cases q'⟩
    · exact ⟨_, h3, fun v q => by
        have q' : Data.seq _ _ = Data.cell v := q
        cases q'⟩
    · exact ⟨o4, e4, fun v q => by rw [d4] at q; cases q⟩
    · exact ⟨o5, e5, fun v q => by rw [d5] at q; cases q⟩
  keep := fun i h h' ⟨h1, h2, ⟨x, y, h3⟩, ⟨o4, e4, r4⟩, h5⟩ k => ⟨k z (by simp) _ h1, k TI (by simp) _ h2, ⟨x, y, k TO (by simp) _ h3⟩, ⟨o4, k i1 (by simp) _ e4, r4⟩, h5.at fun o e => k i2 (by simp) o e⟩
  item := by
    intro X hP hw hK hc i pins s σ H E I hf st hg
    subst hP hw hK
    obtain ⟨xs, ys, x, y, hq1, hq2, hx, hy⟩ := hg
    obtain ⟨h1, h2, ⟨p, q, h3⟩, h4, h5⟩ := st
    obtain ⟨its1, rv1, p1, hz1⟩ := I.tuple hq1
    obtain ⟨its2, rv2, p2, hz2⟩ := I.list hq2
    obtain ⟨u, hu, ru⟩ := rv1.get hx
    obtain ⟨v, hv, rv⟩ := rv2.get hy
    have t1 : s.heap.IsTuple a its1.toArray := p1
    have zl : ∀ c ∈ [z, TI, TO, i1, i2], c < s.heap.objs.size := fun c hc => by
      simp only [List.mem_cons, List.not_mem_nil, or_false] at hc
      rcases hc with rfl | rfl | rfl | rfl | rfl
      · exact Heap.lt_size h1
      · exact Heap.lt_size h2
      · exact Heap.lt_size h3
      · obtain ⟨_, e, _⟩ := h4; exact Heap.lt_size e
      · obtain ⟨_, e, _⟩ := h5; exact Heap.lt_size e
    refine zp_item D (nx_tuple i1 a its1.toArray (D.a1 a (by simp)).2.2.1) (nx_list i2 b its2.toArray (D.a2 b (by simp)).2.2.2) h1 h2 h3 ⟨h4, t1⟩ ⟨h5, p2.isList⟩ (x := u) (y := v) (by simpa using hu) (by simpa using hv) fun h' z' o' t1' t2' p' sz' kp => ?_
    refine ⟨_, rfl, wpAny_letOwnedTupleGo_zip z' fun h'' z'' sb => ?_⟩
    have I1 : Inv X pins σ (upd H s.heap.objs.size (.tup [x, y])) { s with heap := s.heap.push { cls := .type "tuple", data := .seq #[u, v] }, toks := s.toks } :=
      I.laid (fun b o q => Heap.get?_push_of_some _ q) (Nat.le_refl _) ⟨by show 2 ≤ sizeLine; decide, [u, v], .cons ru (.cons rv .nil), ⟨_, Heap.get?_push_size _ rfl, rfl, _, rfl⟩⟩
    have hf' : ∀ c ∈ [z, TI, TO, i1, i2], FpOk X pins (upd H s.heap.objs.size (.tup [x, y])) c := fun c hc => by
      refine ⟨?_, (hf c hc).2⟩
      rw [upd_ne (Nat.ne_of_lt (zl c hc))]
      exact (hf c hc).1
    have I2 : Inv X pins σ (upd H s.heap.objs.size (.tup [x, y])) { s with heap := h'', toks := s.toks } := I1.turnedL (t' := s.toks) (fun c o hc q => by
      simp only [List.mem_cons, List.not_mem_nil, or_false, not_or] at hc
      refine (sb.2 c hc.1).trans ?_
      by_cases hT : c = s.heap.objs.size
      · subst hT
        have q' : (s.heap.push { cls := .type "tuple", data := .seq #[u, v] }).get? s.heap.objs.size = some o := q
        rw [Heap.get?_push_size _ rfl] at q'
        cases q'
        exact p'
      · have q' : (s.heap.push { cls := .type "tuple", data := .seq #[u, v] }).get? c = some o := q
        rw [Heap.get?_push_ne _ _ _ hT] at q'
        exact kp c o hc.1 hc.2.2.1 hc.2.2.2.1 hc.2.2.2.2 q') hf'
    have up : ∀ c o, c ≠ z → h'.get? c = some o → h''.get? c = some o := fun c o n e => (sb.2 c n).trans e
    have ti' : h'.get? TI = some _ := kp TI _ D.tz D.to D.ti D.tj h2
    obtain ⟨⟨o4, e4, r4⟩, _⟩ := t1'
    refine ⟨.ref s.heap.objs.size, _, I2, rfl, ⟨_, x, y, rfl, I.hok.fresh (Nat.le_refl _), same_new (I.hok.fresh (Nat.le_refl _)) _, upd_same, fun xs' h => by rw [I.tuple_inj h hq1]; exact hx, fun ys' h => by rw [I.list_inj h hq2]; exact hy⟩, ⟨z'', up _ _ D.tz ti', ⟨_, _, up _ _ D.oz o'⟩, ⟨o4, up _ _ D.iz e4, r4⟩, t2'.1.at fun o e => up _ o D.jz e⟩, fun c hc => (hf' c hc).1⟩
  done := by
    intro X hP hw hK hc i pins s σ H E I hf st hg
    subst hP hw hK
    obtain ⟨xs, ys, hq1, hq2, hx⟩ := hg
    obtain ⟨h1, h2, ⟨p, q, h3⟩, h4, h5⟩ := st
    obtain ⟨its1, rv1, p1, hz1⟩ := I.tuple hq1
    obtain ⟨its2, rv2, p2, hz2⟩ := I.list hq2
    have t1 : s.heap.IsTuple a its1.toArray := p1
    have l1 := rv1.length
    have l2 := rv2.length
    refine zp_end (I.ok.hd hc) D (nx_tuple i1 a its1.toArray (D.a1 a (by simp)).2.2.1) (nx_list i2 b its2.toArray (D.a2 b (by simp)).2.2.2) h1 h2 h3 ⟨h4, t1⟩ ⟨h5, p2.isList⟩ (hx.imp (fun h => by simp; omega) fun h => by simp; omega) fun h' kp => ⟨rfl, I.turnedL (t' := s.toks) (fun c o hc e => ?_) hf⟩
    simp only [List.mem_cons, List.not_mem_nil, or_false, not_or] at hc
    exact kp c o hc.1 hc.2.2.1 hc.2.2.2.1 hc.2.2.2.2 e
  self := fun _ _ _ _ _ st h => wpAny_pyIter_zip st.1 h
theorem ne_nat {a b : Nat} (h : a < b ∨ b < a) : a ≠ b := by omega
theorem za_new (n l1 l2 : Nat) (h1 : l1 < n) (h2 : l2 < n) : ZA (n + 4) (n + 2) (n + 3) n (n + 1) [l1] [l2] := by
  have o : ∀ l : Nat, l < n → l ≠ n + 4 ∧ l ≠ n + 3 ∧ l ≠ n ∧ l ≠ n + 1 := fun l h => ⟨ne_nat (by omega), ne_nat (by omega), ne_nat (by omega), ne_nat (by omega)⟩
  exact ⟨ne_nat (.inl (by omega)), ne_nat (.inl (by omega)), ne_nat (.inl (by omega)), ne_nat (.inl (by omega)), ne_nat (.inl (by omega)), ne_nat (.inr (by omega)), ne_nat (.inr (by omega)), ne_nat (.inr (by omega)), ne_nat (.inr (by omega)), ne_nat (.inl (by omega)), fun c hc => by rw [List.mem_singleton.mp hc]; exact o l1 h1, fun c hc => by rw [List.mem_singleton.mp hc]; exact o l2 h2⟩
def iZip (K : PySem.W.Frag) (ta : TA) : TI := fun σ H R => ta σ H fun vs H1 => ∃ a b, vs = [.ref a, .ref b] ∧ (∃ xs, SqT K H1 a xs) ∧ (∃ ys, SqL K H1 b ys) ∧ R (Itz K a b) H1
theorem pi_zip {X : Cx} {a b : Expr} {ta : TA} {p pos tpos : Pos} {elts : List Expr} {kk : Nat} (hg : Gl X "zip") (hm : X.mg "zip" = none) (ha : PA X [a, b] ta) (hs : starEach [a, b] X.env = (false, eval a X.env) :: starEach [b] X.env := by rfl) (hs2 : starEach [b] X.env = [(false, eval b X.env)] := by rfl) :
    PI X (.Tuple elts kk tpos) (.Call (.Name "zip" p) [a, b] [] pos) (iZip X.K ta) := by
  intro pins s σ H R I h
  refine Call_ (ld_blt I hg hm (show bootBuiltins "zip" = some (.type "zip") by decide +kernel) (PyProof.Rows.callWith_type1 (thn (ha pos pins s σ H _ I h) fun us s1 ⟨vs, H1, I1, r1, q1⟩ => ?_) hs (by rw [hs2]; rfl)))
  obtain ⟨l1, l2, e, ⟨xs, hq1⟩, ⟨ys, hq2⟩, q⟩ := q1
  subst e
  cases r1 with
  | cons r rr =>
    cases rr with
    | cons r' rr =>
      cases rr
      cases r
      cases r'
      obtain ⟨its1, rv1, p1, hz1⟩ := I1.tuple hq1
      obtain ⟨its2, rv2, p2, hz2⟩ := I1.list hq2
      have t1 : s1.heap.IsTuple l1 its1.toArray := p1
      have b1 : l1 < s1.heap.objs.size := by obtain ⟨_, e, _⟩ := t1; exact Heap.lt_size e
      have b2 : l2 < s1.heap.objs.size := by obtain ⟨_, e, _⟩ := p2.isList; exact Heap.lt_size e
      refine call_zip_tl t1 p2.isList ?_
      obtain ⟨z1, z2, z3, z4, z5, z6, z7⟩ := zG_at s1.heap (zO "tuple_iterator" l1) (zO "list_iterator" l2) rfl rfl
      have D : ZA (s1.heap.objs.size + 4) (s1.heap.objs.size + 2) (s1.heap.objs.size + 3) s1.heap.objs.size (s1.heap.objs.size + 1) [l1] [l2] := za_new _ _ _ b1 b2
      refine wpAny_pyIter_zip z1 ⟨_, _, _, _, H1, rfl, I1.kept (t' := s1.toks) z7, turn_zip D, ⟨z1, z2, ⟨_, _, z3⟩, ⟨_, z4, rfl, rfl⟩, ⟨_, z5, rfl, rfl⟩⟩, fun c hc => ?_, q⟩
      have le : s1.heap.objs.size ≤ c := by
        simp only [List.mem_cons, List.not_mem_nil, or_false] at hc
        rcases hc with e | e | e | e | e <;> (rw [e]; first | exact Nat.le_refl _ | exact Nat.le_add_right _ _)
      exact I1.fpOk le (I1.hok.fresh le)
end L2

set_option Elab.async false
set_option linter.all false
set_option maxRecDepth 100000
set_option maxHeartbeats 4000000
/-! our own rules: text.split(sep), tuple(list) -/
namespace L2
open PySem PySem.Spec PyProof.Rows
section
variable {prog : Program} {w : World} {A : Around} {E : Value → Shared → Prop} {s : Shared} {x y : Str} {t u : Tok} {Q : Value → Shared → Prop}
theorem split_at (hy : (y.length == 0) = false) (hsz : x.length ≤ sizeLine) (hs2 : (Txt.split x y).length ≤ sizeLine)
    (h : ∀ l k, l.map (·.1) = Txt.split x y → Q (.ref s.heap.objs.size) { s with toks := k, heap := s.heap.push { cls := .type "list", data := .seq (strValues l).toArray } }) :
    wpAny (model prog w) A (call (.builtin "str.split") [.str x t, .str y u]) Q E s := by
  cases h1 : (decide (x.length < y.length) || decide (Builtin.Str.strKind x < Builtin.Str.strKind y))
  · cases hf : (Builtin.Str.occurrences x y 0 x.length (x.length + 1)).isEmpty
    · have es : Txt.split x y = Builtin.Str.partsBetween x (Builtin.Str.occurrences x y 0 x.length (x.length + 1)) y.length := (if_neg (ne_true_of_eq_false h1)).trans (if_neg (ne_true_of_eq_false hf))
      refine call_meets F.slot_str_split (typeIs_str _ _ _) F.entry_str_split (F.args_str_split_2 _ _) (meets_str_split_sep x y t u h1 hy hf hsz (by rw [← es]; exact hs2)) ?_
      show wants Q E _ { s with toks := _, heap := s.heap.push { cls := .type "list", data := .seq (strsFrom s.toks _).toArray } }
      rw [strsFrom_eq]
      exact h _ _ ((numbered_texts _ _).trans es.symm)
    · exact call_meets F.slot_str_split (typeIs_str _ _ _) F.entry_str_split (F.args_str_split_2 _ _) (meets_str_split_not_found x y t u h1 hy hf) (h [(x, t)] s.toks ((if_neg (ne_true_of_eq_false h1)).trans (if_pos hf)).symm)
  · exact call_meets F.slot_str_split (typeIs_str _ _ _) F.entry_str_split (F.args_str_split_2 _ _) (meets_str_split_cannot_occur x y t u h1) (h [(x, t)] s.toks (if_pos h1).symm)
end
theorem strs_vals : ∀ (l : List (Str × Tok)), Vals ((l.map (·.1)).map V.str) (strValues l)
  | [] => .nil
  | p :: l => .cons ⟨p.2, rfl⟩ (strs_vals l)
def rSplit : V → List V → Hp → VK → Prop := fun x vs H Q => ∃ a y, x = .str a ∧ vs = [.str y] ∧ (y.length == 0) = false ∧ a.length ≤ sizeLine ∧ (Txt.split a y).length ≤ sizeLine ∧ ∀ p H', H p = none → Same H H' → H' p = some (.lst ((Txt.split a y).map V.str)) → Q (.ref p) H'
theorem mt_split {X : Cx} : MtR X "str.split" rSplit := by
  intro pins s σ H x vs v us Q I rx rv h
  obtain ⟨a, y, rfl, rfl, hy, h1, h2, q⟩ := h
  obtain ⟨t, rfl⟩ := rx
  obtain ⟨u, rfl, ru⟩ := rv.one
  obtain ⟨t2, rfl⟩ := ru
  refine split_at hy h1 h2 fun l k e => ?_
  have fr : H s.heap.objs.size = none := I.hok.fresh (Nat.le_refl _)
  have I2 := I.laid (a := s.heap.objs.size) (o := .lst ((Txt.split a y).map V.str)) (t' := k) (h' := s.heap.push { cls := .type "list", data := .seq (strValues l).toArray }) (fun b u e => Heap.get?_push_of_some _ e) (Nat.le_refl _) ⟨by rw [List.length_map]; exact h2, strValues l, 0, by rw [← e]; exact strs_vals l, Heap.get?_push_size _ rfl⟩
  exact ⟨.ref s.heap.objs.size, _, I2, rfl, q _ _ fr (same_new fr _) upd_same⟩
def rTupL : List V → Hp → VK → Prop := fun xs H Q => ∃ l ys, xs = [.ref l] ∧ H l = some (.lst ys) ∧ ∀ p H', H p = none → Same H H' → H' p = some (.tup ys) → Q (.ref p) H'
theorem call_tupL {X : Cx} : CallR X (.type "tuple") rTupL := by
  intro pins s σ H xs us Q I r h
  obtain ⟨l, ys, rfl, hl, q⟩ := h
  obtain ⟨u, rfl, ru⟩ := vals1 r
  cases ru
  obtain ⟨its, rv, pl, hz⟩ := I.list (SqL.of hl)
  have le : its.length ≤ sizeLine := by have := rv.length; omega
  refine call_tuple_list pl.isList (fun h' hk => ?_) (by simpa using le)
  have I1 := I.kept (t' := s.toks) hk
  have fr : H h'.objs.size = none := I1.hok.fresh (Nat.le_refl _)
  have I2 := I1.laid (a := h'.objs.size) (o := .tup ys) (t' := s.toks) (h' := h'.push { cls := .type "tuple", data := .seq its.toArray }) (fun b u e => Heap.get?_push_of_some _ e) (Nat.le_refl _) ⟨hz, its, rv, ⟨_, Heap.get?_push_size _ rfl, rfl, _, rfl⟩⟩
  exact ⟨.ref h'.objs.size, _, I2, rfl, q _ _ fr (same_new fr _) upd_same⟩
end L2

set_option Elab.async false
set_option linter.all false
set_option maxRecDepth 100000
set_option maxHeartbeats 4000000
/-! our own rules: a dict that is a module's constant; comprehensions over zip -/
namespace L2
open PySem PySem.Spec PyProof.Rows
def KD (P : Program) (w : World) (K : PySem.W.Frag) (a : Addr) (kvs : List (Key × V)) : Prop := ∃ (o : Obj) (vs : List (Key × Value)), K.lookup a = some o ∧ (a == sysModules) = false ∧ KV kvs vs ∧ ∀ h : Heap, h.get? a = some o → h.DictOf (mixKind P w) a vs
section
variable {X : Cx} {i o : Expr} {ty : TE} {pos : Pos} {a : Addr} {kvs : List (Key × V)}
theorem pe_dgetK (kd : KD X.prog X.w X.K a kvs) (ho : PE X o (tC (.ref a))) (hi : PE X i ty) (hs : NoSl i) : PE X (.Subscript o i pos) (fun σ H Q => ty σ H fun y H2 => ∃ k v, keyOf y = some k ∧ valV kvs k = some v ∧ Q v H2) := by
  obtain ⟨ob, vs, h1, h2, h3, h4⟩ := kd
  intro pins s σ H Q I h
  refine subD_of PySem.F.slot_dict_getitem.lookup hs (thn (ho pins s σ H (fun x H1 => x = .ref a ∧ ty σ H1 fun y H2 => ∃ k v, keyOf y = some k ∧ valV kvs k = some v ∧ Q v H2) I ⟨rfl, h⟩) fun u s1 ⟨x, H1, I1, rx, ex, q1⟩ => thn (hi pins s1 σ H1 _ I1 q1) fun iv s2 ⟨y, H2, I2, ry, k, v, ek, ev, q2⟩ => ?_)
  subst ex
  obtain rfl : u = Value.ref a := rx
  have dd := h4 _ (I2.kIn a ob h1)
  obtain ⟨w', hw, rw'⟩ := RelO.some_of (v := v) (o := valueAt vs k) (by rw [← ev]; exact h3.val k)
  rw [kV_of ek] at ry
  exact ⟨dd.typeIs, wpAny_getItem_of (kV_is ry) dd.mapOf hw ⟨v, H2, I2.tok _, rw', q2⟩⟩
theorem pc_dnotinK (kd : KD X.prog X.w X.K a kvs) (hi : PE X i ty) (ho : PE X o (tC (.ref a))) : PC X .NotIn i o (fun σ H Q => ty σ H fun y H2 => ∃ k, keyOf y = some k ∧ Q (.bl (!(valV kvs k).isSome)) H2) := by
  obtain ⟨ob, vs, h1, h2, h3, h4⟩ := kd
  intro pins s σ H Q I h
  refine thn (hi pins s σ H _ I h) fun iv s1 ⟨y, H1, I1, ry, k, ek, q1⟩ => thn (ho pins s1 σ H1 (fun x H2 => x = .ref a ∧ Q (.bl (!(valV kvs k).isSome)) H2) I1 ⟨rfl, q1⟩) fun u s2 ⟨x, H2, I2, rx, ex, q2⟩ => ?_
  subst ex
  obtain rfl : u = Value.ref a := rx
  have dd := h4 _ (I2.kIn a ob h1)
  rw [kV_of ek] at ry
  refine wpAny_notIn_of (kV_is ry) h2 dd.mapOf ?_
  rw [← (h3.val k).isSome_eq]
  exact ⟨.bl _, H2, I2.tok _, rfl, q2⟩
end
theorem compJ_zip {K : PySem.W.Frag} {a b : Addr} {xs ys : List V} {g : TG} {tc : TT} {te : TE} {cs : St} {H1 : Hp} {Q : VK} (ha : ∀ H, Same H1 H → SqT K H a xs) (hb : H1 b = some (.lst ys)) (el : xs.length = ys.length) (sz : ys.length < sizeLine) (Pv : Addr → Nat → List V → St → Hp → Prop)
    (h0 : ∀ D H', H1 D = none → Same H1 H' → H' D = some (.lst []) → Pv D 0 [] cs H')
    (hs : ∀ D i x y zs σ1 H' p H'', xs[i]? = some x → ys[i]? = some y → At ys H1 D i zs H' → Pv D i zs σ1 H' → H' p = none → Same H' H'' → H'' p = some (.tup [x, y]) → g (.ref p) σ1 H'' fun σ2 H2 => tc σ2 H2 fun b H3 => if b = true then te σ2 H3 fun v H4 => Put ys H1 D (Pv D) i σ2 v H4 else Skip ys H1 D (Pv D) i σ2 H3)
    (hd : ∀ D zs σ1 H', H1 D = none → Same H1 H' → H' D = some (.lst zs) → zs.length ≤ ys.length → Pv D ys.length zs σ1 H' → Q (.ref D) H') : CompJ (Itz K a b) g tc te cs H1 Q := by
  intro D hD
  refine ⟨CW ys H1 D (Pv D), ⟨_, rfl, Nat.zero_le _, same_new hD _, [], upd_same, Nat.le_refl _, h0 D _ hD (same_new hD _) upd_same⟩, ?_⟩
  rintro i m σ1 H ⟨rfl, hi, sm, zs, hz, lz, p⟩
  have q1 := ha _ sm
  have q2 : SqL K H b ys := SqL.of (sm _ _ hb)
  by_cases hlt : i < ys.length
  · have hx : xs[i]? = some (xs[i]'(by omega)) := List.getElem?_eq_getElem _
    have hy : ys[i]? = some ys[i] := List.getElem?_eq_getElem hlt
    refine .inr ⟨⟨xs, ys, _, _, q1, q2, hx, hy⟩, fun v H' yd => ?_⟩
    obtain ⟨pp, x, y, rfl, hn, sm2, hp, ex, ey⟩ := yd
    exact hs D i x y zs σ1 H pp H' (ex xs q1) (ey ys q2) ⟨hD, hlt, sz, sm, hz, lz⟩ p hn sm2 hp
  · have e : i = ys.length := by omega
    subst e
    exact .inl ⟨⟨xs, ys, q1, q2, .inr (Nat.le_refl _)⟩, hd D zs σ1 _ hD sm hz lz p⟩
end L2

set_option Elab.async false
set_option linter.all false
set_option maxRecDepth 100000
set_option maxHeartbeats 4000000
/-! our own rules: a comprehension whose element may raise -/
namespace L2
open PySem PySem.Spec PyProof.Rows
theorem noteFrame_eq {e : Value} {a b : Env} (h : a.frame = b.frame) : noteFrame e a = noteFrame e b := by
  unfold noteFrame PySem.frameOf
  rw [h]
theorem funs_slots {base h h' : Heap} : ∀ (l : List Env), (∀ b ∈ frs l, ∀ o, h.get? b = some o → ∃ sl, h'.get? b = some { o with slots := sl }) → h.FunFrames base l → h'.FunFrames base l
  | [], _, _ => trivial
  | env :: r, k, hl => by
    obtain ⟨hk, ⟨L, o, hf, hn, ho, hd⟩, hr⟩ := hl
    have hL : L ∈ frs (env :: r) := by unfold frs; rw [List.filterMap_cons, hf]; exact List.mem_cons_self
    obtain ⟨sl, e⟩ := k L hL o ho
    exact ⟨hk, ⟨L, _, hf, hn, e, hd⟩, funs_slots r (fun b hb => k b (by unfold frs; rw [List.filterMap_cons, hf]; exact List.mem_cons_of_mem _ hb)) hr⟩
section
variable {M : Model} {A : Around} {E : Value → Shared → Prop} {s : Shared} {base : Heap} {env : Env} {outer : List Env} {L x : Addr} {oe : Obj} {vs : Array Value} {Q : Unit → Shared → Prop}
theorem entry_exact2 {head : Value} {had : Bool} (hfr : A.frames = some (env :: outer)) (hl : s.heap.FunFrames base (env :: outer)) (hf : env.frame = some L) (hx : s.heap.get? x = some oe) (hd : oe.data = .fields vs) (hsz : 1 < vs.size) (hdc : oe.dict = none)
    (h : ∀ h' T, Kept x [] (frs (env :: outer)) s.heap h' → s.heap.objs.size ≤ T → s.heap.objs.size ≤ h'.objs.size → Fly h' x T oe.cls (rawInt L) → Q () { s with heap := h' }) :
    wpAny M A (do let a ← frameOf env; let pl ← entryPlaceOf L had; let b ← EntryCells.newEntry head a .none (rawInt L) .none pl; setField (.ref x) 1 b) Q E s := by
  have xfr : x ∉ frs (env :: outer) := fun z => by
    obtain ⟨_, o, q, no⟩ := hl.mem z
    exact no vs (by rw [hx] at q; cases q; exact hd)
  refine wpAny_bind (wpAny_frameOf_fun hfr hl hf fun g so => wpAny_bind (wpAny_entryPlaceOf fun pl hpl => ?_))
  unfold EntryCells.newEntry newFields
  refine wpAny_bind (wpAny_newObj_type ?_ (hpl.sizeOk5 _ _ _ _ _))
  have gx : g.get? x = some oe := (so.2.1 x xfr).trans hx
  have gx' := Heap.get?_push_of_some (h := g) { cls := .type "traceback", dict := none, data := .fields ([head, .ref L, .none, rawInt L, .none] ++ (if pl.isEmpty then List.replicate 6 Value.none else pl)).toArray } gx
  have ne : g.objs.size ≠ x := Nat.ne_of_gt (Heap.lt_size gx)
  have nd := Obj.data_mapFields hd (·.setIfInBounds 1 (Value.ref g.objs.size))
  have hT := (Heap.get?_update_other (g.push { cls := .type "traceback", dict := none, data := .fields ([head, .ref L, .none, rawInt L, .none] ++ (if pl.isEmpty then List.replicate 6 Value.none else pl)).toArray }) (Obj.mapFields (·.setIfInBounds 1 (Value.ref g.objs.size))) (Ne.symm ne)).trans (Heap.get?_push_size g rfl)
  refine wpAny_setField gx' hd hsz (h _ g.objs.size ⟨fun b o q n1 _ n3 => ?_, fun b o q n1 _ => ?_⟩ (by rw [so.1]; exact Nat.le_refl _) ?_ ⟨_, _, _, _, Heap.get?_update_self _ gx' (Obj.isFreed_of_fields nd), Obj.cls_mapFields _ _, (dict_mapFields _ _).trans hdc, nd, by simp [hsz], ne, hT, rfl, by simp⟩)
  · rw [Heap.get?_update_other _ _ (Ne.symm n1)]
    exact Heap.get?_push_of_some _ ((so.2.1 b n3).trans q)
  · obtain ⟨sl, r⟩ := so.2.2 b o q
    exact ⟨sl, by rw [Heap.get?_update_other _ _ (Ne.symm n1)]; exact Heap.get?_push_of_some _ r⟩
  · rw [Heap.size_update, Heap.size_push, so.1]
    exact Nat.le_succ _
theorem note_any {T : Addr} {cls fl : Value} (hfr : A.frames = some (env :: outer)) (hl : s.heap.FunFrames base (env :: outer)) (hf : env.frame = some L) (F : Fly s.heap x T cls fl)
    (h : ∀ h' T', Kept x [T] (frs (env :: outer)) s.heap h' → ((T' = T ∧ fl = rawInt L) ∨ s.heap.objs.size ≤ T') → s.heap.objs.size ≤ h'.objs.size → Fly h' x T' cls (rawInt L) → Q () { s with heap := h' }) : wpAny M A (noteFrame (.ref x) env) Q E s := by
  obtain ⟨oe, vs, oT, ts, hx, hc, hdc, hd, h1, ne, hT, hdT, h3⟩ := F.ex
  subst hc
  unfold noteFrame
  simp only [hf]
  refine wpAny_bind (wpAny_field hx hd h1 ?_)
  rw [if_pos (by simp)]
  refine wpAny_bind (wpAny_field hT hdT h3 ?_)
  by_cases z : fl = rawInt L
  · rw [if_pos (by rw [z]; simp)]
    refine wpAny_pure ?_
    exact h s.heap T ⟨fun b o q _ _ _ => q, fun b o q _ _ => ⟨o.slots, q⟩⟩ (.inl ⟨rfl, z⟩) (Nat.le_refl _) (z ▸ F)
  · rw [if_neg (by simpa using z)]
    refine wpAny_bind (wpAny_setField hT hdT (Array.getElem?_eq_some_iff.mp h3).1 ?_)
    have ot : ∀ b, b ≠ T → (s.heap.update T (Obj.mapFields (·.setIfInBounds 3 Value.none))).get? b = s.heap.get? b := fun b n => Heap.get?_update_other _ _ (Ne.symm n)
    have szu : (s.heap.update T (Obj.mapFields (·.setIfInBounds 3 Value.none))).objs.size = s.heap.objs.size := Heap.size_update _ _ _
    refine entry_exact2 (base := base) hfr (hl.of_keeps fun b o q no => ⟨o, (ot b fun z => no ts (by rw [z, hT] at q; cases q; exact hdT)).trans q, rfl⟩) hf ((ot x (Ne.symm ne)).trans hx) hd (Array.getElem?_eq_some_iff.mp h1).1 hdc fun h' T' k n n' f => h h' T' ⟨fun b o q n1 n2 n3 => ?_, fun b o q n1 n2 => ?_⟩ (.inr (by rw [← szu]; exact n)) (by rw [← szu]; exact n') f
    · exact k.keep b o ((ot b fun z => n2 (by rw [z]; exact List.mem_singleton_self _)).trans q) n1 (by simp) n3
    · exact k.slot b o ((ot b fun z => n2 (by rw [z]; exact List.mem_singleton_self _)).trans q) n1 (by simp)
theorem flight_any {T : Addr} {cls fl : Value} (fr : Option Addr) (F : Fly s.heap x T cls fl) (h : ∀ h' fl', (∀ b, b ≠ T → h'.get? b = s.heap.get? b) → h'.objs.size = s.heap.objs.size → Fly h' x T cls fl' → Q () { s with heap := h' }) : wpAny M A (setFlight (.ref x) fr) Q E s := by
  obtain ⟨oe, vs, oT, ts, hx, hc, hdc, hd, h1, ne, hT, hdT, h3⟩ := F.ex
  unfold setFlight
  refine wpAny_bind (wpAny_field hx hd h1 ?_)
  rw [if_pos (by simp)]
  have ot : ∀ b, b ≠ T → (s.heap.update T (Obj.mapFields (·.setIfInBounds 3 (fr.elim Value.none fun f => rawInt f)))).get? b = s.heap.get? b := fun b n => Heap.get?_update_other _ _ (Ne.symm n)
  have sz := (Array.getElem?_eq_some_iff.mp h3).1
  exact wpAny_setField hT hdT sz (h _ (fr.elim Value.none fun f => rawInt f) ot (Heap.size_update _ _ _) ⟨oe, vs, _, _, (ot x (Ne.symm ne)).trans hx, hc, hdc, hd, h1, ne, Heap.get?_update_self _ hT (Obj.isFreed_of_fields (Obj.data_mapFields hdT _)), Obj.data_mapFields hdT _, by simp [sz]⟩)
end
/-! ### the element's own context -/
def Thru (X : Cx) (C : Addr) (env : Env) : Value → Shared → Prop := notedBy (model X.prog X.w) X.A env fun x s' => ∃ m, s'.heap.Ns C m ∧ ∀ h', Heap.SameBut C s'.heap h' → ∀ cenv : Env, cenv.locals = C →
  wpAny (model X.prog X.w) X.A (passOn "comprehension.variables-let-go" x cenv : Sem Value) (fun _ _ => False) X.xe { s' with heap := h' }
abbrev Cx.compR (X : Cx) (scope : Scope) (cl : List (Str × Addr)) (N : List Str) (C : Addr) (fp : List Addr) (s₀ : Shared) (H₀ : Hp) : Cx :=
  { X.comp scope cl N C fp s₀ H₀ with xe := Thru X C (compEnvC scope cl C X.env) }
section
variable {X : Cx} {scope : Scope} {cl : List (Str × Addr)} {N : List Str} {C : Addr} {fp : List Addr} {s₀ : Shared} {H₀ : Hp} {pins : List (Addr × Obj)} {σ : St} {H : Hp} {s : Shared}
theorem Inv.toR (I : Inv (X.comp scope cl N C fp s₀ H₀) pins σ H s) : Inv (X.compR scope cl N C fp s₀ H₀) pins σ H s :=
  have ok := I.ok
  ⟨⟨ok.mod, ok.kind, ok.glob, ok.blt, ok.above, ok.inj, ok.has, ok.cab, ok.hd, ok.frames, ok.stk, ok.exf, ok.bs, ok.bsz, ok.noex, ok.exfs, ok.funs, ok.frf⟩, I.os, I.bare, I.base, I.loc, I.cell, I.free, I.freeC, I.pin, I.hok, I.len⟩
theorem Inv.ofR (I : Inv (X.compR scope cl N C fp s₀ H₀) pins σ H s) : Inv (X.comp scope cl N C fp s₀ H₀) pins σ H s :=
  have ok := I.ok
  ⟨⟨ok.mod, ok.kind, ok.glob, ok.blt, ok.above, ok.inj, ok.has, ok.cab, ok.hd, ok.frames, ok.stk, ok.exf, ok.bs, ok.bsz, ok.noex, ok.exfs, ok.funs, ok.frf⟩, I.os, I.bare, I.base, I.loc, I.cell, I.free, I.freeC, I.pin, I.hok, I.len⟩
def In0 (X : Cx) (C : Addr) (fp : List Addr) (s₀ : Shared) (H₀ : Hp) : Prop := ∃ pins σ, Inv X pins σ H₀ s₀ ∧ (∀ b ∈ fp, FpOk X pins H₀ b ∧ b < s₀.heap.objs.size) ∧ C = s₀.heap.objs.size
end
section
variable {P : Program} {w : World} {K : PySem.W.Frag} {mg : Str → Option Value} {base : Heap} {N : List Str} {qual : Str} {scope : Scope} {f : Addr} {cd : Value} {A : Around} {outer : List Env} {s : Shared} {H : Hp} {E : XK}
theorem passC {sc : Scope} {cl : List (Str × Addr)} {N' : List Str} {C : Addr} {fp : List Addr} {s₀ : Shared} {H₀ : Hp} (O : In0 (cxOf (CXr P w) P w K mg base N qual scope f cd A outer s H E) C fp s₀ H₀) :
    Passes (CXr P w) ((cxOf (CXr P w) P w K mg base N qual scope f cd A outer s H E).compR sc cl N' C fp s₀ H₀) E := by
  obtain ⟨pX, σX, I0, f0, rfl⟩ := O
  intro pins σ H1 s1 e s' I h
  obtain ⟨x, T, cls, H', rfl, os, bare, un, hok, F, hx, hT, hxH, hTH, he⟩ := h
  have I' := I.raised os bare un hok
  have Io : Inv (cxOf (CXr P w) P w K mg base N qual scope f cd A outer s H E) pX σX H' s' := I0.call' I'.os I'.base I'.hok I'.bare fun b hb => ⟨(f0 b hb).1.2.2.2.1, (f0 b hb).1.2.1, (f0 b hb).1.2.2.2.2.1, (f0 b hb).1.2.2.2.2.2⟩
  have s0s : s.heap.objs.size ≤ s₀.heap.objs.size := I0.sz
  have fresh : ∀ b, s1.heap.get? b = none → s.heap.get? b = none := fun b hb => by
    cases q : s.heap.get? b with
    | none => rfl
    | some o =>
      obtain ⟨o1, r⟩ := I0.base.there b o q (by simp [cxOf])
      by_cases z : b ∈ fp
      · rcases (f0 b z).1.2.2.2.1 with y | y
        · simp [cxOf] at y
        · exact absurd (Nat.lt_of_lt_of_le (Heap.lt_size q) y) (Nat.lt_irrefl _)
      · obtain ⟨o2, r2⟩ := I.base.there b o1 r z
        rw [hb] at r2; cases r2
  obtain ⟨m1, hm1, _⟩ := I.loc
  obtain ⟨m', hm', _⟩ := I'.loc
  have Cin : ∃ o, s'.heap.get? s₀.heap.objs.size = some o := by obtain ⟨o, _, _, q, _⟩ := hm'; exact ⟨o, q⟩
  have Cin1 : ∃ o, s1.heap.get? s₀.heap.objs.size = some o := by obtain ⟨o, _, _, q, _⟩ := hm1; exact ⟨o, q⟩
  have Cx' : s₀.heap.objs.size ≠ x := fun z => by obtain ⟨o, q⟩ := Cin1; rw [z, hx] at q; cases q
  have CT : s₀.heap.objs.size ≠ T := fun z => by obtain ⟨o, q⟩ := Cin1; rw [z, hT] at q; cases q
  have Cfr : s₀.heap.objs.size ∉ frs (envOfC qual scope s.heap.objs.size f cd :: outer) := fun z => by
    obtain ⟨_, o, q, _⟩ := (I0.stack).mem z
    exact absurd (Heap.lt_size q) (Nat.lt_irrefl _)
  have stk' := Io.stack
  show wpAny (model P w) (A.deeper (envOfC qual scope s.heap.objs.size f cd)) (noteFrame (.ref x) (compEnvC sc cl s₀.heap.objs.size (envOfC qual scope s.heap.objs.size f cd))) _ _ s'
  rw [noteFrame_eq (a := compEnvC sc cl s₀.heap.objs.size (envOfC qual scope s.heap.objs.size f cd)) (b := envOfC qual scope s.heap.objs.size f cd) rfl]
  refine note_any (base := base) Io.ok.frames stk' rfl F fun h1 T1 k1 n1 z1 F1 => ⟨m', hm'.at' fun o e => ?_, fun h2 sb cenv _ => ?_⟩
  · exact k1.keep _ o e Cx' (fun z => CT (List.mem_singleton.mp z)) Cfr
  have n1 : s'.heap.objs.size ≤ T1 := n1.resolve_left fun z => absurd z.2 (by simp [rawInt])
  have F1x := F1
  obtain ⟨oe, vs, oT, ts, hx1, hc1, hdc1, hd1, h11, ne1, hT1, hdT1, h31⟩ := F1x.ex
  have T1C : T1 ≠ s₀.heap.objs.size := fun z => by
    obtain ⟨o, q⟩ := Cin
    rw [← z] at q
    exact absurd (Nat.lt_of_lt_of_le (Heap.lt_size q) n1) (Nat.lt_irrefl _)
  have F2 : Fly h2 x T1 cls (rawInt (s.heap.objs.size)) := ⟨oe, vs, oT, ts, (sb.2 x (Ne.symm Cx')).trans hx1, hc1, hdc1, hd1, h11, ne1, (sb.2 T1 T1C).trans hT1, hdT1, h31⟩
  unfold PySem.passOn
  refine wpAny_bind (wpAny_field (s := { s' with heap := h2 }) ((sb.2 x (Ne.symm Cx')).trans hx1) hd1 h11 ?_)
  rw [if_neg (by simp)]
  refine wpAny_bind (flight_any cenv.frame F2 fun h3 fl3 o3 z3 F3 => wpAny_throw ?_)
  show wpAny (model P w) (A.deeper (envOfC qual scope s.heap.objs.size f cd)) (leaving (envOfC qual scope s.heap.objs.size f cd) (.ref x)) _ _ _
  unfold leaving
  have sl3 : ∀ b o, s'.heap.get? b = some o → b ≠ x → b ≠ T → b ≠ s₀.heap.objs.size → b ≠ T1 → ∃ sl, h3.get? b = some { o with slots := sl } := fun b o q a1 a2 a3 a4 => by
    obtain ⟨sl, r⟩ := k1.slot b o q a1 (by simpa using a2)
    exact ⟨sl, (o3 b a4).trans ((sb.2 b a3).trans r)⟩
  have fl : h3.FunFrames base (envOfC qual scope s.heap.objs.size f cd :: outer) := by
    refine funs_slots _ (fun b hb o q => ?_) stk'
    obtain ⟨_, o', q', no⟩ := stk'.mem hb
    rw [q] at q'; cases q'
    obtain ⟨oe0, vs0, oT0, ts0, hx0, _, _, hd0, _, _, hT0, hdT0, _⟩ := F.ex
    refine sl3 b o q (fun z => no vs0 ?_) (fun z => no ts0 ?_) (fun z => Cfr (z ▸ hb)) fun z => ?_
    · rw [z, hx0] at q; cases q; exact hd0
    · rw [z, hT0] at q; cases q; exact hdT0
    · rw [z] at q; exact absurd (Nat.lt_of_lt_of_le (Heap.lt_size q) n1) (Nat.lt_irrefl _)
  refine wpAny_bind (note_any (base := base) Io.ok.frames fl rfl F3 fun h4 T4 k4 n4 z4 F4 => ?_)
  refine flight_exact F4 fun h5 o5 F5 => ?_
  have z3' : s'.heap.objs.size ≤ h3.objs.size := by
    have e3 : h3.objs.size = h2.objs.size := z3
    rw [e3, sb.1]; exact z1
  have n4' : s'.heap.objs.size ≤ T4 := by
    rcases n4 with ⟨y, _⟩ | y
    · rw [y]; exact n1
    · exact Nat.le_trans z3' y
  have out : ∀ b, s'.heap.objs.size ≤ b → s.heap.get? b = none ∧ H' b = none := fun b hb => by
    have nb : s'.heap.get? b = none := Heap.get?_none_of_le hb
    refine ⟨?_, ?_⟩
    · cases q : s.heap.get? b with
      | none => rfl
      | some o =>
        obtain ⟨o1, r⟩ := Io.base.there b o q (by simp [cxOf])
        rw [nb] at r; cases r
    · cases q : H' b with
      | none => rfl
      | some u =>
        obtain ⟨o1, r⟩ := Io.tracked q
        rw [nb] at r; cases r
  have neT : ∀ b o, s'.heap.get? b = some o → ∀ t, s'.heap.objs.size ≤ t → b ≠ t := fun b o q t ht z => by
    rw [z] at q
    exact absurd (Nat.lt_of_lt_of_le (Heap.lt_size q) ht) (Nat.lt_irrefl _)
  refine left_cx Io (ts := [T, s₀.heap.objs.size]) (fresh x hx) hxH (fun b hb => ?_) he ⟨fun b o q a1 a2 a3 => ?_, fun b o q a1 a2 => ?_⟩ (Heap.get?_none_of_le n4') F5
  · simp only [List.mem_cons, List.not_mem_nil, or_false] at hb
    rcases hb with rfl | rfl
    · exact ⟨fresh _ hT, hTH⟩
    · exact ⟨Heap.get?_none_of_le s0s, I'.free⟩
  · simp only [List.mem_cons, List.not_mem_nil, or_false, not_or] at a2
    have b1 := neT b o q T1 n1
    have b4 := neT b o q T4 n4'
    have r3 : h3.get? b = some o := (o3 b b1).trans ((sb.2 b a2.2).trans (k1.keep b o q a1 (by simpa using a2.1) a3))
    exact (o5 b b4).trans (k4.keep b o r3 a1 (by simpa using b1) a3)
  · simp only [List.mem_cons, List.not_mem_nil, or_false, not_or] at a2
    have b1 := neT b o q T1 n1
    have b4 := neT b o q T4 n4'
    obtain ⟨sl, r3⟩ := sl3 b o q a1 a2.1 a2.2 b1
    obtain ⟨sl', r4⟩ := k4.slot b _ r3 a1 (by simpa using b1)
    exact ⟨sl', (o5 b b4).trans r4⟩
end
section
variable {X : Cx} {scope : Scope} {cl : List (Str × Addr)} {N : List Str} {cap : List Nat} {k : Nat} {tg : Expr} {g : TG} {pos : Pos} {iter elt : Expr} {ifs : List Expr} {wi : TI} {tc : TT} {te : TE}
theorem comp_coreR {use : Option (Value → Sem Unit)} {Qv : Value → Shared → Prop} {pins : List (Addr × Obj)} {s : Shared} {σ : St} {H : Hp} {Q : VK} {pos' : Pos} (S : CompScopeN X scope cl N cap k) (hc : X.calm = true) (hi : PI X tg iter wi) (hg : ∀ C fp s₀ H₀, PG (X.comp scope cl N C fp s₀ H₀) tg g)
    (ht : ∀ C fp s₀ H₀, PTs (X.comp scope cl N C fp s₀ H₀) ifs tc) (he : ∀ C fp s₀ H₀, In0 X C fp s₀ H₀ → PE (X.compR scope cl N C fp s₀ H₀) elt te) (hs : ∀ x, foldedSetIterable iter X.env x = pure x)
    (I : Inv X pins σ H s) (h : tCompN k cap wi g tc te σ H Q)
    (fin : ∀ (D C : Addr) (H6 : Hp) (s6 : Shared) (m : Str → Option Value), Inv X pins σ H6 s6 → FpOk X pins H6 C → s6.heap.Ns C m → Q (.ref D) H6 → compPost (model X.prog X.w) X.A X.xe use Qv (.ref D) C (.ok .next) s6) :
    wpAny (model X.prog X.w) X.A (comprehension (.ListComp elt [⟨tg, iter, ifs, 0⟩] scope pos) scope X.env pos' (newList []) false (eval iter X.env) use) Qv X.xe s := by
  refine wpAny_comprehension_free (use := use) rfl hs (S.clos I.ok) S.kind S.names (thn (hi pins s σ H _ I h) fun v s1 h1 => thn h1 fun itv s2 h2 => ?_)
  obtain ⟨it, fp, tn, J, H2, rfl, I2, T, st2, f2, q⟩ := h2
  obtain ⟨W, ⟨m0, w0⟩, turn⟩ := q s2.heap.objs.size (I2.hok.fresh (Nat.le_refl _))
  have I3 : Inv X pins σ (upd H2 s2.heap.objs.size (.lst [])) { s2 with heap := s2.heap.push { cls := .type "list", dict := none, data := .seq ([] : List Value).toArray } } :=
    I2.laid (t' := s2.toks) (fun b u e => Heap.get?_push_of_some _ e) (Nat.le_refl _) ⟨Nat.zero_le _, [], 0, .nil, Heap.get?_push_size _ rfl⟩
  refine wpAny_newObj_type (wpAny_newFunctionEnv S.ncell (by intro y hy; simp at hy) (fun h4 hns hsb => ?_) S.kind)
  generalize hs3 : ({ s2 with heap := s2.heap.push { cls := .type "list", dict := none, data := .seq ([] : List Value).toArray } } : Shared) = s3 at I3 hns hsb ⊢
  have f3 : ∀ b ∈ fp, FpOk X pins (upd H2 s2.heap.objs.size (.lst [])) b ∧ b < s3.heap.objs.size := fun b hb => by
    obtain ⟨o, ho, _⟩ := T.obj _ _ st2 b hb
    have l1 : b < s2.heap.objs.size := Heap.lt_size ho
    refine ⟨⟨?_, (f2 b hb).2⟩, ?_⟩
    · rw [upd_ne (Nat.ne_of_lt l1)]; exact (f2 b hb).1
    · rw [← hs3, Heap.size_push]; exact Nat.lt_succ_of_lt l1
  have nsN : h4.Ns s3.heap.objs.size fun _ => none := by
    have := hns
    simpa using this
  have keep4 : ∀ b o, s3.heap.get? b = some o → h4.get? b = some o := fun b o e => (hsb.2 b (Nat.ne_of_lt (Heap.lt_size e))).trans (Heap.get?_push_of_some _ e)
  have Ic := I3.enterN (tk := s3.toks + ([] : List (Str × Value)).length) S f3 nsN keep4
  have st4 : tn 0 h4 := T.keep _ _ _ st2 fun b hb o e => keep4 b o (by rw [← hs3]; exact Heap.get?_push_of_some _ e)
  have stat : ∀ {H' : Hp}, (∀ b ∈ fp, H' b = none) → ∀ b ∈ fp, FpOk (X.comp scope cl N s3.heap.objs.size fp s3 (upd H2 s2.heap.objs.size (.lst []))) [] H' b := fun hn b hb =>
    ⟨hn b hb, Nat.ne_of_lt (f3 b hb).2, fun z => (List.mem_cons.mp (I3.stkSub b z)).elim (fun q => (f3 b hb).1.2.1 q) fun q => (f3 b hb).1.2.2.1 q, .inl hb, fun y c e => (f3 b hb).1.2.2.2.2.1 y c (S.sub I.ok y c e), fun p hp => by simp at hp⟩
  have out : ∀ {σx : St} {H6 : Hp} {s6 : Shared}, Inv (X.comp scope cl N s3.heap.objs.size fp s3 (upd H2 s2.heap.objs.size (.lst []))) [] σx H6 s6 → Q (.ref s2.heap.objs.size) H6 →
      compPost (model X.prog X.w) X.A X.xe use Qv (Value.ref s2.heap.objs.size) s3.heap.objs.size (.ok .next) s6 := fun {σx H6 s6} I6 q6 => by
    obtain ⟨m, hm, _⟩ := I6.loc
    have Io : Inv X pins σ H6 s6 := I3.call' I6.os I6.base I6.hok I6.bare fun b hb => ⟨(f3 b hb).1.2.2.2.1, (f3 b hb).1.2.1, (f3 b hb).1.2.2.2.2.1, (f3 b hb).1.2.2.2.2.2⟩
    exact fin _ _ _ _ m Io (I3.fpOk (b := s3.heap.objs.size) (H' := H6) (Nat.le_refl _) I6.free) hm q6
  have loop : codeAny (model X.prog X.w) X.A (.compLoop (.ListComp elt [⟨tg, iter, ifs, 0⟩] scope pos) 0 (.ref it) (.ref s2.heap.objs.size) (compEnvC scope cl s3.heap.objs.size X.env))
      (compPost (model X.prog X.w) X.A X.xe use Qv (Value.ref s2.heap.objs.size) s3.heap.objs.size) { s3 with heap := h4, toks := s3.toks + ([] : List (Str × Value)).length } := by
    refine cl_loop (fun n s' => ∃ i σx H', Inv (X.comp scope cl N s3.heap.objs.size fp s3 (upd H2 s2.heap.objs.size (.lst []))) [] σx H' s' ∧ tn i s'.heap ∧ (∀ b ∈ fp, H' b = none) ∧ W i n σx H') ?_ m0 ⟨0, _, _, Ic, st4, fun b hb => (f3 b hb).1.1, w0⟩
    rintro n s5 ⟨i, σx, H5, I5, st5, fr5, w5⟩
    rcases turn i n σx H5 w5 with ⟨stop, qd⟩ | ⟨go, step⟩
    · refine wpAny_mono (T.done (X.comp scope cl N s3.heap.objs.size fp s3 (upd H2 s2.heap.objs.size (.lst []))) rfl rfl rfl hc i [] s5 _ H5 (fun _ _ => False) I5 (stat fr5) st5 stop) (fun r s6 ⟨hr, I6⟩ => ?_) fun _ _ z => z.elim
      subst hr
      exact out I6 qd
    · refine wpAny_mono (T.item (X.comp scope cl N s3.heap.objs.size fp s3 (upd H2 s2.heap.objs.size (.lst []))) rfl rfl rfl hc i [] s5 _ H5 (fun _ _ => False) I5 (stat fr5) st5 go) (fun r s6 ⟨u, hr, h6⟩ => ?_) fun _ _ z => z.elim
      subst hr
      refine wpAny_mono h6 (fun _ s7 ⟨v, H7, I7, r7, y7, st7, fr7⟩ => ?_) fun _ _ z => z.elim
      have I7' := I7.pinned (stat fr7) (T.obj _ _ st7)
      have again : ∀ {σ9 : St} {H9 : Hp} {s9 : Shared}, Inv (X.comp scope cl N s3.heap.objs.size fp s3 (upd H2 s2.heap.objs.size (.lst []))) ([] ++ pinsAt fp s7.heap) σ9 H9 s9 → (∃ m', m' < n ∧ W (i + 1) m' σ9 H9) →
          ∃ m', m' < n ∧ ∃ i σx H', Inv (X.comp scope cl N s3.heap.objs.size fp s3 (upd H2 s2.heap.objs.size (.lst []))) [] σx H' s9 ∧ tn i s9.heap ∧ (∀ b ∈ fp, H' b = none) ∧ W i m' σx H' := fun {σ9 H9 s9} I9 ⟨m', lt, w'⟩ => by
        refine ⟨m', lt, i + 1, σ9, H9, I9.unpinned, T.keep _ _ _ st7 fun b hb o e => (I9.pin (b, o) (List.mem_append_right _ (List.mem_append_right _ (mem_pinsAt hb e)))).1, fun b hb => ?_, w'⟩
        obtain ⟨o, e, d⟩ := T.obj _ _ st7 b hb
        exact (I9.pin (b, o) (List.mem_append_right _ (List.mem_append_right _ (mem_pinsAt hb e)))).2.1
      refine wpAny_mono (hg _ _ _ _ _ s7 σx H7 v u _ I7' r7 (step v H7 y7)) (fun _ s8 ⟨σ8, H8, I8, q8⟩ => ?_) fun _ _ z => z.elim
      refine wpAny_mono (ht _ _ _ _ _ s8 _ H8 _ I8 q8) (fun b s9 ⟨H9, I9, q9⟩ => ?_) fun _ _ z => z.elim
      cases b with
      | false => exact again I9 q9
      | true =>
        refine wpAny_mono (he _ _ _ _ ⟨pins, σ, I3, f3, rfl⟩ _ s9 _ H9 _ I9.toR q9) (fun u' s10 ⟨v', H10, I10, r10, ys, hD, hz, q10⟩ => ?_) fun _ _ z => by cases use <;> exact z
        refine wpAny_mono (mt_append (X := X.comp scope cl N s3.heap.objs.size fp s3 (upd H2 s2.heap.objs.size (.lst []))) _ s10 _ H10 (.ref s2.heap.objs.size) [v'] (.ref s2.heap.objs.size) [u'] (fun _ H' => ∃ m', m' < n ∧ W (i + 1) m' σ8 H') I10.ofR rfl (.cons r10 .nil) ⟨_, ys, v', rfl, rfl, hD, hz, q10⟩) (fun _ s11 ⟨_, H11, I11, _, q11⟩ => again I11 q11) fun _ _ z => z.elim
  exact codeAny_compStart_list loop (T.self _ 0 _ _ _ st4 loop)
theorem pe_compNR (S : CompScopeN X scope cl N cap k) (hc : X.calm = true) (hi : PI X tg iter wi) (hg : ∀ C fp s₀ H₀, PG (X.comp scope cl N C fp s₀ H₀) tg g)
    (ht : ∀ C fp s₀ H₀, PTs (X.comp scope cl N C fp s₀ H₀) ifs tc) (he : ∀ C fp s₀ H₀, In0 X C fp s₀ H₀ → PE (X.compR scope cl N C fp s₀ H₀) elt te) (hs : ∀ x, foldedSetIterable iter X.env x = pure x := by intro _; rfl) :
    PE X (.ListComp elt [⟨tg, iter, ifs, 0⟩] scope pos) (tCompN k cap wi g tc te) := by
  intro pins s σ H Q I h
  rw [eval_ListComp]
  refine comp_coreR S hc hi hg ht he hs I h fun D C H6 s6 m Io Cf hm q6 => ?_
  exact ⟨m, hm, fun h' sb => ⟨.ref D, H6, Io.turned (it := C) (t' := s6.toks) (fun b o n e => (sb.2 b n).trans e) Cf.1 Cf.2.1 Cf.2.2.2.1 Cf.2.2.2.2.1 Cf.2.2.2.2.2, rfl, q6⟩⟩
end
end L2

set_option Elab.async false
set_option linter.all false
set_option maxRecDepth 100000
set_option maxHeartbeats 4000000
/-! our own rules: zip of a text (ASCII) and a list -/
namespace L2
open PySem PySem.Spec PyProof.Rows
section
variable {prog : Program} {w : World} {A : Around} {E : Value → Shared → Prop} {s : Shared} {z TI TO i j : Addr} {f2 : List Addr} {T2 : Nat → Heap → Prop} {e2 : Nat → Option Value}
theorem zps_item {k c : Nat} {xt : Str} {tk : Tok} {y a b : Value} {Q : Option Value → Shared → Prop} (D : ZA z TI TO i j [] f2) (N2 : Nx prog w j f2 T2 e2) (hz : IsZip s.heap z TI TO .none) (hTI : IsPair s.heap TI (.ref i) (.ref j)) (hTO : IsPair s.heap TO a b)
    (t1 : s.heap.IsStrIter i "str_ascii_iterator" xt tk k) (t2 : T2 k s.heap) (hx : xt.cps[k]? = some c) (hy : e2 k = some y)
    (hQ : ∀ h', IsZip h' z TI TO (rawInt s.heap.objs.size) → IsPair h' TO (.str ⟨#[c]⟩ s.toks) y → h'.IsStrIter i "str_ascii_iterator" xt tk (k + 1) → T2 (k + 1) h' → IsPair h' s.heap.objs.size (.str ⟨#[c]⟩ s.toks) y → h'.objs.size = s.heap.objs.size + 1 → (∀ c o, c ≠ z → c ≠ TO → c ≠ i → c ≠ j → s.heap.get? c = some o → h'.get? c = some o) → Q (some (.ref s.heap.objs.size)) { s with heap := h', toks := s.toks + 1 }) :
    wpAny (model prog w) A (pyNext (.ref z)) Q E s := by
  have hT : s.TypeIs (.ref z) "zip" := ⟨_, hz, rfl⟩
  unfold pyNext
  refine wpAny_bind (wpAny_attempt (wpAny_callSpecial?_slot (name := Str.ofString "__next__") hT F.slot_zip_next (wpAny_call_entry F.slot_zip_next hT F.entry_zip_next ?_ (F.args_zip_next_1 _))))
  show wpAny _ _ (field (.ref z) 2 >>= _) _ _ _
  refine wpAny_bind (wpAny_field hz rfl (x := .bool false) rfl ?_)
  show wpAny _ _ (field (.ref z) 3 >>= _) _ _ _
  refine wpAny_bind (wpAny_field hz rfl (x := .ref TI) rfl ?_)
  refine wpAny_bind (wpAny_seqItems hTI rfl ?_)
  show wpAny _ _ (Builtin.SmallTypes.ownedTupleIsFree (.ref z) >>= _) _ _ _
  refine wpAny_bind ?_
  unfold Builtin.SmallTypes.ownedTupleIsFree
  refine wpAny_bind (wpAny_field hz rfl (x := .none) rfl (wpAny_pure ?_))
  simp only [if_true]
  refine wpAny_bind (wpAny_rule ?_)
  refine wpAny_bind (wpAny_field hz rfl (x := .ref TO) rfl ?_)
  refine wpAny_bind (wpAny_setField_rec hz (by simp) fun g1 z1 s1 => ?_)
  replace z1 : IsZip g1 z TI TO .ellipsis := z1
  refine wpAny_bind ?_
  simp only [List.zipIdx_cons, List.zipIdx_nil, List.forIn_cons, List.forIn_nil]
  refine wpAny_bind (wpAny_bind (wpAny_onRaise ?_))
  show wpAny _ _ (Builtin.SmallTypes.nextOf (.ref i) >>= _) _ _ _
  have t1a : g1.IsStrIter i "str_ascii_iterator" xt tk k := t1.extBut s1.extBut D.iz
  refine wpAny_bind (wpAny_nextOf_ascii_item (s := { s with heap := g1 }) t1a hx fun g2 t1b s2 => wpAny_pure ?_)
  have o2 : IsPair g2 TO a b := s2.extBut _ _ D.oi (s1.extBut _ _ D.oz hTO)
  refine wpAny_bind (wpAny_seqItems o2 rfl ?_)
  refine wpAny_bind (wpAny_updateSeq_pair o2 fun g3 o3 s3 => ?_)
  replace o3 : IsPair g3 TO (.str ⟨#[c]⟩ s.toks) b := o3
  refine wpAny_bind (wpAny_letGo (wpAny_pure ?_))
  refine wpAny_bind (wpAny_bind (wpAny_onRaise ?_))
  show wpAny _ _ (Builtin.SmallTypes.nextOf (.ref j) >>= _) _ _ _
  have t2a : T2 k g3 := N2.keep k _ _ t2 fun b hb o e => by
    have n : b ≠ z ∧ b ≠ TO ∧ b ≠ i := hb.elim (fun q => q ▸ ⟨D.jz, D.oj.symm, D.ij.symm⟩) fun q => ⟨(D.a2 b q).1, (D.a2 b q).2.1, (D.a2 b q).2.2.1⟩
    exact s3.extBut _ _ n.2.1 (s2.extBut _ _ n.2.2 (s1.extBut _ _ n.1 e))
  refine wpAny_bind (N2.next _ k y _ _ _ t2a hy fun g4 t2b s4 => wpAny_pure ?_)
  have o4 : IsPair g4 TO (.str ⟨#[c]⟩ s.toks) b := s4.extBut _ _ D.oj o3
  refine wpAny_bind (wpAny_seqItems o4 rfl ?_)
  refine wpAny_bind (wpAny_updateSeq_pair o4 fun g5 o5 s5 => ?_)
  replace o5 : IsPair g5 TO (.str ⟨#[c]⟩ s.toks) y := o5
  refine wpAny_bind (wpAny_letGo (wpAny_pure (wpAny_pure ?_)))
  refine wpAny_bind (wpAny_seqItems o5 rfl ?_)
  refine wpAny_bind (wpAny_newTuple ?_)
  have sz : g5.objs.size = s.heap.objs.size := by rw [s5.1, s4.1, s3.1, s2.1, s1.1]
  have z5 : IsZip g5 z TI TO .ellipsis := s5.extBut _ _ D.oz.symm (s4.extBut _ _ D.jz.symm (s3.extBut _ _ D.oz.symm (s2.extBut _ _ D.iz.symm z1)))
  have k5 : ∀ c o, c ≠ z → c ≠ TO → c ≠ i → c ≠ j → s.heap.get? c = some o → g5.get? c = some o := fun c o c1 c2 c3 c4 e => s5.extBut _ _ c2 (s4.extBut _ _ c4 (s3.extBut _ _ c2 (s2.extBut _ _ c3 (s1.extBut _ _ c1 e))))
  have t15 : g5.IsStrIter i "str_ascii_iterator" xt tk (k + 1) := ((t1b.extBut s3.extBut D.oi.symm).extBut s4.extBut D.ij).extBut s5.extBut D.oi.symm
  have t25 : T2 (k + 1) g5 := N2.keep _ _ _ t2b fun b hb o e => s5.extBut _ _ (hb.elim (fun q => q ▸ D.oj.symm) fun q => (D.a2 b q).2.1) e
  have zl : z < g5.objs.size := Heap.lt_size z5
  show wpAny _ _ (Builtin.SmallTypes.ownedTupleHandOut (.ref z) (.ref g5.objs.size) >>= _) _ _ _
  refine wpAny_bind ?_
  unfold Builtin.SmallTypes.ownedTupleHandOut
  have z6 : IsZip (g5.push { cls := .type "tuple", data := .seq #[.str ⟨#[c]⟩ s.toks, y] }) z TI TO .ellipsis := Heap.get?_push_of_some _ z5
  refine wpAny_bind (wpAny_setField_rec z6 (by simp) fun g7 z7 s7 => ?_)
  replace z7 : IsZip g7 z TI TO (rawInt g5.objs.size) := z7
  refine wpAny_setField_rec z7 (by simp) fun g8 z8 s8 => ?_
  replace z8 : IsZip g8 z TI TO (rawInt g5.objs.size) := z8
  have up : ∀ c o, c ≠ z → g5.get? c = some o → g8.get? c = some o := fun c o c1 e => s8.extBut _ _ c1 (s7.extBut _ _ c1 (Heap.get?_push_of_some _ e))
  have p8 : IsPair g8 g5.objs.size (.str ⟨#[c]⟩ s.toks) y := s8.extBut _ _ (Nat.ne_of_gt zl) (s7.extBut _ _ (Nat.ne_of_gt zl) (Heap.get?_push_size _ rfl))
  have q8 : g8.objs.size = g5.objs.size + 1 := by rw [s8.1, s7.1, Heap.size_push]
  rw [sz] at z8 p8 q8
  refine wpAny_pure ⟨_, rfl, wpAny_pure ?_⟩
  rw [sz]
  exact hQ g8 z8 (up _ _ D.oz o5) (let ⟨o, ho, r⟩ := t15; ⟨o, up _ _ D.iz ho, r⟩) (N2.keep _ _ _ t25 fun b hb o e => up b o (hb.elim (fun q => q ▸ D.jz) fun q => (D.a2 b q).1) e) p8 q8 fun c o c1 c2 c3 c4 e => up c o c1 (k5 c o c1 c2 c3 c4 e)
theorem zps_end {k : Nat} {xt : Str} {tk : Tok} {a b : Value} {Q : Option Value → Shared → Prop} (hh : A.handled = none) (D : ZA z TI TO i j [] f2) (N2 : Nx prog w j f2 T2 e2) (hz : IsZip s.heap z TI TO .none) (hTI : IsPair s.heap TI (.ref i) (.ref j)) (hTO : IsPair s.heap TO a b)
    (t1 : s.heap.IsStrIter i "str_ascii_iterator" xt tk k) (t2 : T2 k s.heap) (hend : xt.cps[k]? = none ∨ e2 k = none)
    (hQ : ∀ h', (∀ c o, c ≠ z → c ≠ TO → c ≠ i → c ≠ j → s.heap.get? c = some o → h'.get? c = some o) → ∀ tk', Q none { s with heap := h', toks := tk' }) : wpAny (model prog w) A (pyNext (.ref z)) Q E s := by
  have hT : s.TypeIs (.ref z) "zip" := ⟨_, hz, rfl⟩
  have fin : ∀ h' e tk', (∀ c o, c ≠ z → c ≠ TO → c ≠ i → c ≠ j → s.heap.get? c = some o → h'.get? c = some o) → (∃ o, h'.get? e = some o ∧ o.cls = .type "StopIteration") → wpAny (model prog w) A (do if ← isInstance (.ref e) (.type "StopIteration") then pure none else throw (.ref e)) Q E { s with heap := h', toks := tk' } := fun h' e tk' hk he => by
    obtain ⟨o, ho, hc⟩ := he
    exact wpAny_bind (wpAny_isInstance (T := "StopIteration") (b := true) ⟨o, ho, hc⟩ isSubtype_stop (wpAny_pure (hQ _ hk _)))
  unfold pyNext
  refine wpAny_bind (wpAny_attempt (wpAny_callSpecial?_slot (name := Str.ofString "__next__") hT F.slot_zip_next (wpAny_call_entry F.slot_zip_next hT F.entry_zip_next ?_ (F.args_zip_next_1 _))))
  show wpAny _ _ (field (.ref z) 2 >>= _) _ _ _
  refine wpAny_bind (wpAny_field hz rfl (x := .bool false) rfl ?_)
  show wpAny _ _ (field (.ref z) 3 >>= _) _ _ _
  refine wpAny_bind (wpAny_field hz rfl (x := .ref TI) rfl ?_)
  refine wpAny_bind (wpAny_seqItems hTI rfl ?_)
  show wpAny _ _ (Builtin.SmallTypes.ownedTupleIsFree (.ref z) >>= _) _ _ _
  refine wpAny_bind ?_
  unfold Builtin.SmallTypes.ownedTupleIsFree
  refine wpAny_bind (wpAny_field hz rfl (x := .none) rfl (wpAny_pure ?_))
  simp only [if_true]
  refine wpAny_bind (wpAny_rule ?_)
  refine wpAny_bind (wpAny_field hz rfl (x := .ref TO) rfl ?_)
  refine wpAny_bind (wpAny_setField_rec hz (by simp) fun g1 z1 s1 => ?_)
  replace z1 : IsZip g1 z TI TO .ellipsis := z1
  refine wpAny_bind ?_
  simp only [List.zipIdx_cons, List.zipIdx_nil, List.forIn_cons, List.forIn_nil]
  refine wpAny_bind (wpAny_bind (wpAny_onRaise ?_))
  show wpAny _ _ (Builtin.SmallTypes.nextOf (.ref i) >>= _) _ _ _
  have t1a : g1.IsStrIter i "str_ascii_iterator" xt tk k := t1.extBut s1.extBut D.iz
  cases hx : xt.cps[k]? with
  | none =>
    refine wpAny_bind (wpAny_nextOf_ascii_end (s := { s with heap := g1 }) hh t1a hx fun g2 e s2 he => ?_)
    obtain ⟨oe, hoe, hce⟩ := he
    have z2 : IsZip g2 z TI TO .ellipsis := s2 _ _ D.iz.symm z1
    have ez : e ≠ z := fun q => by subst q; rw [z2] at hoe; cases hoe; simp at hce
    exact wpAny_setField_rec z2 (by simp) fun g3 _ s3 => fin g3 e _ (fun c o c1 _ c3 _ q => s3.extBut _ _ c1 (s2 _ _ c3 (s1.extBut _ _ c1 q))) ⟨oe, s3.extBut _ _ ez hoe, hce⟩
  | some c =>
    have hy : e2 k = none := by rcases hend with h | h; (rw [hx] at h; cases h); exact h
    refine wpAny_bind (wpAny_nextOf_ascii_item (s := { s with heap := g1 }) t1a hx fun g2 t1b s2 => wpAny_pure ?_)
    have o2 : IsPair g2 TO a b := s2.extBut _ _ D.oi (s1.extBut _ _ D.oz hTO)
    refine wpAny_bind (wpAny_seqItems o2 rfl ?_)
    refine wpAny_bind (wpAny_updateSeq_pair o2 fun g3 o3 s3 => ?_)
    refine wpAny_bind (wpAny_letGo (wpAny_pure ?_))
    refine wpAny_bind (wpAny_bind (wpAny_onRaise ?_))
    show wpAny _ _ (Builtin.SmallTypes.nextOf (.ref j) >>= _) _ _ _
    have t2a : T2 k g3 := N2.keep k _ _ t2 fun b hb o e => by
      have n : b ≠ z ∧ b ≠ TO ∧ b ≠ i := hb.elim (fun q => q ▸ ⟨D.jz, D.oj.symm, D.ij.symm⟩) fun q => ⟨(D.a2 b q).1, (D.a2 b q).2.1, (D.a2 b q).2.2.1⟩
      exact s3.extBut _ _ n.2.1 (s2.extBut _ _ n.2.2 (s1.extBut _ _ n.1 e))
    refine wpAny_bind (N2.done _ k _ _ _ hh t2a hy fun g4 e s4 he => ?_)
    obtain ⟨oe, hoe, hce⟩ := he
    have z4 : IsZip g4 z TI TO .ellipsis := s4 _ _ D.jz.symm (s3.extBut _ _ D.oz.symm (s2.extBut _ _ D.iz.symm z1))
    have ez : e ≠ z := fun q => by subst q; rw [z4] at hoe; cases hoe; simp at hce
    exact wpAny_setField_rec z4 (by simp) fun g5 _ s5 => fin g5 e _ (fun c o c1 c2 c3 c4 q => s5.extBut _ _ c1 (s4 _ _ c4 (s3.extBut _ _ c2 (s2.extBut _ _ c3 (s1.extBut _ _ c1 q))))) ⟨oe, s5.extBut _ _ ez hoe, hce⟩
abbrev zOs (x : Str) (t : Tok) : Obj := { cls := .type "str_ascii_iterator", data := .fields #[.str x t, .int 0 0] }
theorem meets_zip_sl (x : Str) (t : Tok) (ha : x.cps.all (· < 128) = true) (l2 : Addr) (ys : Array Value) :
    Meets (Builtin.«zip.__new__» ⟨[.type "zip", .str x t, .ref l2], []⟩) (fun _ R s => s.heap.IsList l2 ys ∧ R (.ok (.ret (.ref (zA s.heap (zOs x t) (zO "list_iterator" l2))))) { s with heap := zG s.heap (zOs x t) (zO "list_iterator" l2) }) :=
  .of_wp fun prog w A R s h => by
    obtain ⟨hp, g, d, tk, os⟩ := s; obtain ⟨hl2, h⟩ := h
    have hsub := sub_zip
    have hL2 : Heap.IsList (Shared.heap ⟨hp.push (zOs x t), g, d, tk, os⟩) l2 ys := Heap.IsList.push hl2 _
    wp_walk using wpAny_pyIter_ascii ha, wpAny_pyIter_list hL2
    exact ⟨_, rfl, h⟩
theorem call_zip_sl {x : Str} {t : Tok} {l2 : Addr} {ys : Array Value} {Q : Value → Shared → Prop} (ha : x.cps.all (· < 128) = true) (hl2 : s.heap.IsList l2 ys) (h : Q (.ref (s.heap.objs.size + 4)) { s with heap := zG s.heap (zOs x t) (zO "list_iterator" l2) }) :
    wpAny (model prog w) A (call (.type "zip") [.str x t, .ref l2]) Q E s := by
  refine callType_new F.called_zip (by decide) (F.typeCall_zip_2 _ _) (F.newCall_zip_2 _ _) (fun obj => F.args_object_init_3 obj _ _) F.entry_zip_new (meets_zip_sl x t ha l2 ys) ⟨hl2, ?_⟩
  have g := (zG_at s.heap (zOs x t) (zO "list_iterator" l2) rfl rfl).1
  show _ ∧ _
  rw [zA_eq]
  exact ⟨⟨_, g, rfl⟩, h⟩
def Itzs (K : PySem.W.Frag) (t : Str) (b : Addr) : It :=
  ⟨fun i H => ∃ ys c y, SqL K H b ys ∧ t.cps[i]? = some c ∧ ys[i]? = some y, fun i H v H' => ∃ p c y, v = .ref p ∧ H p = none ∧ Same H H' ∧ H' p = some (.tup [.str ⟨#[c]⟩, y]) ∧ t.cps[i]? = some c ∧ ∀ ys, SqL K H b ys → ys[i]? = some y, fun i H => ∃ ys, SqL K H b ys ∧ (t.cps.size ≤ i ∨ ys.length ≤ i)⟩
end
theorem turn_zipS {P : Program} {w : World} {K : PySem.W.Frag} {elts : List Expr} {kk : Nat} {tpos : Pos} {xt : Str} {tk : Tok} {b z TI TO i1 i2 : Addr} (D : ZA z TI TO i1 i2 [] [b]) :
    Turn P w K (.Tuple elts kk tpos) (Itzs K xt b) [z, TI, TO, i1, i2] z (fun i h => IsZip h z TI TO .none ∧ IsPair h TI (.ref i1) (.ref i2) ∧ (∃ x y, IsPair h TO x y) ∧ h.IsStrIter i1 "str_ascii_iterator" xt tk i ∧ h.IsListIter i2 b i) where
  mem := by simp
  obj := fun i h st c hc => by
    obtain ⟨h1, h2, ⟨x, y, h3⟩, ⟨o4, e4, c4, d4⟩, ⟨o5, e5, c5, d5⟩⟩ := st
    simp only [List.mem_cons, List.not_mem_nil, or_false] at hc
    rcases hc with rfl | rfl | rfl | rfl | rfl
    · exact ⟨_, h1, fun v q => by
        have q' : Data.fields _ = Data.cell v := q
        cases q'⟩
    · exact ⟨_, h2, fun v q => by
        have q' : Data.seq _ _ = Data.cell v := q
        cases q'⟩
    · exact ⟨_, h3, fun v q => by
        have q' : Data.seq _ _ = Data.cell v := q
        cases q'⟩
    · exact ⟨o4, e4, fun v q => by rw [d4] at q; cases q⟩
    · exact ⟨o5, e5, fun v q => by rw [d5] at q; cases q⟩
  keep := fun i h h' ⟨h1, h2, ⟨x, y, h3⟩, ⟨o4, e4, r4⟩, h5⟩ k => ⟨k z (by simp) _ h1, k TI (by simp) _ h2, ⟨x, y, k TO (by simp) _ h3⟩, ⟨o4, k i1 (by simp) _ e4, r4⟩, h5.at fun o e => k i2 (by simp) o e⟩
  item := by
    intro X hP hw hK hc i pins s σ H E I hf st hg
    subst hP hw hK
    obtain ⟨ys, cc, y, hq2, hx, hy⟩ := hg
    obtain ⟨h1, h2, ⟨p, q, h3⟩, h4, h5⟩ := st
    obtain ⟨its2, rv2, p2, hz2⟩ := I.list hq2
    obtain ⟨v, hv, rv⟩ := rv2.get hy
    have zl : ∀ c ∈ [z, TI, TO, i1, i2], c < s.heap.objs.size := fun c hc => by
      simp only [List.mem_cons, List.not_mem_nil, or_false] at hc
      rcases hc with rfl | rfl | rfl | rfl | rfl
      · exact Heap.lt_size h1
      · exact Heap.lt_size h2
      · exact Heap.lt_size h3
      · obtain ⟨_, e, _⟩ := h4; exact Heap.lt_size e
      · obtain ⟨_, e, _⟩ := h5; exact Heap.lt_size e
    refine zps_item D (nx_list i2 b its2.toArray (D.a2 b (by simp)).2.2.2) h1 h2 h3 h4 ⟨h5, p2.isList⟩ (y := v) hx (by simpa using hv) fun h' z' o' t1' t2' p' sz' kp => ?_
    refine ⟨_, rfl, wpAny_letOwnedTupleGo_zip z' fun h'' z'' sb => ?_⟩
    have I1 : Inv X pins σ (upd H s.heap.objs.size (.tup [.str ⟨#[cc]⟩, y])) { s with heap := s.heap.push { cls := .type "tuple", data := .seq #[.str ⟨#[cc]⟩ s.toks, v] }, toks := s.toks + 1 } :=
      I.laid (fun b o q => Heap.get?_push_of_some _ q) (Nat.le_refl _) ⟨by show 2 ≤ sizeLine; decide, [.str ⟨#[cc]⟩ s.toks, v], .cons ⟨_, rfl⟩ (.cons rv .nil), ⟨_, Heap.get?_push_size _ rfl, rfl, _, rfl⟩⟩
    have hf' : ∀ c ∈ [z, TI, TO, i1, i2], FpOk X pins (upd H s.heap.objs.size (.tup [.str ⟨#[cc]⟩, y])) c := fun c hc => by
      refine ⟨?_, (hf c hc).2⟩
      rw [upd_ne (Nat.ne_of_lt (zl c hc))]
      exact (hf c hc).1
    have I2 : Inv X pins σ (upd H s.heap.objs.size (.tup [.str ⟨#[cc]⟩, y])) { s with heap := h'', toks := s.toks + 1 } := I1.turnedL (t' := s.toks + 1) (fun c o hc q => by
      simp only [List.mem_cons, List.not_mem_nil, or_false, not_or] at hc
      refine (sb.2 c hc.1).trans ?_
      by_cases hT : c = s.heap.objs.size
      · subst hT
        have q' : (s.heap.push { cls := .type "tuple", data := .seq #[.str ⟨#[cc]⟩ s.toks, v] }).get? s.heap.objs.size = some o := q
        rw [Heap.get?_push_size _ rfl] at q'
        cases q'
        exact p'
      · have q' : (s.heap.push { cls := .type "tuple", data := .seq #[.str ⟨#[cc]⟩ s.toks, v] }).get? c = some o := q
        rw [Heap.get?_push_ne _ _ _ hT] at q'
        exact kp c o hc.1 hc.2.2.1 hc.2.2.2.1 hc.2.2.2.2 q') hf'
    have up : ∀ c o, c ≠ z → h'.get? c = some o → h''.get? c = some o := fun c o n e => (sb.2 c n).trans e
    have ti' : h'.get? TI = some _ := kp TI _ D.tz D.to D.ti D.tj h2
    obtain ⟨o4, e4, r4⟩ := t1'
    refine ⟨.ref s.heap.objs.size, _, I2, rfl, ⟨_, cc, y, rfl, I.hok.fresh (Nat.le_refl _), same_new (I.hok.fresh (Nat.le_refl _)) _, upd_same, hx, fun ys' h => by rw [I.list_inj h hq2]; exact hy⟩, ⟨z'', up _ _ D.tz ti', ⟨_, _, up _ _ D.oz o'⟩, ⟨o4, up _ _ D.iz e4, r4⟩, t2'.1.at fun o e => up _ o D.jz e⟩, fun c hc => (hf' c hc).1⟩
  done := by
    intro X hP hw hK hc i pins s σ H E I hf st hg
    subst hP hw hK
    obtain ⟨ys, hq2, hx⟩ := hg
    obtain ⟨h1, h2, ⟨p, q, h3⟩, h4, h5⟩ := st
    obtain ⟨its2, rv2, p2, hz2⟩ := I.list hq2
    have l2 := rv2.length
    refine zps_end (I.ok.hd hc) D (nx_list i2 b its2.toArray (D.a2 b (by simp)).2.2.2) h1 h2 h3 h4 ⟨h5, p2.isList⟩ (hx.imp (fun h => Array.getElem?_eq_none h) fun h => by simp; omega) fun h' kp tk' => ⟨rfl, I.turnedL (t' := tk') (fun c o hc e => ?_) hf⟩
    simp only [List.mem_cons, List.not_mem_nil, or_false, not_or] at hc
    exact kp c o hc.1 hc.2.2.1 hc.2.2.2.1 hc.2.2.2.2 e
  self := fun _ _ _ _ _ st h => wpAny_pyIter_zip st.1 h
theorem za_newS (n l2 : Nat) (h2 : l2 < n) : ZA (n + 4) (n + 2) (n + 3) n (n + 1) [] [l2] := by
  have o : ∀ l : Nat, l < n → l ≠ n + 4 ∧ l ≠ n + 3 ∧ l ≠ n ∧ l ≠ n + 1 := fun l h => ⟨ne_nat (by omega), ne_nat (by omega), ne_nat (by omega), ne_nat (by omega)⟩
  exact ⟨ne_nat (.inl (by omega)), ne_nat (.inl (by omega)), ne_nat (.inl (by omega)), ne_nat (.inl (by omega)), ne_nat (.inl (by omega)), ne_nat (.inr (by omega)), ne_nat (.inr (by omega)), ne_nat (.inr (by omega)), ne_nat (.inr (by omega)), ne_nat (.inl (by omega)), fun c hc => absurd hc List.not_mem_nil, fun c hc => by rw [List.mem_singleton.mp hc]; exact o l2 h2⟩
def iZipS (K : PySem.W.Frag) (ta : TA) : TI := fun σ H R => ta σ H fun vs H1 => ∃ x b, vs = [.str x, .ref b] ∧ x.cps.all (· < 128) = true ∧ (∃ ys, SqL K H1 b ys) ∧ R (Itzs K x b) H1
theorem pi_zipS {X : Cx} {a b : Expr} {ta : TA} {p pos tpos : Pos} {elts : List Expr} {kk : Nat} (hg : Gl X "zip") (hm : X.mg "zip" = none) (ha : PA X [a, b] ta) (hs : starEach [a, b] X.env = (false, eval a X.env) :: starEach [b] X.env := by rfl) (hs2 : starEach [b] X.env = [(false, eval b X.env)] := by rfl) :
    PI X (.Tuple elts kk tpos) (.Call (.Name "zip" p) [a, b] [] pos) (iZipS X.K ta) := by
  intro pins s σ H R I h
  refine Call_ (ld_blt I hg hm (show bootBuiltins "zip" = some (.type "zip") by decide +kernel) (PyProof.Rows.callWith_type1 (thn (ha pos pins s σ H _ I h) fun us s1 ⟨vs, H1, I1, r1, q1⟩ => ?_) hs (by rw [hs2]; rfl)))
  obtain ⟨xt, l2, e, has, ⟨ys, hq2⟩, q⟩ := q1
  subst e
  cases r1 with
  | cons r rr =>
    cases rr with
    | cons r' rr =>
      cases rr
      obtain ⟨tk, rfl⟩ := r
      cases r'
      obtain ⟨its2, rv2, p2, hz2⟩ := I1.list hq2
      have b2 : l2 < s1.heap.objs.size := by obtain ⟨_, e, _⟩ := p2.isList; exact Heap.lt_size e
      refine call_zip_sl has p2.isList ?_
      obtain ⟨z1, z2, z3, z4, z5, z6, z7⟩ := zG_at s1.heap (zOs xt tk) (zO "list_iterator" l2) rfl rfl
      have D : ZA (s1.heap.objs.size + 4) (s1.heap.objs.size + 2) (s1.heap.objs.size + 3) s1.heap.objs.size (s1.heap.objs.size + 1) [] [l2] := za_newS _ _ b2
      refine wpAny_pyIter_zip z1 ⟨_, _, _, _, H1, rfl, I1.kept (t' := s1.toks) z7, turn_zipS D, ⟨z1, z2, ⟨_, _, z3⟩, ⟨_, z4, rfl, rfl⟩, ⟨_, z5, rfl, rfl⟩⟩, fun c hc => ?_, q⟩
      have le : s1.heap.objs.size ≤ c := by
        simp only [List.mem_cons, List.not_mem_nil, or_false] at hc
        rcases hc with e | e | e | e | e <;> (rw [e]; first | exact Nat.le_refl _ | exact Nat.le_add_right _ _)
      exact I1.fpOk le (I1.hok.fresh le)
theorem compJ_zipS {K : PySem.W.Frag} {xt : Str} {b : Addr} {ys : List V} {g : TG} {tc : TT} {te : TE} {cs : St} {H1 : Hp} {Q : VK} (hb : H1 b = some (.lst ys)) (el : xt.cps.size = ys.length) (sz : ys.length < sizeLine) (Pv : Addr → Nat → List V → St → Hp → Prop)
    (h0 : ∀ D H', H1 D = none → Same H1 H' → H' D = some (.lst []) → Pv D 0 [] cs H')
    (hs : ∀ D i c y zs σ1 H' p H'', xt.cps[i]? = some c → ys[i]? = some y → At ys H1 D i zs H' → Pv D i zs σ1 H' → H' p = none → Same H' H'' → H'' p = some (.tup [.str ⟨#[c]⟩, y]) → g (.ref p) σ1 H'' fun σ2 H2 => tc σ2 H2 fun b H3 => if b = true then te σ2 H3 fun v H4 => Put ys H1 D (Pv D) i σ2 v H4 else Skip ys H1 D (Pv D) i σ2 H3)
    (hd : ∀ D zs σ1 H', H1 D = none → Same H1 H' → H' D = some (.lst zs) → zs.length ≤ ys.length → Pv D ys.length zs σ1 H' → Q (.ref D) H') : CompJ (Itzs K xt b) g tc te cs H1 Q := by
  intro D hD
  refine ⟨CW ys H1 D (Pv D), ⟨_, rfl, Nat.zero_le _, same_new hD _, [], upd_same, Nat.le_refl _, h0 D _ hD (same_new hD _) upd_same⟩, ?_⟩
  rintro i m σ1 H ⟨rfl, hi, sm, zs, hz, lz, p⟩
  have q2 : SqL K H b ys := SqL.of (sm _ _ hb)
  by_cases hlt : i < ys.length
  · have hx : xt.cps[i]? = some (xt.cps[i]'(by omega)) := Array.getElem?_eq_getElem _
    have hy : ys[i]? = some ys[i] := List.getElem?_eq_getElem hlt
    refine .inr ⟨⟨ys, _, _, q2, hx, hy⟩, fun v H' yd => ?_⟩
    obtain ⟨pp, c, y, rfl, hn, sm2, hp, ex, ey⟩ := yd
    exact hs D i c y zs σ1 H pp H' ex (ey ys q2) ⟨hD, hlt, sz, sm, hz, lz⟩ p hn sm2 hp
  · have e : i = ys.length := by omega
    subst e
    exact .inl ⟨⟨ys, q2, .inr (Nat.le_refl _)⟩, hd D zs σ1 _ hD sm hz lz p⟩
end L2

set_option Elab.async false
set_option linter.all false
set_option maxRecDepth 100000
set_option maxHeartbeats 4000000
namespace HD
open PySem PySem.W

def afterR {α : Type} (v : Obj) (k : BT → α) (l r : BT) : α := k (.node v l r)
def afterL {α : Type} (v : Obj) (k : BT → α) (fr : (BT → α) → α) (l : BT) : α := fr (afterR v k l)
noncomputable def forceT {α : Type} (t : BT) : (BT → α) → α :=
  @BT.rec (fun _ => (BT → α) → α) (fun k => k .nil) (fun v _ _ fl fr k => fl (afterL v k fr)) t
theorem forceT_eq {α : Type} : ∀ (t : BT) (k : BT → α), forceT t k = k t
  | .nil, _ => rfl
  | .node v l r, k => by
    show forceT l (afterL v k (forceT r)) = _
    rw [forceT_eq l]
    show forceT r (afterR v k l) = _
    rw [forceT_eq r]
    rfl
noncomputable def forceN {α : Type} (n : Nat) (k : Nat → α) : α := @Nat.rec (fun _ => α) (k 0) (fun m _ => k (m + 1)) n
theorem forceN_eq {α : Type} (n : Nat) (k : Nat → α) : forceN n k = k n := by cases n <;> rfl

def putBack {α : Type} (k : SharedT → α) (life : Life) (gens : Array GenState) (drawn : Drawn) (os : OsState) (n toks : Nat) (t : BT) : α := k ⟨t, n, life, gens, drawn, toks, os⟩
noncomputable def putT {α : Type} (k : SharedT → α) (t : BT) (life : Life) (gens : Array GenState) (drawn : Drawn) (os : OsState) (n toks : Nat) : α := forceT t (putBack k life gens drawn os n toks)
noncomputable def putN {α : Type} (k : SharedT → α) (t : BT) (life : Life) (gens : Array GenState) (drawn : Drawn) (os : OsState) (toks n : Nat) : α := forceN toks (putT k t life gens drawn os n)
noncomputable def forceS {α : Type} (s : SharedT) (k : SharedT → α) : α := match s with
  | ⟨t, n, life, gens, drawn, toks, os⟩ => forceN n (putN k t life gens drawn os toks)
theorem forceS_eq {α : Type} (s : SharedT) (k : SharedT → α) : forceS s k = k s := by
  obtain ⟨t, n, life, gens, drawn, toks, os⟩ := s
  show forceN n (putN k t life gens drawn os toks) = _
  rw [forceN_eq]
  show forceN toks (putT k t life gens drawn os n) = _
  rw [forceN_eq]
  show forceT t (putBack k life gens drawn os n toks) = _
  rw [forceT_eq]
  rfl

section
variable (thr ok : Thread → Bool) (st : SharedT → Thread → Option (SharedT × Thread))
def turn1 (ih : SharedT → Thread → Option (Bool × SharedT × Thread)) (s : SharedT) (t : Thread) : Option (Bool × SharedT × Thread) := match thr t with
  | true => some (true, s, t)
  | false => match ok t with
    | false => none
    | true => match st s t with
      | some (s', t') => ih s' t'
      | none => none
noncomputable def stepsF (n : Nat) : SharedT → Thread → Option (Bool × SharedT × Thread) :=
  @Nat.rec (fun _ => SharedT → Thread → Option (Bool × SharedT × Thread)) (fun s t => some (false, s, t)) (fun _ ih => turn1 thr ok st ih) n
def endF {α : Type} (k : SharedT → α) (s : SharedT) : Option α := some (k s)
def goOn {α : Type} (ih : SharedT → Thread → Option α) (t : Thread) (s : SharedT) : Option α := ih s t
noncomputable def turnF {α : Type} (m : Nat) (k : SharedT → α) (ih : SharedT → Thread → Option α) (s : SharedT) (t : Thread) : Option α :=
  match stepsF thr ok st m s t with
    | some (true, s', _) => forceS s' (endF k)
    | some (false, s', t') => forceS s' (goOn ih t')
    | none => none
noncomputable def runF {α : Type} (m : Nat) (k : SharedT → α) (n : Nat) : SharedT → Thread → Option α :=
  @Nat.rec (fun _ => SharedT → Thread → Option α) (fun _ _ => none) (fun _ ih => turnF thr ok st m k ih) n
end
section
variable {tb : String → Option Builtin} {p : Program} {w : World} {n₀ : Nat} {ann : Option Value}
noncomputable abbrev steps₁ (tb : String → Option Builtin) (p : Program) (w : World) (n₀ : Nat) (ann : Option Value) := stepsF through (stepOk n₀ ann) (stepT (denote tb) p w)
noncomputable abbrev run₁ {α : Type} (tb : String → Option Builtin) (p : Program) (w : World) (n₀ : Nat) (ann : Option Value) := @runF through (stepOk n₀ ann) (stepT (denote tb) p w) α
theorem steps_go : ∀ {n : Nat} {s s' : SharedT} {t t' : Thread}, steps₁ tb p w n₀ ann n s t = some (false, s', t') → ∀ N r, topRun tb p w n₀ ann N s'.abs t' = some r → topRun tb p w n₀ ann (n + N) s.abs t = some r
  | 0, s, s', t, t', h, N, r, k => by
    cases h
    rw [Nat.zero_add]; exact k
  | n + 1, s, s', t, t', h, N, r, k => by
    rw [show n + 1 + N = n + N + 1 by omega]
    have h : turn1 through (stepOk n₀ ann) (stepT (denote tb) p w) (steps₁ tb p w n₀ ann n) s t = some (false, s', t') := h
    unfold turn1 at h
    unfold topRun
    cases ht : through t with
    | true => rw [ht] at h; cases h
    | false =>
      rw [ht] at h
      cases hk : stepOk n₀ ann t with
      | false => rw [hk] at h; cases h
      | true =>
        rw [hk] at h
        cases hs : stepT (denote tb) p w s t with
        | none => rw [hs] at h; cases h
        | some x => obtain ⟨s₂, t₂⟩ := x; rw [hs] at h; rw [stepT_spec hs]; exact steps_go h N r k
theorem steps_end : ∀ {n : Nat} {s s' : SharedT} {t t' : Thread}, steps₁ tb p w n₀ ann n s t = some (true, s', t') → topRun tb p w n₀ ann n s.abs t = some s'.abs
  | 0, s, s', t, t', h => by cases h
  | n + 1, s, s', t, t', h => by
    have h : turn1 through (stepOk n₀ ann) (stepT (denote tb) p w) (steps₁ tb p w n₀ ann n) s t = some (true, s', t') := h
    unfold turn1 at h
    unfold topRun
    cases ht : through t with
    | true => rw [ht] at h; cases h; rfl
    | false =>
      rw [ht] at h
      cases hk : stepOk n₀ ann t with
      | false => rw [hk] at h; cases h
      | true =>
        rw [hk] at h
        cases hs : stepT (denote tb) p w s t with
        | none => rw [hs] at h; cases h
        | some x => obtain ⟨s₂, t₂⟩ := x; rw [hs] at h; rw [stepT_spec hs]; exact steps_end h
theorem run_spec {α : Type} {m : Nat} {k : SharedT → α} {r : α} : ∀ {n : Nat} {s : SharedT} {t : Thread}, run₁ tb p w n₀ ann m k n s t = some r → ∃ s', topRun tb p w n₀ ann (m * n) s.abs t = some s'.abs ∧ k s' = r
  | 0, s, t, h => by cases h
  | n + 1, s, t, h => by
    have h : turnF through (stepOk n₀ ann) (stepT (denote tb) p w) m k (run₁ tb p w n₀ ann m k n) s t = some r := h
    unfold turnF at h
    cases hs : stepsF through (stepOk n₀ ann) (stepT (denote tb) p w) m s t with
    | none => rw [hs] at h; cases h
    | some x =>
      obtain ⟨b, s₂, t₂⟩ := x
      rw [hs] at h
      cases b with
      | true =>
        have h : forceS s₂ (endF k) = some r := h
        rw [forceS_eq] at h
        refine ⟨s₂, ?_, Option.some.inj h⟩
        rw [show m * (n + 1) = m + m * n by rw [Nat.mul_succ]; omega]
        exact topRun_mono _ _ _ _ _ (steps_end hs)
      | false =>
        have h : forceS s₂ (goOn (run₁ tb p w n₀ ann m k n) t₂) = some r := h
        rw [forceS_eq] at h
        obtain ⟨s', e, e'⟩ := run_spec h
        refine ⟨s', ?_, e'⟩
        rw [show m * (n + 1) = m + m * n by rw [Nat.mul_succ]; omega]
        exact steps_go hs _ _ e
end

noncomputable def tree0 (P : Params) : BT :=
  .node (boot_o_0 P) (.node (boot_o_1 P) (.node (boot_o_3 P) (.node (boot_o_7 P) .nil .nil) .nil) (.node (boot_o_5 P) (.node (boot_o_9 P) .nil .nil) .nil))
    (.node (boot_o_2 P) (.node (boot_o_4 P) (.node (boot_o_8 P) .nil .nil) .nil) (.node (boot_o_6 P) (.node (boot_o_10 P) .nil .nil) .nil))
noncomputable def begin0 (w : World) (os : OsState) : SharedT := ⟨tree0 w.params, 11, (boot_heap w.params).life, #[], boot_drawn, boot_toks, os⟩
noncomputable def ann0 (w : World) : Option Value := (boot_heap w.params).nsMap mainGlobals "__annotations__"
noncomputable def look {α : Type} (p q : Program) (loose : List Str) (Xt : Shared → Bool) (g0 : Bool) (Yf : Shared → α) (w : World) (s : SharedT) :=
  ((staticsOk (importedModules p.main.body) (boot_heap w.params) s.abs.heap && namesBound p s.abs.heap && gensDone s.abs && laidKept (boot_heap w.params) s.abs.heap), openSeen q loose (importedModules p.main.body) Xt g0 s.abs, Yf s.abs)
theorem main0 (w : World) : (boot_heap w.params).isNs mainGlobals = true := by kernel_rfl

noncomputable abbrev runQ {α : Type} (p : Program) (w : World) := @runF through (Fast.tw6613529449190102663 11 (ann0 w)) (Fast.tw10156331382660048174 (Fast.tw11892475500146522536 Fast.tw14364793385576792824) p w) α
theorem runQ_eq {α : Type} (p : Program) (w : World) : @run₁ α treeTable p w 11 (ann0 w) = runQ p w := by
  show @runF through (stepOk 11 (ann0 w)) (stepT (denote treeTable) p w) α = _
  rw [Fast.te6613529449190102663, Fast.te10156331382660048174, Fast.te11892475500146522536, Fast.te14364793385576792824]
end HD

set_option Elab.async false
set_option linter.all false
set_option maxRecDepth 100000
set_option maxHeartbeats 4000000
namespace HD
open PySem PySem.W
def pickF {α : Type} (o : Option Obj) (a : Nat) (ih : Frag → (Frag → α) → α) (acc : Frag) (k : Frag → α) : α := match o with
  | some o => (match alive o with
    | some o' => ih ((a, o') :: acc) k
    | none => ih acc k)
  | none => ih acc k
noncomputable def fragF {α : Type} (t : BT) (n : Nat) : Frag → (Frag → α) → α :=
  @Nat.rec (fun _ => Frag → (Frag → α) → α) (fun acc k => k acc) (fun a ih acc k => pickF (t.get a) a ih acc k) n
def fragH (h : Heap) (n : Nat) : Frag := (List.range n).filterMap fun a => (h.get? a).map fun o => (a, o)
theorem lookup_mem {a : Addr} {o : Obj} : ∀ {K : Frag}, K.lookup a = some o → (a, o) ∈ K
  | [], h => nomatch h
  | (b, x) :: K, h => by
    simp only [List.lookup] at h
    split at h
    · rename_i q; cases h; rw [beq_iff_eq.mp q]; exact List.mem_cons_self
    · exact List.mem_cons_of_mem _ (lookup_mem h)
theorem fragH_in (h : Heap) (n : Nat) : (fragH h n).In h := fun a o e => by
  obtain ⟨b, _, q⟩ := List.mem_filterMap.mp (lookup_mem e)
  obtain ⟨x, h1, h2⟩ := Option.map_eq_some_iff.mp q
  cases h2
  exact h1
def full (t : BT) (n : Nat) : Bool := (List.range n).all fun a => (t.get a).isSome
theorem fragF_eq {α : Type} {t : BT} {m : Nat} {life : Life} {k : Frag → α} (f : full t m = true) : ∀ (n : Nat) (acc : Frag), n ≤ m → fragF t n acc k = k (fragH (absHeap t m life) n ++ acc)
  | 0, acc, _ => rfl
  | n + 1, acc, le => by
    have e : fragF t (n + 1) acc k = pickF (t.get n) n (fragF t n) acc k := rfl
    have hs : (t.get n).isSome = true := List.all_eq_true.mp f n (List.mem_range.mpr le)
    obtain ⟨o, hg⟩ := Option.isSome_iff_exists.mp hs
    have hx : fragH (absHeap t m life) (n + 1) ++ acc = fragH (absHeap t m life) n ++ ((match alive o with | some o' => [(n, o')] | none => []) ++ acc) := by
      unfold fragH
      rw [List.range_succ, List.filterMap_append, List.append_assoc]
      congr 2
      rw [List.filterMap_cons, List.filterMap_nil, abs_get le hg]
      cases alive o <;> rfl
    rw [e, hx]
    unfold pickF
    rw [hg]
    cases ha : alive o with
    | none => simp only [ha]; exact fragF_eq f n acc (Nat.le_of_succ_le le)
    | some o' => simp only [ha]; exact fragF_eq f n _ (Nat.le_of_succ_le le)
noncomputable def lookF {α : Type} (see : Frag → α) (s : SharedT) : α := fragF s.tree s.n [] see
theorem lookF_eq {α : Type} {see : Frag → α} {s : SharedT} (f : full s.tree s.n = true) : lookF see s = see (fragH s.abs.heap s.abs.heap.objs.size) := by
  unfold lookF
  rw [fragF_eq (life := s.life) f s.n [] (Nat.le_refl _), List.append_nil]
  show _ = see (fragH (absHeap s.tree s.n s.life) (absHeap s.tree s.n s.life).objs.size)
  rw [absHeap_size]
noncomputable def lookK {α : Type} (p q : Program) (loose : List Str) (Xt : Shared → Bool) (see : Frag → α) (w : World) (s : SharedT) :=
  (full s.tree s.n && (staticsOk (importedModules p.main.body) (boot_heap w.params) s.abs.heap && namesBound p s.abs.heap && gensDone s.abs && laidKept (boot_heap w.params) s.abs.heap), openSeen q loose (importedModules p.main.body) Xt true s.abs, lookF see s)
def seeH {α : Type} (see : Frag → α) (s : Shared) : α := see (fragH s.heap s.heap.objs.size)
theorem left_of_see {p q : Program} {loose : List Str} {Xt : Shared → Bool} {α : Type} {see : Frag → α} {saw : World → α} {N : Nat} {m n : Nat}
    (e : opening p = plainProg p.main.scope.names) (hN : Nat.ble 600 N = true) (f : ∀ s, fenceModules? p s = some s) (le : Nat.ble (m * n) N = true)
    (run : ∀ (w : World) (os : OsState), runQ p w m (lookK p q loose Xt see w) n (begin0 w os) (topStub p) = some (true, openGood q loose, saw w)) :
    LeftO p q loose Xt (seeH see) saw N true := by
  intro w
  obtain ⟨⟨h, gs, d, k, os⟩, e1, e2⟩ := Option.map_eq_some_iff.mp (boot_open e hN f w)
  obtain ⟨rfl, rfl, rfl, rfl⟩ : h = boot_heap w.params ∧ gs = Array.mk [] ∧ d = boot_drawn ∧ k = boot_toks := by simpa using e2
  have r0 := run w os
  rw [← runQ_eq] at r0
  obtain ⟨s', r, l⟩ := run_spec r0
  have r : topRun treeTable p w 11 (ann0 w) (m * n) ⟨boot_heap w.params, Array.mk [], boot_drawn, boot_toks, os⟩ (topStub p) = some s'.abs := r
  have r := topRun_mono (N - m * n) _ _ _ _ r
  rw [show m * n + (N - m * n) = N by have := Nat.le_of_ble_eq_true le; omega] at r
  obtain ⟨l0, l1⟩ := Bool.and_eq_true_iff.mp (congrArg Prod.fst l)
  have l2 := congrArg (fun x => x.2.1) l
  have l3 := (lookF_eq (see := see) l0).symm.trans (congrArg (fun x => x.2.2) l)
  have t : topFrom treeTable p w N ⟨boot_heap w.params, Array.mk [], boot_drawn, boot_toks, os⟩ = some s'.abs := by
    unfold topFrom
    show (match (boot_heap w.params).isNs mainGlobals && true with | true => _ | false => _) = _
    rw [main0 w]
    show (topRun treeTable p w 11 (ann0 w) N ⟨boot_heap w.params, Array.mk [], boot_drawn, boot_toks, os⟩ (topStub p)).bind _ = _
    rw [r]
    show (match staticsOk (importedModules p.main.body) (boot_heap w.params) s'.abs.heap && namesBound p s'.abs.heap && gensDone s'.abs && laidKept (boot_heap w.params) s'.abs.heap with | true => _ | false => _) = _
    rw [l1]
  unfold openEnds
  rw [e1]
  show Option.map _ (topFrom treeTable p w N _) = _
  rw [t]
  exact congrArg some (Prod.ext l2 l3)
theorem turn_of {P : Program → Prop} {p p' : Program} (h : p = p') (x : P p') : P p := h ▸ x
def ofOthers (p : Program) (x : Str) : List Str := p.boundNames.filter fun y => !(y == x)

theorem holds_see {l : OpenLaw} {i N m n : Nat} {α : Type} {see : Frag → α} {saw : World → α} {d : DefRec} {kwd : List (Str × Expr)}
    (said : l.row.wellSaid = true)
    (e : opening l.prog = plainProg l.prog.main.scope.names) (f : ∀ s, fenceModules? l.prog s = some s) (hN : Nat.ble 600 N = true) (le : Nat.ble (m * n) N = true)
    (run : ∀ (w : World) (os : OsState), runQ l.prog w m (lookK l.prog (view l.prog [i]) (ofOthers l.prog l.name) (fun _ => true) see w) n (begin0 w os) (topStub l.prog) = some (true, openGood (view l.prog [i]) (ofOthers l.prog l.name), saw w))
    (hdef : defOf (view l.prog [i]) l.row.name = some (d, kwd)) (hp : l.row.prog.theDef l.row.name = some (d.params, d.body, d.scope)) (hk : kwWritten? d.params.kwonlyargs d.params.kw_defaults = some kwd)
    (ok : (chainsOk (view l.prog [i]) && opensWell l.row.prog && (frees l.row.toRowW && l.row.within.isEmpty)) = true) (hb : l.row.prog.bare) (hw : l.row.toRowW.promised)
    (call : WalkO (view l.prog [i]) (ofOthers l.prog l.name) (fun _ _ => True) (fun w h => ∃ K : Frag, K.In h ∧ see K = saw w) l.row.toRowW d kwd fun f vs => PySem.call f vs) : l.row.Holds :=
  holds_open (r := l.row) (left_of_see e hN f le run) (fun _ s h => ⟨_, fragH_in s.heap _, h⟩) (fun _ _ _ ⟨K, a, b⟩ k => ⟨K, a.keeps k, b⟩) (fun _ _ => trivial) (fun _ _ _ _ _ => trivial) hdef hp hk (fun s _ => recFacts_of (R := []) rfl) (by show (_ || true) = true; exact Bool.or_true _) said ok hb hw call

theorem walk_see {l : OpenLaw} {n k : Nat} {q : Program} {loose : List Str} {XP : (Str → Option Value) → Heap → Prop} {S : World → Frag → Prop} {d : DefRec} {CX : L2.CXT} {sp : Frag → L2.Sp} {x : Str}
    (hn : l.most = some n) (hn2 : n ≤ sizeLine) (hdf : d.params.defaults = []) (hr : L2.Room k callerA)
    (F : ∀ (w : World) (K : Frag) (mg : Str → Option Value) (fa : Addr) (h : Heap), S w K → K.In h → h.Ns mainGlobals mg → mg d.name = some (.ref fa) →
      ∃ fd : FuncData, (∀ (s : Shared) (u : Value), BindsTo s fd ⟨[u], []⟩ [(x, u)]) ∧
        ∀ base : Heap, K.In base → base.Ns mainGlobals mg → L2.FnOk l.prog w K mg base CX k fa fd [x] (sp K))
    (hsp : ∀ (K : Frag) (H : L2.Hp) (a : Addr) (ns : List Int), ns.length ≤ n → L2.Only H → L2.SqL K H a (ns.map L2.V.int) → sp K [.ref a] H (fun v _ => v = .bl true) fun _ _ _ => False)
    (hCX : ∀ (H : L2.Hp) (s : Shared) (e : Value) (s' : Shared), CX [] H s (fun _ _ _ => False) e s' → False) :
    WalkO q loose XP (fun w h => ∃ K : Frag, K.In h ∧ S w K) l.row.toRowW d [] (fun f vs => PySem.call f vs) := by
  refine Att.attach_call hn hdf fun w s₀ s₁ mg mb fa o pm cd doc a vs ns G Y ho hd hcd hmg hobj hints hlen hg => ?_
  obtain ⟨K, KX, hS⟩ := Y
  obtain ⟨fd, hb, hF⟩ := F w K mg fa _ hS KX G.T.g hmg
  exact L2.law_call KX G.T.g G.T.b G.T.builtins G.T.nolimit hg hobj hints (Nat.le_trans hlen hn2) hr hF hb (fun H hO hS => hsp K H a ns hlen hO hS) fun H e s' => hCX H s₁ e s'

/-! what is seen of defs -/
def defName (s : Stmt) : Str := match s with
  | .FunctionDef n _ _ _ _ _ _ _ _ _ => n
  | _ => ""
abbrev FnSeen := Option (Str × Str × Arguments × FuncBody × Scope × Addr × List (Str × Addr) × Value × Addr × Bool)
def fnLook (K : Frag) (q : Str) (f : Addr) : FnSeen := match K.lookup f with
  | some ⟨_, _, .func fd, _⟩ => some (fd.name, fd.qualname, fd.params, fd.body, fd.scope, fd.globals, fd.closure, fd.defaults, fd.builtins, codeIn K fd.code q)
  | _ => none
def fnSaw (x q : Str) (st : Stmt) : FnSeen := some (x, q, L2.defArgs st, .stmts (L2.defBody st), L2.defScope st, mainGlobals, [], .none, builtinsNs, true)
theorem fn_of {K : Frag} {x q : Str} {st : Stmt} {f : Addr} (e : fnLook K q f = fnSaw x q st) :
    ∃ fd : FuncData, L2.Fun K x q st f fd := by
  unfold fnLook at e
  split at e
  · rename_i oc od fd sl hl
    obtain ⟨nm, qn, pa, bo, sc, gl, cl, df, kd, doc, pm, an, cdv, ct, bu⟩ := fd
    simp only [fnSaw, Option.some.injEq, Prod.mk.injEq] at e
    obtain ⟨rfl, rfl, rfl, rfl, rfl, rfl, rfl, rfl, rfl, c⟩ := e
    exact ⟨_, ⟨oc, od, kd, doc, pm, an, cdv, ct, sl, rfl, hl, c⟩, by unfold keepIn; simp only [hl]⟩
  · cases e
theorem binds_of {K : Frag} {x q : Str} {st : Stmt} {f : Addr} {fd : FuncData} {ps : List Str} (F : L2.Fun K x q st f fd)
    (b : ∀ (kV doc pm : Value) (an : Option Addr) (cdv ct : Value) (us : List Value), us.length = ps.length → bindArgs (fnOf x q (L2.defArgs st) (L2.defBody st) (L2.defScope st) .none kV doc pm an cdv ct) ⟨us, []⟩ = pure (ps.zip us)) : L2.Binds K fd ps [] := by
  obtain ⟨⟨oc, od, kV, doc, pm, an, cdv, ct, osl, rfl, _, _⟩, _⟩ := F
  exact .all (b kV doc pm an cdv ct)
def defLook (K : Frag) (st : Stmt) : FnSeen := match nsIn K mainGlobals (defName st) with
  | some (some (.ref f)) => fnLook K (defName st) f
  | _ => none
theorem def_ex {K : Frag} {st : Stmt} {x : Str} (e : defLook K st = fnSaw (defName st) (defName st) st) (hx : defName st = x) : ∃ f fd, nsIn K mainGlobals x = some (some (.ref f)) ∧ L2.Fun K x x st f fd := by
  subst hx
  unfold defLook at e
  split at e
  · rename_i f ha
    obtain ⟨fd, F⟩ := fn_of e
    exact ⟨f, fd, ha, F⟩
  · cases e
theorem defAt_of {K : Frag} {h : Heap} {mg : Str → Option Value} {st : Stmt} {x : Str} {ps : List Str} (X : K.In h) (G : h.Ns mainGlobals mg) (e : defLook K st = fnSaw (defName st) (defName st) st) (hx : defName st = x)
    (b : ∀ (kV doc pm : Value) (an : Option Addr) (cdv ct : Value) (us : List Value), us.length = ps.length → bindArgs (fnOf x x (L2.defArgs st) (L2.defBody st) (L2.defScope st) .none kV doc pm an cdv ct) ⟨us, []⟩ = pure (ps.zip us)) : L2.DefAt K mg x st ps := by
  obtain ⟨f, fd, ha, F⟩ := def_ex e hx
  exact ⟨f, fd, mg_of X G ha, F, binds_of F b⟩
theorem law_fun {K : Frag} {h : Heap} {mg : Str → Option Value} {st : Stmt} {x y : Str} {fa : Addr} (X : K.In h) (G : h.Ns mainGlobals mg) (e : defLook K st = fnSaw (defName st) (defName st) st) (hx : defName st = x) (hfa : mg x = some (.ref fa))
    (b : ∀ (kV doc pm : Value) (an : Option Addr) (cdv ct : Value) (s : Shared) (u : Value), BindsTo s (fnOf x x (L2.defArgs st) (L2.defBody st) (L2.defScope st) .none kV doc pm an cdv ct) ⟨[u], []⟩ [(y, u)]) :
    ∃ fd : FuncData, L2.Fun K x x st fa fd ∧ ∀ (s : Shared) (u : Value), BindsTo s fd ⟨[u], []⟩ [(y, u)] := by
  obtain ⟨f, fd, ha, F⟩ := def_ex e hx
  have e := hfa.symm.trans (mg_of X G ha)
  cases e
  refine ⟨fd, F, ?_⟩
  obtain ⟨⟨oc, od, kV, doc, pm, an, cdv, ct, osl, rfl, _, _⟩, _⟩ := F
  exact b kV doc pm an cdv ct

/-! names without a value, and constants -/
def isNo (K : Frag) (x : Str) : Bool := match nsIn K mainGlobals x with
  | some none => true
  | _ => false
theorem no_of {K : Frag} {h : Heap} {mg : Str → Option Value} {x : Str} (X : K.In h) (G : h.Ns mainGlobals mg) (e : isNo K x = true) : mg x = none := by
  unfold isNo at e
  split at e
  · rename_i ha; exact mg_none_of X G ha
  · cases e
def isInt (K : Frag) (x : Str) (n : Int) : Bool := match nsIn K mainGlobals x with
  | some (some (.int m _)) => decide (m = n)
  | _ => false
theorem int_of {K : Frag} {h : Heap} {mg : Str → Option Value} {x : Str} {n : Int} (X : K.In h) (G : h.Ns mainGlobals mg) (e : isInt K x n = true) : ∃ tk, mg x = some (.int n tk) := by
  unfold isInt at e
  split at e
  · rename_i m tk ha; cases of_decide_eq_true e; exact ⟨tk, mg_of X G ha⟩
  · cases e
def isTxt (K : Frag) (x : Str) (n : Str) : Bool := match nsIn K mainGlobals x with
  | some (some (.str m _)) => decide (m = n)
  | _ => false
theorem txt_of {K : Frag} {h : Heap} {mg : Str → Option Value} {x : Str} {n : Str} (X : K.In h) (G : h.Ns mainGlobals mg) (e : isTxt K x n = true) : ∃ tk, mg x = some (.str n tk) := by
  unfold isTxt at e
  split at e
  · rename_i m tk ha; cases of_decide_eq_true e; exact ⟨tk, mg_of X G ha⟩
  · cases e
def isRef (K : Frag) (x : Str) : Bool := match nsIn K mainGlobals x with
  | some (some (.ref _)) => true
  | _ => false
def adr (K : Frag) (x : Str) : Addr := match nsIn K mainGlobals x with
  | some (some (.ref f)) => f
  | _ => 0
theorem ref_of {K : Frag} {x : Str} (e : isRef K x = true) : nsIn K mainGlobals x = some (some (.ref (adr K x))) := by
  unfold isRef at e
  unfold adr
  split at e
  · rename_i f ha; rw [ha]
  · cases e
def All (l : List Bool) : Bool := l.all id
theorem all_cons {b : Bool} {l : List Bool} (h : All (b :: l) = true) : b = true ∧ All l = true := Bool.and_eq_true_iff.mp h
theorem fst_of {α : Type} {a b : α} {l m : List α} (h : a :: l = b :: m) : a = b ∧ l = m := List.cons.inj h
end HD

set_option Elab.async false
set_option linter.all false
set_option maxRecDepth 100000
set_option maxHeartbeats 4000000
namespace HD
open PySem PySem.W L2
theorem rel_of_abs {x : V} {u : Value} (h : absV u = some x) : RelV x u := by
  cases u <;> simp only [absV, Option.some.injEq, reduceCtorEq] at h <;> (try subst h) <;> first | rfl | exact ⟨_, rfl⟩
theorem vals_of_abs : ∀ {xs : List V} {us : List Value}, us.map absV = xs.map some → Vals xs us
  | [], [], _ => .nil
  | [], _ :: _, h => by cases h
  | _ :: _, [], h => by cases h
  | x :: xs, u :: us, h => by
    rw [List.map_cons, List.map_cons] at h
    obtain ⟨a, b⟩ := List.cons.inj h
    exact .cons (rel_of_abs a) (vals_of_abs b)
def tupLook (K : Frag) (a : Addr) : Option (Value × List (Option V)) := match K.lookup a with
  | some ⟨c, _, .seq its _, _⟩ => some (c, its.toList.map absV)
  | _ => none
theorem sqT_of {K : Frag} {a : Addr} {xs : List V} (e : tupLook K a = some (.type "tuple", xs.map some)) (hl : xs.length ≤ sizeLine) (H : Hp) : SqT K H a xs := by
  unfold tupLook at e
  split at e
  · rename_i c d its n sl hk
    simp only [Option.some.injEq, Prod.mk.injEq] at e
    obtain ⟨rfl, e⟩ := e
    have v := vals_of_abs e
    refine .inr ⟨_, its, n, hk, rfl, rfl, ?_, v⟩
    rw [← Array.length_toList, ← v.length]
    exact hl
  · cases e
def dctLook (K : Frag) (a : Addr) := match K.lookup a with
  | some ⟨c, d, .dict es _, sl⟩ => some (c, d, sl, es.toList.map fun (e : DictEntry) => (e.hash, (match e.key with | Value.str x _ => some x | _ => none), (match e.val with | Value.ref t => tupLook K t | _ => none)))
  | _ => none
def excLook (K : Frag) (C : Addr) : Bool := (findIn K (.ref C) "__getattribute__" == some (some (.builtin "BaseException.__getattribute__"))) && (findIn K (.ref C) "__getattr__" == some none) && (mroIn K C (.type "BaseException") == some true) &&
  (clsIn K C).isSome && (findIn K (.ref C) "__class__" == some (some (.builtin "object.__class__"))) && (specialIn K (.builtin "object.__class__") "__get__" == some (some (.builtin "getset_descriptor.__get__"))) &&
  (takesIn K (.builtin "object.__class__") == some true) && (mroIn K C (.type "object") == some true)
theorem plainX_of {K : Frag} {C : Addr} (e : excLook K C = true) : PlainX K C := by
  unfold excLook at e
  simp only [Bool.and_eq_true, beq_iff_eq] at e
  obtain ⟨⟨⟨⟨⟨⟨⟨a, b⟩, c⟩, d⟩, e⟩, f⟩, g⟩, h⟩ := e
  exact ⟨a, b, c, d, e, f, g, h⟩
end HD

seal L2.PE L2.PA L2.PS L2.PSs L2.PT L2.PW L2.PG L2.PGs L2.OpR L2.CallR L2.PI L2.PSet L2.PO L2.SlR L2.IxR L2.PPs L2.PC L2.UnR L2.MtR
local macro_rules
  | `(tactic| walk_at "rl") => do
    let a ← L2.rdArgs L2.lzPre
    `(tactic| simp (config := { maxSteps := 3000000 }) only [$a,*, *])
  | `(tactic| walk_at "ro") => do
    let a ← L2.rdArgs (L2.rdPre)
    `(tactic| simp (config := { maxSteps := 3000000 }) only [and_assoc, $a,*, *])
  | `(tactic| walk_at "rz") => do
    let a ← L2.rdArgs (L2.lzPre ++ " lazyAll")
    `(tactic| simp (config := { maxSteps := 3000000 }) only [$a,*, *])
  | `(tactic| walk_at "rd") => `(tactic| first | (walk_at "rl"; try walk_at "ro") | walk_at "ro")

set_option Elab.async false
set_option linter.all false
set_option maxRecDepth 100000
set_option maxHeartbeats 4000000
namespace K71
open PySem L2
def top (i : Nat) : Stmt := PySem.Challenge.pw_rerunyard_k71_texts_of_no_log.main.body.getD i (.Pass ⟨0, 0, 0, 0⟩)
abbrev s_is_name : Stmt := top 19
theorem sc_is_name : FnScope ["word"] ["word"] (defScope s_is_name) := ⟨rfl, rfl, rfl, by decide +kernel, rfl, by decide +kernel, by decide +kernel⟩
abbrev s_is_number : Stmt := top 20
theorem sc_is_number : FnScope ["word"] ["word"] (defScope s_is_number) := ⟨rfl, rfl, rfl, by decide +kernel, rfl, by decide +kernel, by decide +kernel⟩
abbrev s_is_whole : Stmt := top 21
theorem sc_is_whole : FnScope ["word", "most"] ["word", "most"] (defScope s_is_whole) := ⟨rfl, rfl, rfl, by decide +kernel, rfl, by decide +kernel, by decide +kernel⟩
abbrev s_shown_log : Stmt := top 25
theorem sc_shown_log : FnScope ["log"] ["log"] (defScope s_shown_log) := ⟨rfl, rfl, rfl, by decide +kernel, rfl, by decide +kernel, by decide +kernel⟩
abbrev s_shown_row : Stmt := top 26
theorem sc_shown_row : FnScope ["row"] ["row"] (defScope s_shown_row) := ⟨rfl, rfl, rfl, by decide +kernel, rfl, by decide +kernel, by decide +kernel⟩
abbrev s_read_log : Stmt := top 27
theorem sc_read_log : FnScope ["text", "log", "row", "told"] ["text"] (defScope s_read_log) := ⟨rfl, rfl, rfl, by decide +kernel, rfl, by decide +kernel, by decide +kernel⟩
abbrev s_read_row : Stmt := top 28
theorem sc_read_row : FnScope ["row", "words", "kinds"] ["row"] (defScope s_read_row) := ⟨rfl, rfl, rfl, by decide +kernel, rfl, by decide +kernel, by decide +kernel⟩
abbrev s_part : Stmt := top 29
theorem sc_part : FnScope ["kind", "word"] ["kind", "word"] (defScope s_part) := ⟨rfl, rfl, rfl, by decide +kernel, rfl, by decide +kernel, by decide +kernel⟩
abbrev s_fits : Stmt := top 30
theorem sc_fits : FnScope ["kind", "word"] ["kind", "word"] (defScope s_fits) := ⟨rfl, rfl, rfl, by decide +kernel, rfl, by decide +kernel, by decide +kernel⟩
abbrev s__law_stir : Stmt := top 32
theorem sc__law_stir : FnScope ["cell", "k", "number"] ["cell", "k"] (defScope s__law_stir) := ⟨rfl, rfl, rfl, by decide +kernel, rfl, by decide +kernel, by decide +kernel⟩
abbrev s__law_name : Stmt := top 33
theorem sc__law_name : FnScope ["number", "letters", "some", "size"] ["number"] (defScope s__law_name) := ⟨rfl, rfl, rfl, by decide +kernel, rfl, by decide +kernel, by decide +kernel⟩
abbrev s__law_row : Stmt := top 34
theorem sc__law_row : FnScope ["cell", "moment", "number", "name", "n", "hand", "kind"] ["cell", "moment"] (defScope s__law_row) := ⟨rfl, rfl, rfl, by decide +kernel, rfl, by decide +kernel, by decide +kernel⟩
abbrev s__law_log : Stmt := top 35
theorem sc__law_log : FnScope ["script", "moment", "found", "cell", "step"] ["script"] (defScope s__law_log) := ⟨rfl, rfl, rfl, by decide +kernel, rfl, by decide +kernel, by decide +kernel⟩
abbrev s__law_text : Stmt := top 36
theorem sc__law_text : FnScope ["log", "text", "row", "line", "part_v"] ["log"] (defScope s__law_text) := ⟨rfl, rfl, rfl, by decide +kernel, rfl, by decide +kernel, by decide +kernel⟩
abbrev s__law_refused : Stmt := top 37
theorem sc__law_refused : FnScope ["text", "told", "e"] ["text"] (defScope s__law_refused) := ⟨rfl, rfl, rfl, by decide +kernel, rfl, by decide +kernel, by decide +kernel⟩
abbrev s__law_spoilt_word : Stmt := top 38
theorem sc__law_spoilt_word : FnScope ["words", "cell", "k", "at", "number", "some", "kind"] ["words", "cell", "k"] (defScope s__law_spoilt_word) := ⟨rfl, rfl, rfl, by decide +kernel, rfl, by decide +kernel, by decide +kernel⟩
abbrev s__law_spoilt_rows : Stmt := top 39
theorem sc__law_spoilt_rows : FnScope ["rows", "cell", "k", "at", "there", "kind", "rest"] ["rows", "cell", "k"] (defScope s__law_spoilt_rows) := ⟨rfl, rfl, rfl, by decide +kernel, rfl, by decide +kernel, by decide +kernel⟩
abbrev s__law_spoilt : Stmt := top 40
theorem sc__law_spoilt : FnScope ["text", "cell", "k", "kind", "rows", "at", "signs", "sign"] ["text", "cell", "k"] (defScope s__law_spoilt) := ⟨rfl, rfl, rfl, by decide +kernel, rfl, by decide +kernel, by decide +kernel⟩
abbrev s__law_number : Stmt := top 41
theorem sc__law_number : FnScope ["word", "below", "figures"] ["word", "below"] (defScope s__law_number) := ⟨rfl, rfl, rfl, by decide +kernel, rfl, by decide +kernel, by decide +kernel⟩
abbrev s__law_is_name : Stmt := top 42
theorem sc__law_is_name : FnScope ["word", "some", "strange"] ["word"] (defScope s__law_is_name) := ⟨rfl, rfl, rfl, by decide +kernel, rfl, by decide +kernel, by decide +kernel⟩
abbrev s__law_part : Stmt := top 43
theorem sc__law_part : FnScope ["kind", "word"] ["kind", "word"] (defScope s__law_part) := ⟨rfl, rfl, rfl, by decide +kernel, rfl, by decide +kernel, by decide +kernel⟩
abbrev s__law_row_in : Stmt := top 44
theorem sc__law_row_in : FnScope ["words", "kinds", "parts"] ["words"] (defScope s__law_row_in) := ⟨rfl, rfl, rfl, by decide +kernel, rfl, by decide +kernel, by decide +kernel⟩
abbrev s__law_due : Stmt := top 45
theorem sc__law_due : FnScope ["text", "found", "row", "told"] ["text"] (defScope s__law_due) := ⟨rfl, rfl, rfl, by decide +kernel, rfl, by decide +kernel, by decide +kernel⟩
abbrev s__law_cell_at : Stmt := top 46
theorem sc__law_cell_at : FnScope ["script", "k"] ["script", "k"] (defScope s__law_cell_at) := ⟨rfl, rfl, rfl, by decide +kernel, rfl, by decide +kernel, by decide +kernel⟩
abbrev s_law : Stmt := top 47
theorem sc_law : FnScope ["script", "text", "k", "cell", "other", "due"] ["script"] (defScope s_law) := ⟨rfl, rfl, rfl, by decide +kernel, rfl, by decide +kernel, by decide +kernel⟩
end K71

set_option Elab.async false
set_option linter.all false
set_option maxRecDepth 100000
set_option maxHeartbeats 4000000
namespace K71
open PySem L2
def isL (s : Str) (c : Nat) : Bool := !(Builtin.Str.occurrences s ⟨#[c]⟩ 0 s.length 1).isEmpty
def noN : List V := [.str "tool", .str "store", .str "row", .str "hand", .str "end", .str "wait", .str "take", .str "give", .str "put", .str "get", .str "let", .str "draw", .str "say", .str "start", .str "if", .str "else", .str "while", .str "stop", .str "now", .str "own"]
def nameOk (x : Str) : Bool := decide (1 ≤ x.length) && decide (x.length ≤ 8) && !(inV (.str x) noN) && x.cps.toList.all (isL "abcdefghijklmnopqrstuvwxyz")
def numOk (x : Str) : Bool := decide (1 ≤ x.length) && decide (x.length ≤ 6) && (decide (x = "0") || !(PySem.Txt.startswith x "0")) && x.cps.toList.all (isL "0123456789")
theorem allSigns {L x : Str} {H : Hp} {Q : VK} (hz : x.length < sizeLine) (q : ∀ H', Same H H' → Q (.bl (x.cps.toList.all (isL L))) H') :
    tComp [] (iStr (tVar 0)) tYes (tOp (fun x y H Q => ∃ i, x = V.str i ∧ ∃ x, y = V.str x ∧ Q (V.bl !(Builtin.Str.occurrences x i 0 x.length 1).isEmpty) H) (tVar 0) (tC (V.str L)))
      [some (V.str x)] H fun x H1 => ∃ p, x = V.ref p ∧ ∃ x, H1 p = some (HO.lst (List.map V.bl x)) ∧ Q (V.bl (x.all id)) H1 := by
  refine tcomp_str x (fun _ => true) (fun c => .bl (isL L c)) (fun R hR => ⟨_, rfl, hR⟩) hz (fun c hc H Q h => h) (fun c hc _ H Q h => ?_) fun D H' hD hS e => ?_
  · exact ⟨_, rfl, _, rfl, _, rfl, h⟩
  · refine ⟨D, rfl, (x.cps.toList.filter fun _ => true).map (isL L), by rw [e, List.map_map]; rfl, ?_⟩
    have := q H' hS
    simpa using this
theorem sz8 {n : Nat} (h : n ≤ 8) : n < sizeLine := by unfold sizeLine; omega
section
variable {P : Program} {w : World} {K : PySem.W.Frag} {mg : Str → Option Value} {base : Heap}
def spIsName : Sp := fun vs H Q _ => ∃ x : Str, vs = [.str x] ∧ x.length ≤ sizeLine ∧ ∀ H', Same H H' → Q (.bl (nameOk x)) H'
theorem ok_is_name (D : DefAt K mg "is_name" s_is_name ["word"]) {t1 t2 : Tok} {aNN : Addr} (hML : mg "MOST_LETTERS" = some (.int 8 t1)) (hLETTERS : mg "LETTERS" = some (.str "abcdefghijklmnopqrstuvwxyz" t2))
    (hNN : mg "NO_NAMES" = some (.ref aNN)) (qNN : ∀ H, SqT K H aNN noN) (hlen : mg "len" = none) (hall : mg "all" = none) : OkD P w K mg base 1 "is_name" ["word"] spIsName := by
  refine D.ok sc_is_name (fun vs H Q E h => ?_) (fun f cdv A outer s H vs Q E hr h => ?_)
  · obtain ⟨x, rfl, _⟩ := h; rfl
  obtain ⟨x, rfl, hz, q⟩ := h
  refine ⟨_, (pss_one (ps_ret (pe_and (pe_chain op_le op_le pe_int (pe_cB call_len_str rfl hlen PySem.boot_len (pa_c (pv 0) pa_nil)) (pe_glob (v := .int 8) rfl hML ⟨_, rfl⟩)) (pe_and (pe_cmpR op_notInK (pv 0) (pe_glob (v := .ref aNN) rfl hNN rfl) (by with_unfolding_all rfl)) (pe_one (pe_cB (call_all rfl) rfl hall (by decide +kernel) (pa_c (pe_comp (comp_scope0 rfl rfl rfl) rfl (pi_str (pv 0)) rfl rfl (fun _ _ _ _ => pts_nil) (fun _ _ _ _ => (pe_cmpR op_in_str (pv 0) (pe_glob (v := .str "abcdefghijklmnopqrstuvwxyz") rfl hLETTERS ⟨_, rfl⟩) (by with_unfolding_all rfl)))) pa_nil))))))), ?_⟩
  walk_at "rd"
  unfold nameOk at q
  by_cases h1 : (1 : Int) ≤ x.length
  · by_cases h2 : (x.length : Int) ≤ 8
    · rw [if_pos h1, if_pos h2]
      refine ⟨noN, qNN, by decide +kernel, ?_⟩
      have e1 : decide (1 ≤ x.length) = true := decide_eq_true (by omega)
      have e2 : decide (x.length ≤ 8) = true := decide_eq_true (by omega)
      rw [e1, e2] at q
      cases hN : inV (.str x) noN with
      | true => rw [hN] at q; exact iteF (q H (Same.refl H))
      | false =>
        rw [hN] at q
        exact iteT (allSigns (sz8 (by omega)) (by simpa using q))
    · rw [if_pos h1, if_neg h2]
      have e2 : decide (x.length ≤ 8) = false := decide_eq_false (by omega)
      rw [e2] at q
      simpa using q H (Same.refl H)
  · rw [if_neg h1]
    have e1 : decide (1 ≤ x.length) = false := decide_eq_false (by omega)
    rw [e1] at q
    simpa using q H (Same.refl H)
def wholeOk (m : Nat) (x : Str) : Bool := decide (1 ≤ x.length) && decide (x.length ≤ m) && (decide (x = "0") || !(PySem.Txt.startswith x "0")) && x.cps.toList.all (isL "0123456789")
def spWhole : Sp := fun vs H Q _ => ∃ (x : Str) (m : Nat), vs = [.str x, .int (m : Nat)] ∧ m ≤ 8 ∧ x.length ≤ sizeLine ∧ ∀ H', Same H H' → Q (.bl (wholeOk m x)) H'
theorem ok_is_whole (D : DefAt K mg "is_whole" s_is_whole ["word", "most"]) {t2 : Tok} (hFIGURES : mg "FIGURES" = some (.str "0123456789" t2))
    (hlen : mg "len" = none) (hall : mg "all" = none) : OkD P w K mg base 1 "is_whole" ["word", "most"] spWhole := by
  refine D.ok sc_is_whole (fun vs H Q E h => ?_) (fun f cdv A outer s H vs Q E hr h => ?_)
  · obtain ⟨x, m, rfl, _⟩ := h; rfl
  obtain ⟨x, m, rfl, hm, hz, q⟩ := h
  refine ⟨_, (pss_one (ps_ret (pe_and (pe_chain op_le op_le pe_int (pe_cB call_len_str rfl hlen PySem.boot_len (pa_c (pv 0) pa_nil)) (pv 1)) (pe_and (pe_or (pe_cmpR op_eq (pv 0) pe_str (nomark _)) (pe_one (pe_not (pe_startswith (pv 0) pe_str)))) (pe_one (pe_cB (call_all rfl) rfl hall (by decide +kernel) (pa_c (pe_comp (comp_scope0 rfl rfl rfl) rfl (pi_str (pv 0)) rfl rfl (fun _ _ _ _ => pts_nil) (fun _ _ _ _ => (pe_cmpR op_in_str (pv 0) (pe_glob (v := .str "0123456789") rfl hFIGURES ⟨_, rfl⟩) (by with_unfolding_all rfl)))) pa_nil))))))), ?_⟩
  walk_at "rd"
  unfold wholeOk at q
  by_cases h1 : (1 : Int) ≤ x.length
  · by_cases h2 : (x.length : Int) ≤ m
    · rw [if_pos h1, if_pos h2]
      have e1 : decide (1 ≤ x.length) = true := decide_eq_true (by omega)
      have e2 : decide (x.length ≤ m) = true := decide_eq_true (by omega)
      rw [e1, e2] at q
      by_cases h3 : x = Str.ofString "0"
      · rw [if_pos h3]
        have e3 : decide (x = Str.ofString "0") = true := decide_eq_true h3
        rw [e3] at q
        exact allSigns (sz8 (by omega)) (by simpa using q)
      · rw [if_neg h3]
        have e3 : decide (x = Str.ofString "0") = false := decide_eq_false h3
        rw [e3] at q
        cases h4 : PySem.Txt.startswith x (Str.ofString "0") with
        | true => rw [h4] at q; exact iteF (by simpa using q H (Same.refl H))
        | false => rw [h4] at q; exact iteT (allSigns (sz8 (by omega)) (by simpa using q))
    · rw [if_pos h1, if_neg h2]
      have e2 : decide (x.length ≤ m) = false := decide_eq_false (by omega)
      rw [e2] at q
      simpa using q H (Same.refl H)
  · rw [if_neg h1]
    have e1 : decide (1 ≤ x.length) = false := decide_eq_false (by omega)
    rw [e1] at q
    simpa using q H (Same.refl H)
def spIsNum : Sp := fun vs H Q _ => ∃ x : Str, vs = [.str x] ∧ x.length ≤ sizeLine ∧ ∀ H', Same H H' → Q (.bl (numOk x)) H'
theorem ok_is_number (D : DefAt K mg "is_number" s_is_number ["word"]) {t1 : Tok} (hMF : mg "MOST_FIGURES_words" = some (.int 6 t1)) (G_is_whole : OkD P w K mg base 1 "is_whole" ["word", "most"] spWhole) : OkD P w K mg base 2 "is_number" ["word"] spIsNum := by
  refine D.ok sc_is_number (fun vs H Q E h => ?_) (fun f cdv A outer s H vs Q E hr h => ?_)
  · obtain ⟨x, rfl, _⟩ := h; rfl
  obtain ⟨x, rfl, hz, q⟩ := h
  refine ⟨_, (pss_one (ps_ret (pe_def G_is_whole hr rfl (pa_c (pv 0) (pa_c (pe_glob (v := .int 6) rfl hMF ⟨_, rfl⟩) pa_nil))))), ?_⟩
  walk_at "rd"
  exact ⟨x, 6, rfl, by omega, hz, fun H' g => q H' g⟩
end
end K71

set_option Elab.async false
set_option linter.all false
set_option maxRecDepth 100000
set_option maxHeartbeats 4000000
namespace K71
open PySem L2
theorem isL_mem {s : Str} {c : Nat} : isL s c = decide (c ∈ s.cps.toList) := PySem.StrLaws.found_one s c
theorem figs : (Str.ofString "0123456789").cps.toList = [48, 49, 50, 51, 52, 53, 54, 55, 56, 57] := by decide +kernel
theorem fig_dig {c : Nat} (h : isL "0123456789" c = true) : 48 ≤ c ∧ c ≤ 57 := by
  rw [isL_mem, decide_eq_true_eq] at h
  have h' : c ∈ (Str.ofString "0123456789").cps.toList := h
  rw [figs] at h'
  simp only [List.mem_cons, List.not_mem_nil, or_false] at h'
  omega
theorem num_int {x : Str} (h : numOk x = true) : x.length ≤ 6 ∧ PySem.intText? x = some ((PySem.NumText.digitsVal x.cps.toList : Nat) : Int) := by
  unfold numOk at h
  simp only [Bool.and_eq_true, decide_eq_true_eq] at h
  obtain ⟨⟨⟨h1, h2⟩, _⟩, h4⟩ := h
  refine ⟨h2, PySem.intText_digits (fun c hc => fig_dig (List.all_eq_true.mp h4 c hc)) (fun e => ?_) (by omega)⟩
  have : x.cps.toList.length = x.length := Array.length_toList
  rw [e] at this
  have e0 : (0 : Nat) = x.length := this
  omega
theorem dig_head (m : Nat) (h : 0 < m) : ∃ c r, Nat.toDigits 10 m = c :: r ∧ c.toNat ≠ 48 := by
  induction m using Nat.strongRecOn with
  | _ m ih =>
    by_cases hm : m < 10
    · refine ⟨Nat.digitChar m, [], Nat.toDigits_of_lt_base hm, ?_⟩
      have : ∀ d : Nat, d < 10 → 0 < d → (Nat.digitChar d).toNat ≠ 48 := by decide
      exact this m hm h
    · have hq : m % 10 < 10 := Nat.mod_lt m (by decide)
      have t : Nat.toDigits 10 (m / 10) ++ Nat.toDigits 10 (m % 10) = Nat.toDigits 10 (10 * (m / 10) + m % 10) := Nat.toDigits_append_toDigits (by decide) (by omega) hq
      rw [Nat.div_add_mod] at t
      obtain ⟨c, r, e, hc⟩ := ih (m / 10) (by omega) (by omega)
      exact ⟨c, r ++ Nat.toDigits 10 (m % 10), by rw [← t, e]; rfl, hc⟩
theorem letS : (Str.ofString "abcdefghijklmnopqrstuvwxyz").cps.toList = [97, 98, 99, 100, 101, 102, 103, 104, 105, 106, 107, 108, 109, 110, 111, 112, 113, 114, 115, 116, 117, 118, 119, 120, 121, 122] := by decide +kernel
theorem let_no {c : Nat} (h : isL "abcdefghijklmnopqrstuvwxyz" c = true) : 97 ≤ c ∧ c ≤ 122 := by
  rw [isL_mem, decide_eq_true_eq] at h
  have h' : c ∈ (Str.ofString "abcdefghijklmnopqrstuvwxyz").cps.toList := h
  rw [letS] at h'
  simp only [List.mem_cons, List.not_mem_nil, or_false] at h'
  omega
theorem num_cps (k : Nat) : (Str.ofString (toString ((k : Nat) : Int))).cps.toList = (Nat.toDigits 10 k).map Char.toNat := PySem.W.KIN.signs_num k
theorem fig_is {c : Char} (h : c.isDigit = true) : isL "0123456789" c.toNat = true := by
  rw [isL_mem, decide_eq_true_eq]
  show c.toNat ∈ (Str.ofString "0123456789").cps.toList
  rw [figs]
  unfold Char.isDigit at h
  simp only [Bool.and_eq_true, decide_eq_true_eq] at h
  have h1 : c.val.toNat ≥ 48 := h.1
  have h2 : c.val.toNat ≤ 57 := h.2
  have e : c.toNat = c.val.toNat := rfl
  simp only [List.mem_cons, List.not_mem_nil, or_false]
  omega
theorem num_len {k : Nat} (h : k < 10 ^ 6) : 1 ≤ (Str.ofString (toString ((k : Nat) : Int))).length ∧ (Str.ofString (toString ((k : Nat) : Int))).length ≤ 6 := by
  have e : (Str.ofString (toString ((k : Nat) : Int))).cps.toList.length = (Str.ofString (toString ((k : Nat) : Int))).length := Array.length_toList
  rw [← e, num_cps, List.length_map]
  exact ⟨PySem.toDigits_len_ge 10 k, PySem.toDigits_len_pow (by decide) (by decide) h⟩
theorem num_dig (k : Nat) : ∀ c ∈ (Str.ofString (toString ((k : Nat) : Int))).cps.toList, isL "0123456789" c = true := fun c hc => by
  rw [num_cps] at hc
  obtain ⟨d, hd, rfl⟩ := List.mem_map.mp hc
  exact fig_is (Nat.isDigit_of_mem_toDigits (by decide) (by decide) hd)
theorem num_len7 {k m : Nat} (hm : 0 < m) (h : k < 10 ^ m) : 1 ≤ (Str.ofString (toString ((k : Nat) : Int))).length ∧ (Str.ofString (toString ((k : Nat) : Int))).length ≤ m := by
  have e : (Str.ofString (toString ((k : Nat) : Int))).cps.toList.length = (Str.ofString (toString ((k : Nat) : Int))).length := Array.length_toList
  rw [← e, num_cps, List.length_map]
  exact ⟨PySem.toDigits_len_ge 10 k, PySem.toDigits_len_pow (by decide) hm h⟩
theorem num_zero (k : Nat) : (decide (Str.ofString (toString ((k : Nat) : Int)) = "0") || !(PySem.Txt.startswith (Str.ofString (toString ((k : Nat) : Int))) "0")) = true := by
  by_cases hk : k = 0
  · subst hk
    decide +kernel
  · obtain ⟨ch, rr, ed, hch⟩ := dig_head k (by omega)
    have hs : PySem.Txt.startswith (Str.ofString (toString ((k : Nat) : Int))) (Str.ofString "0") = false := by
      have h1 : (Str.ofString "0").length = 1 := by decide +kernel
      have z : (Str.ofString "0").cps.toList = [48] := by decide +kernel
      unfold PySem.Txt.startswith
      rw [PySem.StrLaws.subAt_eq, h1, num_cps, ed, z]
      rw [Bool.eq_false_iff]
      intro q
      simp at q
      exact hch q.2
    rw [hs, Bool.not_false, Bool.or_true]
theorem num_whole {k m : Nat} (hm : 0 < m) (h : k < 10 ^ m) : wholeOk m (Str.ofString (toString ((k : Nat) : Int))) = true := by
  unfold wholeOk
  have hl := num_len7 hm h
  rw [decide_eq_true hl.1, decide_eq_true hl.2, num_zero, List.all_eq_true.mpr (num_dig k)]
  rfl
theorem num_ok {k : Nat} (h : k < 10 ^ 6) : numOk (Str.ofString (toString ((k : Nat) : Int))) = true := num_whole (m := 6) (by decide) h
/-! ### join and split by one sign -/
def jn (c : Nat) : List (List Nat) → List Nat
  | [] => []
  | [x] => x
  | x :: y :: r => x ++ c :: jn c (y :: r)
theorem app_inj {c : Nat} : ∀ {x y A B : List Nat}, c ∉ x → c ∉ y → x ++ c :: A = y ++ c :: B → x = y ∧ A = B
  | [], [], A, B, _, _, h => by injection h with _ h; exact ⟨rfl, h⟩
  | [], d :: y, A, B, _, hy, h => by injection h with h _; exact absurd (h ▸ List.mem_cons_self) hy
  | d :: x, [], A, B, hx, _, h => by injection h with h _; exact absurd (h ▸ List.mem_cons_self) hx
  | d :: x, e :: y, A, B, hx, hy, h => by
    injection h with h1 h2
    obtain ⟨a, b⟩ := app_inj (fun z => hx (List.mem_cons_of_mem _ z)) (fun z => hy (List.mem_cons_of_mem _ z)) h2
    exact ⟨by rw [h1, a], b⟩
theorem jn_inj {c : Nat} : ∀ {l m : List (List Nat)}, l ≠ [] → m ≠ [] → (∀ x ∈ l, c ∉ x) → (∀ x ∈ m, c ∉ x) → jn c l = jn c m → l = m
  | [], _, h, _, _, _, _ => absurd rfl h
  | _, [], _, h, _, _, _ => absurd rfl h
  | [x], [y], _, _, _, _, h => by rw [show x = y from h]
  | [x], y :: z :: r, _, _, hx, _, h => absurd (show c ∈ x by rw [show x = y ++ c :: jn c (z :: r) from h]; simp) (hx x List.mem_cons_self)
  | x :: z :: r, [y], _, _, _, hy, h => absurd (show c ∈ y by rw [← show x ++ c :: jn c (z :: r) = y from h]; simp) (hy y List.mem_cons_self)
  | x :: z :: r, y :: z' :: r', _, _, hx, hy, h => by
    obtain ⟨a, b⟩ := app_inj (hx x List.mem_cons_self) (hy y List.mem_cons_self) (show x ++ c :: jn c (z :: r) = y ++ c :: jn c (z' :: r') from h)
    rw [a, jn_inj (by simp) (by simp) (fun q hq => hx q (List.mem_cons_of_mem _ hq)) (fun q hq => hy q (List.mem_cons_of_mem _ hq)) b]
theorem join_jn (c : Nat) : ∀ ts : List Str, (Str.join ⟨#[c]⟩ ts).cps.toList = jn c (ts.map fun t => t.cps.toList)
  | [] => rfl
  | [x] => rfl
  | x :: y :: r => by
    show ((x ++ ⟨#[c]⟩ ++ Str.join ⟨#[c]⟩ (y :: r)) : Str).cps.toList = _
    have e : ((x ++ ⟨#[c]⟩ ++ Str.join ⟨#[c]⟩ (y :: r)) : Str).cps = x.cps ++ #[c] ++ (Str.join ⟨#[c]⟩ (y :: r)).cps := rfl
    rw [e, Array.toList_append, Array.toList_append, join_jn c (y :: r)]
    simp [jn]
theorem split_of (c : Nat) {ys : List Str} (hy : ys ≠ []) (h : ∀ y ∈ ys, c ∉ y.cps.toList) : PySem.Txt.split (Str.join ⟨#[c]⟩ ys) ⟨#[c]⟩ = ys := by
  have e := PySem.StrLaws.join_split (Str.join ⟨#[c]⟩ ys) ⟨#[c]⟩
  have f := PySem.StrLaws.split_free (Str.join ⟨#[c]⟩ ys) c
  have ne : PySem.Txt.split (Str.join ⟨#[c]⟩ ys) ⟨#[c]⟩ ≠ [] := fun z => by
    have := PyProof.Rows.split_pos (Str.join ⟨#[c]⟩ ys) ⟨#[c]⟩
    rw [z] at this; simp at this
  have e2 := congrArg (fun s : Str => s.cps.toList) e
  simp only [join_jn] at e2
  have := jn_inj (c := c) (by simpa using ne) (by simpa using hy) (fun x hx => by obtain ⟨t, ht, rfl⟩ := List.mem_map.mp hx; exact f t ht) (fun x hx => by obtain ⟨t, ht, rfl⟩ := List.mem_map.mp hx; exact h t ht) e2
  have inj : ∀ {l m : List Str}, (l.map fun t => t.cps.toList) = (m.map fun t => t.cps.toList) → l = m := by
    intro l
    induction l with
    | nil => intro m h; cases m with
      | nil => rfl
      | cons _ _ => cases h
    | cons a l ih =>
      intro m h
      cases m with
      | nil => cases h
      | cons b m =>
        rw [List.map_cons, List.map_cons] at h
        injection h with h1 h2
        rw [ih h2, PySem.Str.ext' (Array.toList_inj.mp h1)]
  exact inj this
theorem cat_len (a b : Str) : (a ++ b).length = a.length + b.length := by
  show (a.cps ++ b.cps).size = _
  rw [Array.size_append]
  rfl
theorem len_cps (x : Str) : x.cps.toList.length = x.length := Array.length_toList
theorem len_emp : Str.empty.length = 0 := rfl
end K71

set_option Elab.async false
set_option linter.all false
set_option maxRecDepth 100000
set_option maxHeartbeats 4000000
namespace K71
open PySem L2
def txtK : Key → Str
  | .inl i => Str.ofString (toString i)
  | .inr x => x
def fitB (k w : Str) : Bool :=
  if k = "name" then nameOk w else if k = "asked" then (decide (w = "take") || decide (w = "put") || decide (w = "get")) else if k = "moment" then numOk w else if k = "nobody" then decide (w = "0")
  else if k = "hand" then (!decide (w = "0") && wholeOk 7 w) else if k = "said" ∧ PySem.Txt.startswith w "-" = true then (!decide (w = "-0") && wholeOk 7 (PySem.Txt.slice w (some 1) none))
  else (decide (k = "word") || wholeOk 7 w)
section
variable {P : Program} {w : World} {K : PySem.W.Frag} {mg : Str → Option Value} {base : Heap}
def spFits : Sp := fun vs H Q _ => ∃ k x : Str, vs = [.str k, .str x] ∧ x.length ≤ 1000000 ∧ ∀ H', Same H H' → Q (.bl (fitB k x)) H'
theorem ok_fits (D : DefAt K mg "fits" s_fits ["kind", "word"]) {t3 : Tok} (hMG : mg "MOST_FIGURES_logs" = some (.int 7 t3)) (G_is_name : OkD P w K mg base 1 "is_name" ["word"] spIsName) (G_is_number : OkD P w K mg base 2 "is_number" ["word"] spIsNum) (G_is_whole : OkD P w K mg base 1 "is_whole" ["word", "most"] spWhole) : OkD P w K mg base 3 "fits" ["kind", "word"] spFits := by
  refine D.ok sc_fits (fun vs H Q E h => ?_) (fun f cdv A outer s H vs Q E hr h => ?_)
  · obtain ⟨k, x, rfl, _⟩ := h; rfl
  obtain ⟨k, x, rfl, hx, q⟩ := h
  have big : 1000000 ≤ sizeLine := by unfold sizeLine; decide
  refine ⟨_, (pss_cons (ps_if (pt_cmpR op_eq (pv 0) pe_str (nomark _))
  (pss_one (ps_ret (pe_def G_is_name hr rfl (pa_c (pv 1) pa_nil))))
  pss_nil)
  (pss_cons (ps_if (pt_cmpR op_eq (pv 0) pe_str (nomark _))
  (pss_one (ps_ret (pe_cmpR op_inG (pv 1) (pe_tupG (pa_c pe_str (pa_c pe_str (pa_c pe_str pa_nil)))) (by with_unfolding_all rfl))))
  pss_nil)
  (pss_cons (ps_if (pt_cmpR op_eq (pv 0) pe_str (nomark _))
  (pss_one (ps_ret (pe_def G_is_number hr rfl (pa_c (pv 1) pa_nil))))
  pss_nil)
  (pss_cons (ps_if (pt_cmpR op_eq (pv 0) pe_str (nomark _))
  (pss_one (ps_ret (pe_cmpR op_eq (pv 1) pe_str (nomark _))))
  pss_nil)
  (pss_cons (ps_if (pt_cmpR op_eq (pv 0) pe_str (nomark _))
  (pss_one (ps_ret (pe_and (pe_cmpR op_ne (pv 1) pe_str (nomark _)) (pe_one (pe_def G_is_whole hr rfl (pa_c (pv 1) (pa_c (pe_glob (v := .int 7) rfl hMG ⟨_, rfl⟩) pa_nil)))))))
  pss_nil)
  (pss_cons (ps_if (PW.pt (pw_and (pt_cmpR op_eq (pv 0) pe_str (nomark _)) (pw_and1 (pt_truth (pe_startswith (pv 1) pe_str) (fun _ => rfl)))))
  (pss_one (ps_ret (pe_and (pe_cmpR op_ne (pv 1) pe_str (nomark _)) (pe_one (pe_def G_is_whole hr rfl (pa_c (pe_slice sl_str (pv 1) (po_some pe_int) po_none) (pa_c (pe_glob (v := .int 7) rfl hMG ⟨_, rfl⟩) pa_nil)))))))
  pss_nil)
  (pss_one (ps_ret (pe_or (pe_cmpR op_eq (pv 0) pe_str (nomark _)) (pe_one (pe_def G_is_whole hr rfl (pa_c (pv 1) (pa_c (pe_glob (v := .int 7) rfl hMG ⟨_, rfl⟩) pa_nil))))))))))))), ?_⟩
  walk_at "rz"
  refine ite2 (fun c1 => ?_) fun c1 => ?_
  · have e : fitB k x = nameOk x := by unfold fitB; rw [if_pos c1]
    rw [e] at q
    walk_at "rz"
    exact ⟨x, rfl, by omega, q⟩
  walk_at "rz"
  refine ite2 (fun c2 => ?_) fun c2 => ?_
  · have e : fitB k x = (decide (x = "take") || decide (x = "put") || decide (x = "get")) := by unfold fitB; rw [if_neg c1, if_pos c2]
    rw [e] at q
    walk_at "rz"
    intro p1 H1 hp1 g1 h1
    walk_at "rz"
    have := q H1 g1
    have sy : ∀ a b : Str, decide (a = b) = decide (b = a) := fun a b => by by_cases z : a = b <;> simp [z, eq_comm]
    rw [sy "take" x, sy "put" x, sy "get" x, ← Bool.or_assoc]
    exact this
  walk_at "rz"
  refine ite2 (fun c3 => ?_) fun c3 => ?_
  · have e : fitB k x = numOk x := by unfold fitB; rw [if_neg c1, if_neg c2, if_pos c3]
    rw [e] at q
    walk_at "rz"
    exact ⟨x, rfl, by omega, q⟩
  walk_at "rz"
  refine ite2 (fun c4 => ?_) fun c4 => ?_
  · have e : fitB k x = decide (x = "0") := by unfold fitB; rw [if_neg c1, if_neg c2, if_neg c3, if_pos c4]
    rw [e] at q
    walk_at "rz"
    exact q H (Same.refl H)
  walk_at "rz"
  refine ite2 (fun c5 => ?_) fun c5 => ?_
  · have e : fitB k x = (!decide (x = "0") && wholeOk 7 x) := by unfold fitB; rw [if_neg c1, if_neg c2, if_neg c3, if_neg c4, if_pos c5]
    rw [e] at q
    walk_at "rz"
    refine ite2 (fun d => ?_) fun d => ?_
    · rw [d, Bool.true_and] at q
      walk_at "rz"
      exact ⟨x, 7, rfl, by omega, by omega, q⟩
    · have d' : (!decide (x = Str.ofString "0")) = false := by simpa using d
      rw [d', Bool.false_and] at q
      walk_at "rz"
      exact q H (Same.refl H)
  walk_at "rz"
  have last : ¬ (k = "said" ∧ PySem.Txt.startswith x "-" = true) → fitB k x = (decide (k = "word") || wholeOk 7 x) := fun c6 => by unfold fitB; rw [if_neg c1, if_neg c2, if_neg c3, if_neg c4, if_neg c5, if_neg c6]
  refine ite2 (fun c6 => ?_) fun c6 => ?_
  · walk_at "rz"
    refine ⟨_, rfl, ?_⟩
    refine ite2 (fun c8 => ?_) fun c8 => ?_
    · have e : fitB k x = (!decide (x = "-0") && wholeOk 7 (PySem.Txt.slice x (some 1) none)) := by unfold fitB; rw [if_neg c1, if_neg c2, if_neg c3, if_neg c4, if_neg c5, if_pos ⟨c6, c8⟩]
      rw [e] at q
      walk_at "rz"
      refine ite2 (fun d => ?_) fun d => ?_
      · rw [d, Bool.true_and] at q
        walk_at "rz"
        have := PySem.Txt.slice_le x (some 1) none
        refine ⟨by omega, _, 7, rfl, by omega, by omega, q⟩
      · have d' : (!decide (x = Str.ofString "-0")) = false := by simpa using d
        rw [d', Bool.false_and] at q
        walk_at "rz"
        exact q H (Same.refl H)
    · rw [last (fun z => c8 z.2), decide_eq_false (by rw [c6]; decide +kernel), Bool.false_or] at q
      walk_at "rz"
      exact ⟨x, 7, rfl, by omega, by omega, q⟩
  · rw [last (fun z => c6 z.1)] at q
    walk_at "rz"
    refine ite2 (fun c7 => ?_) fun c7 => ?_
    · rw [decide_eq_true c7, Bool.true_or] at q
      exact q H (Same.refl H)
    · rw [decide_eq_false c7, Bool.false_or] at q
      walk_at "rz"
      exact ⟨x, 7, rfl, by omega, by omega, q⟩
def isTx (k : Str) : Bool := decide (k = "word" ∨ k = "name" ∨ k = "asked")
def partV (k x : Str) : Option Key := if fitB k x = true then some (if isTx k = true then .inr x else .inl ((PySem.intText? x).getD 0)) else none
def spPart (C : Addr) : Sp := fun vs H Q E => ∃ k x : Str, vs = [.str k, .str x] ∧ k.length ≤ 100 ∧ x.length ≤ 1000000 ∧ (fitB k x = true → isTx k = false → x.length ≤ 100 ∧ ∃ n, PySem.intText? x = some n) ∧ (∀ v, partV k x = some v → ∀ H', Same H H' → Q (kV v) H') ∧ (partV k x = none → ∀ H', Same H H' → E (.ref C) none H')
theorem ok_part {C : Addr} (D : DefAt K mg "part" s_part ["kind", "word"]) (G_fits : OkD P w K mg base 3 "fits" ["kind", "word"] spFits) (hint : mg "int" = none) (O_NoLog : ExcAt K mg "NoLog" C) : OkR P w K mg base 4 "part" ["kind", "word"] (spPart C) := by
  refine D.okR sc_part (fun vs H Q E h => ?_) (fun f cdv A outer s H vs Q E hr h => ?_)
  · obtain ⟨k, x, rfl, _⟩ := h; rfl
  obtain ⟨k, x, rfl, hk, hx, hi, q, e⟩ := h
  have big : 2000000 ≤ sizeLine := by unfold sizeLine; decide
  refine ⟨_, (pss_cons (ps_if (pt_not (pt_val (pe_defR G_fits.toR passR hr rfl (pa_c (pv 0) (pa_c (pv 1) pa_nil)))))
  (pss_one (ps_raise raises_def rfl O_NoLog rfl (pa_c (pe_fstr (pj_cons pe_str (pj_cons (pe_fmt (pv 0)) (pj_cons pe_str (pj_cons (pe_fmt (pv 1)) pj_nil))))) pa_nil)))
  pss_nil)
  (pss_cons (ps_if (pt_cmpR op_inG (pv 0) (pe_tupG (pa_c pe_str (pa_c pe_str (pa_c pe_str pa_nil)))) (by with_unfolding_all rfl))
  (pss_one (ps_ret (pv 1)))
  pss_nil)
  (pss_one (ps_ret (pe_cTy call_int_str rfl hint (by decide +kernel) (pa_c (pv 1) pa_nil)))))), ?_⟩
  walk_at "rz"
  refine ⟨k, x, rfl, by omega, fun H1 g1 => ?_⟩
  unfold partV at q e
  cases hf : fitB k x with
  | false =>
    rw [hf] at e
    have l1 : (Str.ofString "no ").length = 3 := by decide +kernel
    have l2 : (Str.ofString ": ").length = 2 := by decide +kernel
    walk_at "rz"
    iterate 7
      refine ⟨by first | omega | (simp only [cat_len, len_emp, l1, l2]; omega), ?_⟩
      walk_at "rz"
  | true =>
    rw [hf] at q
    walk_at "rz"
    intro p2 H2 hp2 g2 h2
    walk_at "rz"
    have e : (decide (Str.ofString "word" = k) || (decide (Str.ofString "name" = k) || decide (Str.ofString "asked" = k))) = isTx k := by
      have sy : ∀ a b : Str, decide (a = b) = decide (b = a) := fun a b => by by_cases z : a = b <;> simp [z, eq_comm]
      unfold isTx
      rw [sy "word" k, sy "name" k, sy "asked" k, Bool.decide_or, Bool.decide_or]
    rw [e]
    cases ht : isTx k with
    | true =>
      rw [ht] at q
      rw [if_pos rfl]
      walk_at "rz"
      exact q _ rfl H2 (g1.trans g2)
    | false =>
      rw [ht] at q
      obtain ⟨h100, n, hn⟩ := hi hf ht
      rw [if_neg (by decide)]
      walk_at "rz"
      have := q _ rfl H2 (g1.trans g2)
      rw [hn] at this
      exact ⟨by omega, this⟩
end
end K71

set_option Elab.async false
set_option linter.all false
set_option maxRecDepth 100000
set_option maxHeartbeats 4000000
namespace K71
open PySem L2
/-! ### numerals -/
theorem dv_lt : ∀ (n : Nat) (cs : List Nat), cs.length = n → PySem.NumText.AllDigits cs → PySem.NumText.digitsVal cs < 10 ^ n := by
  intro n
  induction n with
  | zero => intro cs h _; rw [List.length_eq_zero_iff.mp h]; decide
  | succ n ih =>
    intro cs h a
    have ne : cs ≠ [] := fun z => by rw [z] at h; cases h
    rw [← List.dropLast_concat_getLast ne, PySem.NumText.digitsVal_snoc]
    have i := ih cs.dropLast (by rw [List.length_dropLast, h]; rfl) fun c hc => a c ((List.dropLast_sublist cs).subset hc)
    have l := a _ (List.getLast_mem ne)
    rw [Nat.pow_succ]
    omega
theorem startsw (x : Str) (c : Nat) : PySem.Txt.startswith x ⟨#[c]⟩ = decide (x.cps.toList.head? = some c) := by
  unfold PySem.Txt.startswith
  rw [PySem.StrLaws.subAt_eq]
  have l : (⟨#[c]⟩ : Str).length = 1 := rfl
  have z : (⟨#[c]⟩ : Str).cps.toList = [c] := rfl
  rw [l, z, List.drop_zero, ← len_cps x]
  cases x.cps.toList with
  | nil => rfl
  | cons a t =>
    by_cases e : a = c
    · simp [e]
    · simp [e]
theorem str_ext {a b : Str} (h : a.cps.toList = b.cps.toList) : a = b := by
  cases a; cases b
  congr 1
  exact Array.ext' h
/-- a whole number's text is that of its worth -/
theorem canon {m : Nat} {x : Str} (h : wholeOk m x = true) : ∃ k : Nat, k < 10 ^ m ∧ x = Str.ofString (toString ((k : Nat) : Int)) := by
  unfold wholeOk at h
  simp only [Bool.and_eq_true, decide_eq_true_eq] at h
  obtain ⟨⟨⟨h1, h2⟩, h3⟩, h4⟩ := h
  have ad : PySem.NumText.AllDigits x.cps.toList := fun c hc => fig_dig (List.all_eq_true.mp h4 c hc)
  have le := len_cps x
  refine ⟨PySem.NumText.digitsVal x.cps.toList, Nat.lt_of_lt_of_le (dv_lt _ _ rfl ad) (Nat.pow_le_pow_right (by decide) (by omega)), ?_⟩
  apply str_ext
  rw [num_cps, PySem.NumText.toDigits_digitsVal (x.length - 1) x.cps.toList (by omega) ad ?_, List.map_map]
  · have o : ∀ c : Nat, c ≤ 57 → (Char.ofNat c).toNat = c := by decide +kernel
    have : ∀ l : List Nat, (∀ c ∈ l, c ≤ 57) → l = l.map (Char.toNat ∘ Char.ofNat) := by
      intro l
      induction l with
      | nil => intro _; rfl
      | cons c l ih =>
        intro h
        rw [List.map_cons, ← ih fun d hd => h d (List.mem_cons_of_mem _ hd)]
        show c :: l = (Char.ofNat c).toNat :: l
        rw [o c (h c List.mem_cons_self)]
    exact this _ fun c hc => (ad c hc).2
  · rcases Bool.or_eq_true_iff.mp h3 with e | e
    · left
      rw [decide_eq_true_eq] at e
      rw [e]
      decide +kernel
    · right
      rw [Bool.not_eq_true', show Str.ofString "0" = ⟨#[48]⟩ by decide +kernel, startsw, decide_eq_false_iff_not] at e
      cases hc : x.cps.toList with
      | nil => rw [hc] at le; have le : 0 = x.length := le; omega
      | cons c r =>
        rw [hc] at e
        have := ad c (by rw [hc]; exact List.mem_cons_self)
        exact ⟨c, r, rfl, by
          have : c ≠ 48 := fun z => e (by rw [z]; rfl)
          omega⟩
theorem num_reads {k : Nat} (h : k < 10 ^ 7) : PySem.intText? (Str.ofString (toString ((k : Nat) : Int))) = some (k : Int) := PySem.W.KIN.num_reads (n := (k : Int)) (by omega) (by omega)
theorem fit_number (x : Str) : fitB "number" x = wholeOk 7 x := by
  unfold fitB
  rw [if_neg (by decide +kernel), if_neg (by decide +kernel), if_neg (by decide +kernel), if_neg (by decide +kernel), if_neg (by decide +kernel), if_neg (fun z => absurd z.1 (by decide +kernel))]
  rw [decide_eq_false (by decide +kernel), Bool.false_or]
theorem fit_moment (x : Str) : fitB "moment" x = wholeOk 6 x := by
  unfold fitB
  rw [if_neg (by decide +kernel), if_neg (by decide +kernel), if_pos rfl]
  rfl
theorem fit_nobody (x : Str) : fitB "nobody" x = decide (x = "0") := by
  unfold fitB
  rw [if_neg (by decide +kernel), if_neg (by decide +kernel), if_neg (by decide +kernel), if_pos rfl]
theorem fit_hand (x : Str) : fitB "hand" x = (!decide (x = "0") && wholeOk 7 x) := by
  unfold fitB
  rw [if_neg (by decide +kernel), if_neg (by decide +kernel), if_neg (by decide +kernel), if_neg (by decide +kernel), if_pos rfl]
theorem fit_word (x : Str) : fitB "word" x = true := by
  unfold fitB
  rw [if_neg (by decide +kernel), if_neg (by decide +kernel), if_neg (by decide +kernel), if_neg (by decide +kernel), if_neg (by decide +kernel), if_neg (fun z => absurd z.1 (by decide +kernel)), decide_eq_true rfl, Bool.true_or]
theorem fit_name (x : Str) : fitB "name" x = nameOk x := by
  unfold fitB
  rw [if_pos rfl]
theorem fit_asked (x : Str) : fitB "asked" x = (decide (x = "take") || decide (x = "put") || decide (x = "get")) := by
  unfold fitB
  rw [if_neg (by decide +kernel), if_pos rfl]
theorem fit_said (x : Str) : fitB "said" x = if PySem.Txt.startswith x "-" = true then (!decide (x = "-0") && wholeOk 7 (PySem.Txt.slice x (some 1) none)) else wholeOk 7 x := by
  unfold fitB
  rw [if_neg (by decide +kernel), if_neg (by decide +kernel), if_neg (by decide +kernel), if_neg (by decide +kernel), if_neg (by decide +kernel)]
  by_cases z : PySem.Txt.startswith x "-" = true
  · rw [if_pos ⟨rfl, z⟩, if_pos z]
  · rw [if_neg (fun y => z y.2), if_neg z, decide_eq_false (by decide +kernel), Bool.false_or]
theorem neg_cps (k : Nat) : (Str.ofString (toString (Int.negSucc k))).cps.toList = 45 :: (Str.ofString (toString ((k + 1 : Nat) : Int))).cps.toList := by
  have : toString (Int.negSucc k) = "-" ++ toString ((k + 1 : Nat) : Int) := rfl
  rw [this]
  have e : ∀ a b : String, (Str.ofString (a ++ b)).cps.toList = (Str.ofString a).cps.toList ++ (Str.ofString b).cps.toList := fun a b => by
    have of : ∀ a : String, (Str.ofString a).cps.toList = a.toList.map Char.toNat := fun a => by simp [Str.ofString, PySem.cpsOfBytes_string]
    rw [of, of, of, String.toList_append, List.map_append]
  rw [e]
  rfl
theorem slice1 {x : Str} {c : Nat} {t : List Nat} (h : x.cps.toList = c :: t) : PySem.Txt.slice x (some 1) none = ⟨t.toArray⟩ := by
  rw [show PySem.Txt.slice x (some 1) none = PySem.StrLaws.sliceText x (some 1) none from rfl, PySem.StrLaws.sliceText_from ⟨by decide, by rw [h, List.length_cons]; omega⟩, h]
  have e2 : (((c :: t).length : Int) - 1).toNat = t.length := by rw [List.length_cons]; omega
  rw [e2, show (1 : Int).toNat = 1 from rfl, List.drop_succ_cons, List.drop_zero, List.take_of_length_le (Nat.le_refl _)]
/-- what is said below nothing -/
theorem canon_neg {x : Str} (hs : PySem.Txt.startswith x "-" = true) (h0 : x ≠ "-0") (hw : wholeOk 7 (PySem.Txt.slice x (some 1) none) = true) : ∃ k : Nat, k + 1 < 10 ^ 7 ∧ x = Str.ofString (toString (Int.negSucc k)) := by
  rw [show Str.ofString "-" = ⟨#[45]⟩ by decide +kernel, startsw, decide_eq_true_eq] at hs
  obtain ⟨t, ht⟩ : ∃ t, x.cps.toList = 45 :: t := by
    cases hc : x.cps.toList with
    | nil => rw [hc] at hs; cases hs
    | cons c r => rw [hc] at hs; cases hs; exact ⟨r, rfl⟩
  rw [slice1 ht] at hw
  obtain ⟨k, hk, e⟩ := canon hw
  have et : t = (Str.ofString (toString ((k : Nat) : Int))).cps.toList := by rw [← e]
  cases k with
  | zero =>
    exfalso
    apply h0
    apply str_ext
    rw [ht, et]
    decide +kernel
  | succ k =>
    refine ⟨k, hk, ?_⟩
    apply str_ext
    rw [ht, neg_cps, et]
theorem neg_reads {k : Nat} (h : k + 1 < 10 ^ 7) : PySem.intText? (Str.ofString (toString (Int.negSucc k))) = some (Int.negSucc k) := by
  have l := num_len7 (k := k + 1) (m := 7) (by decide) h
  have e := neg_cps k
  have ec := len_cps (Str.ofString (toString (Int.negSucc k)))
  rw [e, List.length_cons, len_cps] at ec
  have dv : PySem.NumText.digitsVal (Str.ofString (toString ((k + 1 : Nat) : Int))).cps.toList = k + 1 := by rw [num_cps]; exact PySem.W.KIN.val_back (k + 1)
  rw [PySem.intText_neg e (fun c hc => fig_dig (num_dig (k + 1) c hc)) (fun z => by
    have := len_cps (Str.ofString (toString ((k + 1 : Nat) : Int)))
    rw [z] at this
    have e0 : (0 : Nat) = (Str.ofString (toString ((k + 1 : Nat) : Int))).length := this
    omega) (by omega), dv]
  rfl
/-- the numbers that a part may be: their texts are their own -/
theorem fit_num {k x : Str} (h : fitB k x = true) (hk : k = "moment" ∨ k = "nobody" ∨ k = "hand" ∨ k = "number" ∨ k = "said") : ∃ n : Int, n.natAbs < 10 ^ 7 ∧ x = Str.ofString (toString n) ∧ PySem.intText? x = some n := by
  have nat : ∀ m, m ≤ 7 → wholeOk m x = true → ∃ n : Int, n.natAbs < 10 ^ 7 ∧ x = Str.ofString (toString n) ∧ PySem.intText? x = some n := fun m hm hw => by
    obtain ⟨j, hj, e⟩ := canon hw
    have hj7 : j < 10 ^ 7 := Nat.lt_of_lt_of_le hj (Nat.pow_le_pow_right (by decide) hm)
    exact ⟨(j : Int), by simpa using hj7, e, by rw [e]; exact num_reads hj7⟩
  rcases hk with rfl | rfl | rfl | rfl | rfl
  · rw [fit_moment] at h; exact nat 6 (by decide) h
  · rw [fit_nobody, decide_eq_true_eq] at h
    refine ⟨0, by decide, by rw [h]; decide +kernel, by rw [h]; decide +kernel⟩
  · rw [fit_hand, Bool.and_eq_true] at h; exact nat 7 (by decide) h.2
  · rw [fit_number] at h; exact nat 7 (by decide) h
  · rw [fit_said] at h
    by_cases z : PySem.Txt.startswith x "-" = true
    · rw [if_pos z, Bool.and_eq_true, Bool.not_eq_true', decide_eq_false_iff_not] at h
      obtain ⟨j, hj, e⟩ := canon_neg z h.1 h.2
      exact ⟨Int.negSucc j, hj, e, by rw [e]; exact neg_reads hj⟩
    · rw [if_neg z] at h; exact nat 7 (by decide) h
end K71

set_option Elab.async false
set_option linter.all false
set_option maxRecDepth 100000
set_option maxHeartbeats 4000000
namespace K71
open PySem L2
def formsL : List (Str × List Str) := [("begins", ["name"]), ("waits", ["number"]), ("queues", ["asked", "name", "number"]), ("takes", ["name", "number"]), ("puts", ["name", "number"]), ("gets", ["name", "number"]), ("gives", ["name", "number"]), ("says", ["name", "said"]), ("ends", []), ("brings", ["name", "number"])]
def kindsOf (x : Str) (fs : List Str) : List Str := ("moment" : Str) :: (if x = "brings" then "nobody" else "hand") :: "word" :: fs
def kindsAll : List Str := ["moment", "nobody", "hand", "number", "said", "word", "name", "asked"]
def asc (x : Str) : Prop := ∀ c ∈ x.cps.toList, c < 128
def Wd (x : Str) : Prop := asc x ∧ 32 ∉ x.cps.toList ∧ 10 ∉ x.cps.toList
def Fine (v : Key) : Prop := (32 ∉ (txtK v).cps.toList ∧ 10 ∉ (txtK v).cps.toList ∧ (txtK v).length ≤ 20) ∧ (∀ i : Int, v = .inl i → i.natAbs ≤ 10000000) ∧ asc (txtK v)
theorem num_fine {n : Int} (h : n.natAbs < 10 ^ 7) : Fine (.inl n) := by
  have dg : ∀ {k : Nat} {c : Nat}, c ∈ (Str.ofString (toString ((k : Nat) : Int))).cps.toList → 48 ≤ c ∧ c ≤ 57 := fun hc => fig_dig (num_dig _ _ hc)
  cases n with
  | ofNat k =>
    have hk : k < 10 ^ 7 := h
    have l := num_len7 (m := 7) (by decide) hk
    refine ⟨⟨fun z => ?_, fun z => ?_, by show (Str.ofString (toString ((k : Nat) : Int))).length ≤ 20; omega⟩, fun i e => (by cases e; omega), fun c hc => ?_⟩
    · have := dg (k := k) z; omega
    · have := dg (k := k) z; omega
    · have := dg (k := k) hc; omega
  | negSucc k =>
    have hk : k + 1 < 10 ^ 7 := h
    have l := num_len7 (k := k + 1) (m := 7) (by decide) hk
    have e := neg_cps k
    have ec := len_cps (Str.ofString (toString (Int.negSucc k)))
    rw [e, List.length_cons, len_cps] at ec
    have dg2 : ∀ c ∈ (Str.ofString (toString (Int.negSucc k))).cps.toList, c = 45 ∨ (48 ≤ c ∧ c ≤ 57) := fun c hc => by
      rw [e] at hc
      rcases List.mem_cons.mp hc with z | z
      · exact .inl z
      · exact .inr (dg z)
    refine ⟨⟨fun z => ?_, fun z => ?_, by show (Str.ofString (toString (Int.negSucc k))).length ≤ 20; omega⟩, fun i e => (by cases e; omega), fun c hc => ?_⟩
    · have := dg2 _ z; omega
    · have := dg2 _ z; omega
    · have := dg2 _ hc; omega
theorem name_len {x : Str} (h : nameOk x = true) : x.length ≤ 8 ∧ ∀ c ∈ x.cps.toList, 97 ≤ c ∧ c ≤ 122 := by
  unfold nameOk at h
  simp only [Bool.and_eq_true, decide_eq_true_eq] at h
  exact ⟨h.1.1.2, fun c hc => let_no (List.all_eq_true.mp h.2 c hc)⟩
theorem word_fine {x : Str} (hw : Wd x) (hl : x.length ≤ 20) : Fine (.inr x) := ⟨⟨hw.2.1, hw.2.2, hl⟩, fun i e => (by cases e), hw.1⟩
theorem part_fine {k x : Str} {v : Key} (h : partV k x = some v) (hk : k ∈ kindsAll) (hw : Wd x) (hl : k = "word" → x.length ≤ 20) : txtK v = x ∧ Fine v := by
  unfold partV at h
  by_cases hf : fitB k x = true
  · rw [if_pos hf] at h
    injection h with h
    have tx : isTx k = true → x.length ≤ 20 → txtK v = x ∧ Fine v := fun ht l => by
      rw [if_pos ht] at h
      rw [← h]
      exact ⟨rfl, word_fine hw l⟩
    have nm : isTx k = false → (k = "moment" ∨ k = "nobody" ∨ k = "hand" ∨ k = "number" ∨ k = "said") → txtK v = x ∧ Fine v := fun ht hk => by
      obtain ⟨n, h1, h2, h3⟩ := fit_num hf hk
      rw [ht, if_neg (by decide), h3] at h
      rw [← h]
      exact ⟨h2.symm, num_fine h1⟩
    simp only [kindsAll, List.mem_cons, List.not_mem_nil, or_false] at hk
    rcases hk with e | e | e | e | e | e | e | e
    · exact nm (by rw [e]; decide +kernel) (.inl e)
    · exact nm (by rw [e]; decide +kernel) (.inr (.inl e))
    · exact nm (by rw [e]; decide +kernel) (.inr (.inr (.inl e)))
    · exact nm (by rw [e]; decide +kernel) (.inr (.inr (.inr (.inl e))))
    · exact nm (by rw [e]; decide +kernel) (.inr (.inr (.inr (.inr e))))
    · exact tx (by rw [e]; decide +kernel) (hl e)
    · rw [e, fit_name] at hf
      have := name_len hf
      exact tx (by rw [e]; decide +kernel) (by omega)
    · rw [e, fit_asked] at hf
      refine tx (by rw [e]; decide +kernel) ?_
      simp only [Bool.or_eq_true, decide_eq_true_eq] at hf
      rcases hf with (z | z) | z <;> (rw [z]; decide +kernel)
  · rw [if_neg hf] at h; cases h
theorem part_int {k x : Str} (hf : fitB k x = true) (ht : isTx k = false) (hk : k ∈ kindsAll) : x.length ≤ 100 ∧ ∃ n, PySem.intText? x = some n := by
  have go : (k = "moment" ∨ k = "nobody" ∨ k = "hand" ∨ k = "number" ∨ k = "said") → x.length ≤ 100 ∧ ∃ n, PySem.intText? x = some n := fun h => by
    obtain ⟨n, h1, h2, h3⟩ := fit_num hf h
    have := (num_fine h1).1.2.2
    rw [show txtK (.inl n) = x from h2.symm] at this
    exact ⟨by omega, n, h3⟩
  have no : isTx k = true → x.length ≤ 100 ∧ ∃ n, PySem.intText? x = some n := fun z => by rw [ht] at z; cases z
  simp only [kindsAll, List.mem_cons, List.not_mem_nil, or_false] at hk
  rcases hk with e | e | e | e | e | e | e | e
  · exact go (.inl e)
  · exact go (.inr (.inl e))
  · exact go (.inr (.inr (.inl e)))
  · exact go (.inr (.inr (.inr (.inl e))))
  · exact go (.inr (.inr (.inr (.inr e))))
  · exact no (by rw [e]; decide +kernel)
  · exact no (by rw [e]; decide +kernel)
  · exact no (by rw [e]; decide +kernel)
/-! ### rows -/
def allV : List (Option Key) → Option (List Key)
  | [] => some []
  | none :: _ => none
  | some v :: l => (allV l).map (v :: ·)
theorem allV_none : ∀ {l : List (Option Key)}, none ∈ l → allV l = none
  | none :: _, _ => rfl
  | some v :: l, h => by
    rcases List.mem_cons.mp h with z | z
    · cases z
    · show (allV l).map _ = none
      rw [allV_none z]
      rfl
theorem allV_some : ∀ vs : List Key, allV (vs.map some) = some vs
  | [] => rfl
  | v :: vs => by
    show (allV (vs.map some)).map _ = _
    rw [allV_some vs]
    rfl
theorem allV_inv : ∀ {l : List (Option Key)} {vs : List Key}, allV l = some vs → l = vs.map some
  | [], vs, h => by cases h; rfl
  | none :: _, _, h => by cases h
  | some v :: l, vs, h => by
    have h : (allV l).map (v :: ·) = some vs := h
    obtain ⟨us, hu, rfl⟩ := Option.map_eq_some_iff.mp h
    rw [allV_inv hu]
    rfl
def mo (r : List Key) : Int := match r.head? with | some (.inl i) => i | _ => 0
def RowS (r : List Key) : Prop := (3 ≤ r.length ∧ r.length ≤ 6) ∧ r[0]? = some (.inl (mo r)) ∧ ∀ v ∈ r, Fine v
def rowV (ws : List Str) : Option (List Key) := match ws[2]? with
  | none => none
  | some x => match formsL.lookup x with
    | none => none
    | some fs => if ws.length = 3 + fs.length then allV (List.zipWith partV (kindsOf x fs) ws) else none
theorem look_ok {x : Str} {fs : List Str} (h : formsL.lookup x = some fs) : fs.length ≤ 3 ∧ x.length ≤ 20 ∧ (∀ k ∈ fs, k ∈ kindsAll ∧ k ≠ "word") := by
  have : ∀ (l : List (Str × List Str)), (∀ p ∈ l, p.2.length ≤ 3 ∧ p.1.length ≤ 20 ∧ (∀ k ∈ p.2, k ∈ kindsAll ∧ k ≠ "word")) → ∀ {a b}, l.lookup a = some b → b.length ≤ 3 ∧ a.length ≤ 20 ∧ (∀ k ∈ b, k ∈ kindsAll ∧ k ≠ "word") := by
    intro l
    induction l with
    | nil => intro _ a b e; cases e
    | cons p l ih =>
      intro hl a b e
      rw [List.lookup_cons] at e
      by_cases z : a = p.1
      · rw [show (a == p.1) = true from by simpa using z] at e
        cases e
        rw [z]
        exact hl p List.mem_cons_self
      · rw [show (a == p.1) = false from by simpa using z] at e
        exact ih (fun q hq => hl q (List.mem_cons_of_mem _ hq)) e
  exact this formsL (by decide +kernel) h
theorem kinds_in {x : Str} {fs : List Str} (h : formsL.lookup x = some fs) : ∀ k ∈ kindsOf x fs, k ∈ kindsAll := fun k hk => by
  unfold kindsOf at hk
  simp only [List.mem_cons] at hk
  rcases hk with rfl | rfl | rfl | hk
  · decide +kernel
  · split <;> decide +kernel
  · decide +kernel
  · exact ((look_ok h).2.2 k hk).1
theorem zip_fine : ∀ {ks ws : List Str} {r : List Key}, ks.length = ws.length → List.zipWith partV ks ws = r.map some → (∀ k ∈ ks, k ∈ kindsAll) → (∀ x ∈ ws, Wd x) → (∀ (i : Nat) k x, ks[i]? = some k → ws[i]? = some x → k = "word" → x.length ≤ 20) → r.map txtK = ws ∧ ∀ v ∈ r, Fine v
  | [], [], r, _, h, _, _, _ => by
    cases r with
    | nil => exact ⟨rfl, fun v hv => absurd hv List.not_mem_nil⟩
    | cons v r => cases h
  | k :: ks, x :: ws, r, hl, h, hk, hw, h20 => by
    cases r with
    | nil => cases h
    | cons v r =>
      rw [List.zipWith_cons_cons, List.map_cons] at h
      injection h with h1 h2
      have a := part_fine h1 (hk k List.mem_cons_self) (hw x List.mem_cons_self) (h20 0 k x rfl rfl)
      have b := zip_fine (by simpa using hl) h2 (fun k hk' => hk k (List.mem_cons_of_mem _ hk')) (fun x hx => hw x (List.mem_cons_of_mem _ hx)) fun i k x e e' => h20 (i + 1) k x e e'
      refine ⟨by rw [List.map_cons, a.1, b.1], fun u hu => ?_⟩
      rcases List.mem_cons.mp hu with rfl | hu
      · exact a.2
      · exact b.2 u hu
  | [], _ :: _, _, h, _, _, _, _ => by cases h
  | _ :: _, [], _, h, _, _, _, _ => by cases h
theorem row_inv {ws : List Str} {r : List Key} (h : rowV ws = some r) : ∃ x fs, ws[2]? = some x ∧ formsL.lookup x = some fs ∧ ws.length = 3 + fs.length ∧ List.zipWith partV (kindsOf x fs) ws = r.map some := by
  unfold rowV at h
  split at h
  · cases h
  · next x hx =>
    split at h
    · cases h
    · next fs hf =>
      split at h
      · next hl => exact ⟨x, fs, hx, hf, hl, allV_inv h⟩
      · cases h
theorem row_fine {ws : List Str} {r : List Key} (h : rowV ws = some r) (hw : ∀ x ∈ ws, Wd x) : RowS r ∧ r.map txtK = ws := by
  obtain ⟨x, fs, hx, hf, hl, hz⟩ := row_inv h
  have lk := look_ok hf
  have ll : (kindsOf x fs).length = ws.length := by unfold kindsOf; simp only [List.length_cons]; omega
  obtain ⟨a, b⟩ := zip_fine ll hz (kinds_in hf) hw fun i k y e e' ek => by
    by_cases i2 : i = 2
    · rw [i2, hx] at e'; cases e'; exact lk.2.1
    · exfalso
      unfold kindsOf at e
      match i, i2, e with
      | 0, _, e => cases e; exact absurd ek (by decide +kernel)
      | 1, _, e =>
        injection e with e
        rw [← e] at ek
        split at ek <;> exact absurd ek (by decide +kernel)
      | i + 3, _, e =>
        have e : fs[i]? = some k := e
        exact (lk.2.2 k (List.mem_of_getElem? e)).2 ek
  have lr : r.length = ws.length := by rw [← a, List.length_map]
  refine ⟨⟨⟨by omega, by omega⟩, ?_, b⟩, a⟩
  cases r with
  | nil => have lr : 0 = ws.length := lr; omega
  | cons v r =>
    cases ws with
    | nil => cases hx
    | cons w ws =>
      unfold kindsOf at hz
      rw [List.zipWith_cons_cons, List.map_cons] at hz
      injection hz with h1 _
      unfold partV at h1
      rw [show isTx "moment" = false by decide +kernel] at h1
      split at h1
      · injection h1 with h1
        rw [if_neg (by decide)] at h1
        rw [← h1]
        rfl
      · cases h1
def rowT (r : List Key) : Str := Str.join ⟨#[32]⟩ (r.map txtK)
end K71

set_option Elab.async false
set_option linter.all false
set_option maxRecDepth 100000
set_option maxHeartbeats 4000000
namespace K71
open PySem L2
theorem jn_len (c : Nat) : ∀ l : List (List Nat), l.length ≤ (jn c l).length + 1
  | [] => by simp
  | [x] => by simp
  | x :: y :: r => by
    have h := jn_len c (y :: r)
    show (y :: r).length + 1 ≤ (x ++ c :: jn c (y :: r)).length + 1
    rw [List.length_append, List.length_cons (a := c)]
    omega
theorem jn_mem (c : Nat) : ∀ {l : List (List Nat)} {x : List Nat}, x ∈ l → x.length ≤ (jn c l).length ∧ ∀ d ∈ x, d ∈ jn c l
  | [], _, h => absurd h List.not_mem_nil
  | [y], x, h => by rw [List.mem_singleton.mp h]; exact ⟨Nat.le_refl _, fun d hd => hd⟩
  | y :: z :: r, x, h => by
    have e : jn c (y :: z :: r) = y ++ c :: jn c (z :: r) := rfl
    rw [e]
    rcases List.mem_cons.mp h with rfl | h
    · exact ⟨by rw [List.length_append]; omega, fun d hd => List.mem_append_left _ hd⟩
    · have i := jn_mem c h
      exact ⟨by rw [List.length_append, List.length_cons]; omega, fun d hd => List.mem_append_right _ (List.mem_cons_of_mem _ (i.2 d hd))⟩
theorem split_len (t : Str) (c : Nat) : (PySem.Txt.split t ⟨#[c]⟩).length ≤ t.length + 1 := by
  have e := PySem.StrLaws.join_split t ⟨#[c]⟩
  have h := jn_len c ((PySem.Txt.split t ⟨#[c]⟩).map fun t => t.cps.toList)
  rw [← join_jn, List.length_map] at h
  rw [e, len_cps] at h
  exact h
theorem split_mem {t : Str} {c : Nat} {x : Str} (h : x ∈ PySem.Txt.split t ⟨#[c]⟩) : x.length ≤ t.length ∧ (∀ d ∈ x.cps.toList, d ∈ t.cps.toList) ∧ c ∉ x.cps.toList := by
  have e := PySem.StrLaws.join_split t ⟨#[c]⟩
  have m := jn_mem c (List.mem_map_of_mem (f := fun t : Str => t.cps.toList) h)
  rw [← join_jn, e, len_cps, len_cps] at m
  exact ⟨m.1, m.2, PySem.StrLaws.split_free t c x h⟩
theorem split_ne (t : Str) (c : Nat) : PySem.Txt.split t ⟨#[c]⟩ ≠ [] := fun z => by
  have := PyProof.Rows.split_pos t ⟨#[c]⟩
  rw [z] at this; simp at this
/-- a row of a text: no line feed in it -/
def Rw (t : Str) : Prop := asc t ∧ 10 ∉ t.cps.toList
theorem Rw.words {t : Str} (h : Rw t) : ∀ x ∈ PySem.Txt.split t ⟨#[32]⟩, Wd x := fun x hx => by
  have m := split_mem hx
  exact ⟨fun c hc => h.1 c (m.2.1 c hc), m.2.2, fun z => h.2 (m.2.1 _ z)⟩
theorem asc.rows {t : Str} (h : asc t) : ∀ x ∈ PySem.Txt.split t ⟨#[10]⟩, Rw x := fun x hx => by
  have m := split_mem hx
  exact ⟨fun c hc => h c (m.2.1 c hc), m.2.2⟩
/-- what FORMS is -/
def Fo (P : Program) (w : World) (K : PySem.W.Frag) (a : Addr) : Prop := ∃ kvs, KD P w K a kvs ∧ (∀ x fs, formsL.lookup x = some fs → ∃ t, valV kvs (.inr x) = some (.ref t) ∧ ∀ H, SqT K H t (fs.map V.str)) ∧ ∀ x, formsL.lookup x = none → valV kvs (.inr x) = none
section
variable {P : Program} {w : World} {K : PySem.W.Frag} {mg : Str → Option Value} {base : Heap}
def spRow (C : Addr) : Sp := fun vs H Q E => ∃ t : Str, vs = [.str t] ∧ t.length ≤ 1000000 ∧ Rw t ∧ (∀ r, rowV (PySem.Txt.split t ⟨#[32]⟩) = some r → ∀ p H', H p = none → Same H H' → H' p = some (.tup (r.map kV)) → Q (.ref p) H') ∧ (rowV (PySem.Txt.split t ⟨#[32]⟩) = none → ∀ H', Same H H' → E (.ref C) none H')
def RrI (t : Str) (ws : Addr) (x : Str) (fs : List Str) (H1 : Hp) (K : PySem.W.Frag) (σ : St) (H' : Hp) : Prop := ∃ kp, σ = [some (.str t), some (.ref ws), some (.ref kp)] ∧ Same H1 H' ∧ H' kp = some (.tup ((kindsOf x fs).map V.str))
theorem ok_row {C : Addr} (D : DefAt K mg "read_row" s_read_row ["row"]) (G_part : OkR P w K mg base 4 "part" ["kind", "word"] (spPart C)) {aFo : Addr} (hFo : mg "FORMS" = some (.ref aFo)) (fo : Fo P w K aFo) (hlen : mg "len" = none) (hzip : mg "zip" = none) (htuple : mg "tuple" = none) (O_NoLog : ExcAt K mg "NoLog" C) : OkR P w K mg base 5 "read_row" ["row"] (spRow C) := by
  refine D.okR sc_read_row (fun vs H Q E h => ?_) (fun f cdv A outer s H vs Q E hr h => ?_)
  · obtain ⟨r, rfl, _⟩ := h; rfl
  obtain ⟨t, rfl, tl, rw0, q, e⟩ := h
  have big : 3000000 ≤ sizeLine := by unfold sizeLine; decide
  obtain ⟨kvs, kdF, val, valN⟩ := fo
  have sl := split_len t 32
  have sm := fun x (hx : x ∈ PySem.Txt.split t ⟨#[32]⟩) => (split_mem hx).1
  have sw := rw0.words
  have l1 : (Str.ofString "a row of no form: ").length = 18 := by decide +kernel
  refine ⟨_, (pss_cons (ps_set (i := 1) sc_read_row.nd rfl (Or.inl rfl) (pe_bm PySem.F.plainAttrs_str PySem.F.slot_str_split PySem.F.type_str_split mt_split (pv 0) (pa_c pe_str pa_nil)))
  (pss_cons (ps_if (PW.pt (pw_or (pt_cmpR op_lt (pe_cB call_len_seq rfl hlen PySem.boot_len (pa_c (pv 1) pa_nil)) pe_int (nomark _)) (pw_or (pt_cmp (pc_dnotinK kdF (pe_ix ix_g (pv 1) pe_int (fun _ _ => rfl)) (pe_glob (v := .ref aFo) rfl hFo rfl)) (by with_unfolding_all rfl)) (pw_or1 (pt_cmpR op_ne (pe_cB call_len_seq rfl hlen PySem.boot_len (pa_c (pv 1) pa_nil)) (pe_op op_add pe_int (pe_cB call_len_seq rfl hlen PySem.boot_len (pa_c (pe_dgetK kdF (pe_glob (v := .ref aFo) rfl hFo rfl) (pe_ix ix_g (pv 1) pe_int (fun _ _ => rfl)) (fun _ _ => rfl)) pa_nil))) (nomark _))))))
  (pss_one (ps_raise raises_def rfl O_NoLog rfl (pa_c (pe_fstr (pj_cons pe_str (pj_cons (pe_fmt (pv 0)) pj_nil))) pa_nil)))
  pss_nil)
  (pss_cons (ps_up (ps_set (i := 2) sc_read_row.nd rfl (Or.inl rfl) (pe_op op_catT (pe_tupG (pa_c pe_str (pa_c (pe_ifExp (pt_cmpR op_eq (pe_ix ix_g (pv 1) pe_int (fun _ _ => rfl)) pe_str (nomark _)) pe_str pe_str) (pa_c pe_str pa_nil)))) (pe_dgetK kdF (pe_glob (v := .ref aFo) rfl hFo rfl) (pe_ix ix_g (pv 1) pe_int (fun _ _ => rfl)) (fun _ _ => rfl)))))
  (pss_one (ps_ret (pe_cTy call_tupL rfl htuple (by decide +kernel) (pa_c (pe_compNR (comp_scopeN 2 (N := ["kind", "word"]) (cap := []) rfl rfl rfl rfl (by decide +kernel) rfl rfl rfl) rfl (pi_zip rfl hzip (pa_c (pv 2) (pa_c (pv 1) pa_nil))) (fun _ _ _ _ => (pg_tupG 2 rfl (pgs_cons (pg_name (i := 0) (show List.Nodup (α := Str) ["kind", "word"] by decide +kernel) rfl (Or.inl (lookup_relabel_local rfl)) (Or.inr (lookup_relabel_local rfl))) (pgs_cons (pg_name (i := 1) (show List.Nodup (α := Str) ["kind", "word"] by decide +kernel) rfl (Or.inl (lookup_relabel_local rfl)) (Or.inr (lookup_relabel_local rfl))) pgs_nil)))) (fun _ _ _ _ => pts_nil) (fun _ _ _ _ hO => (pe_defR G_part (passC hO) hr rfl (pa_c (pv 0) (pa_c (pv 1) pa_nil))))) pa_nil))))))), ?_⟩
  walk_at "rz"
  rw [show Str.ofString " " = ⟨#[32]⟩ by decide +kernel]
  refine ⟨_, _, rfl, rfl, by decide, by omega, by omega, fun ws H1 hws g1 h1' => ?_⟩
  generalize PySem.Txt.split t ⟨#[32]⟩ = W at q e sl sm sw h1' ⊢
  have lm : (W.map V.str).length = W.length := List.length_map ..
  refine ⟨ws, rfl, _, rfl, .inl (SqL.of h1'), ?_⟩
  walk_at "rz"
  refine ite2 (fun c1 => ?_) fun c1 => ?_
  · have e1 := e (by
      unfold rowV
      rw [List.getElem?_eq_none (by omega)]) H1 g1
    clear e q
    walk_at "rz"
    iterate 4
      refine ⟨by first | omega | (simp only [cat_len, len_emp, l1]; omega), ?_⟩
      walk_at "rz"
  have w3 : 2 < W.length := by omega
  obtain ⟨x, hx⟩ : ∃ x, W[2]? = some x := ⟨_, List.getElem?_eq_getElem w3⟩
  have ew : atI (W.map V.str) 2 = some (.str x) := atI_nat (j := 2) (by rw [List.getElem?_map, hx]; rfl)
  cases hlk : formsL.lookup x with
  | none =>
    have v0 := valN x hlk
    have e1 := e (by
      unfold rowV
      rw [hx]
      simp only
      rw [hlk]) H1 g1
    clear e q hlk hx
    walk_at "rz"
    rw [if_pos (by simp)]
    walk_at "rz"
    iterate 4
      refine ⟨by first | omega | (simp only [cat_len, len_emp, l1]; omega), ?_⟩
      walk_at "rz"
  | some fs =>
  obtain ⟨ta, v1, v2⟩ := val x fs hlk
  walk_at "rz"
  rw [if_neg (by simp)]
  walk_at "rz"
  refine ⟨_, .inl (SqL.of h1'), ?_⟩
  walk_at "rz"
  refine ⟨_, .inr (v2 _), ?_⟩
  walk_at "rz"
  by_cases el : ¬ ((W.length : Nat) : Int) = 3 + ((List.map V.str fs).length : Nat)
  · have e1 := e (by
      unfold rowV
      rw [hx]
      simp only
      rw [hlk]
      simp only
      rw [if_neg]
      rw [List.length_map] at el
      omega) H1 g1
    rw [decide_eq_false el, if_pos (by decide)]
    clear e q hlk hx el
    walk_at "rz"
    iterate 4
      refine ⟨by first | omega | (simp only [cat_len, len_emp, l1]; omega), ?_⟩
      walk_at "rz"
  have el := Decidable.not_not.mp el
  rw [decide_eq_true el, if_neg (by decide)]
  have hl : W.length = 3 + fs.length := by rw [List.length_map] at el; omega
  have rv : rowV W = allV (List.zipWith partV (kindsOf x fs) W) := by
    unfold rowV
    rw [hx]
    simp only
    rw [hlk]
    simp only
    rw [if_pos hl]
  have kin := kinds_in hlk
  clear el
  walk_at "rz"
  refine ⟨RrI t ws x fs H1 K, ?_, ?_⟩
  · have go : ∀ z : Str, kindsOf x fs = ("moment" : Str) :: z :: "word" :: fs → ∀ p2 H2, H1 p2 = none → Same H1 H2 → H2 p2 = some (.tup [.str "moment", .str z, .str "word"]) → ((List.map V.str fs = [] → RrI t ws x fs H1 K [some (.str t), some (.ref ws), some (.ref p2)] H2) ∧ (List.map V.str fs ≠ [] → ∀ p, H2 p = none → RrI t ws x fs H1 K [some (.str t), some (.ref ws), some (.ref p)] (upd H2 p (.tup ([.str "moment", .str z, .str "word"] ++ List.map V.str fs))))) := fun z ez p2 H2 hp2 g2 h2 => by
      refine ⟨fun e => ?_, fun _ p hp => ?_⟩
      · have e' : fs = [] := by simpa using e
        unfold RrI
        exact ⟨p2, rfl, g2, by rw [h2, ez, e']; rfl⟩
      · unfold RrI
        exact ⟨p, rfl, g2.trans (same_new hp _), by rw [upd_same, ez]; rfl⟩
    clear rv kin e q hlk hx
    refine ite2 (fun cb => ?_) fun cb => ?_
    · have ez : kindsOf x fs = ("moment" : Str) :: "nobody" :: "word" :: fs := by unfold kindsOf; rw [if_pos cb]
      clear cb
      walk_at "rz"
      intro p2 H2 hp2 g2 h2
      have h2' := g2 _ _ h1'
      walk_at "rz"
      refine ⟨p2, ta, [V.str "moment", V.str "nobody", V.str "word"], _, rfl, rfl, SqT.of h2, v2 _, by simp, by simp only [List.length_cons, List.length_nil, List.length_map]; omega, ?_⟩
      exact go _ ez p2 H2 hp2 g2 h2
    · have ez : kindsOf x fs = ("moment" : Str) :: "hand" :: "word" :: fs := by unfold kindsOf; rw [if_neg cb]
      clear cb
      walk_at "rz"
      intro p2 H2 hp2 g2 h2
      have h2' := g2 _ _ h1'
      walk_at "rz"
      refine ⟨p2, ta, [V.str "moment", V.str "hand", V.str "word"], _, rfl, rfl, SqT.of h2, v2 _, by simp, by simp only [List.length_cons, List.length_nil, List.length_map]; omega, ?_⟩
      exact go _ ez p2 H2 hp2 g2 h2
  · intro σ H2 z
    unfold RrI at z
    obtain ⟨kp, rfl, g2, h2⟩ := z
    have w2 := g2 _ _ h1'
    rw [rv] at q e
    have lk2 : (kindsOf x fs).length = W.length := by unfold kindsOf; simp only [List.length_cons]; omega
    have lz : (List.zipWith partV (kindsOf x fs) W).length = W.length := by rw [List.length_zipWith]; omega
    clear h1' rv hl hlk hx
    walk_at "rz"
    refine tcomp_in ?_
    simp only [iZip]
    walk_at "rz"
    refine ⟨⟨_, SqT.of h2⟩, ⟨_, SqL.of w2⟩, compJ_zip (xs := (kindsOf x fs).map V.str) (fun H g => SqT.of (g _ _ h2)) w2 (by rw [List.length_map, lm, lk2]) (by rw [lm]; omega) (fun _ i zs σ1 _ => σ1.length = 2 ∧ ∃ us : List Key, zs = us.map kV ∧ (List.zipWith partV (kindsOf x fs) W).take i = us.map some) (fun D H' _ _ _ => ⟨rfl, [], rfl, rfl⟩) ?_ ?_⟩
    · rintro C' i k' y' zs σ1 H' p H'' hk hy at1 ⟨s2, us, rfl, eu⟩ hp g3 h3'
      have hi : i < W.length := by have := (List.getElem?_eq_some_iff.mp hy).1; rw [lm] at this; exact this
      obtain ⟨v, hv⟩ : ∃ v, W[i]? = some v := ⟨_, List.getElem?_eq_getElem hi⟩
      obtain ⟨k, hk'⟩ : ∃ k, (kindsOf x fs)[i]? = some k := ⟨_, List.getElem?_eq_getElem (by omega)⟩
      rw [List.getElem?_map, hk'] at hk
      rw [List.getElem?_map, hv] at hy
      cases hk
      cases hy
      have km := kin k (List.mem_of_getElem? hk')
      have vl := sm v (List.mem_of_getElem? hv)
      have kl : k.length ≤ 100 := by
        have : ∀ k ∈ kindsAll, k.length ≤ 100 := by decide +kernel
        exact this k km
      have ez : (List.zipWith partV (kindsOf x fs) W)[i]? = some (partV k v) := by
        rw [List.getElem?_zipWith, hk', hv]
      obtain ⟨v0, v1', rfl⟩ : ∃ v0 v1', σ1 = [v0, v1'] := by
        match σ1, s2 with
        | [v0, v1'], _ => exact ⟨v0, v1', rfl⟩
      have sm1 : Same H H'' := ((g1.trans g2).trans at1.same).trans g3
      clear w2 h2
      walk_at "rz"
      refine ⟨k, v, rfl, kl, by omega, fun hf ht => part_int hf ht km, fun u hu H4 g4 => ?_, fun hn H4 g4 => e (allV_none ?_) H4 (sm1.trans g4)⟩
      · refine at1.put (g3.trans g4) fun H5 mu => ⟨rfl, us ++ [u], by rw [List.map_append]; rfl, ?_⟩
        obtain ⟨ez1, ez2⟩ := List.getElem?_eq_some_iff.mp ez
        rw [← List.take_append_getElem ez1, eu, List.map_append, ez2, hu]
        rfl
      · rw [← hn]
        exact List.mem_of_getElem? ez
    · rintro C' zs σ1 H' hC g3 hy hle ⟨_, us, rfl, eu⟩
      rw [lm, ← lz, List.take_of_length_le (Nat.le_refl _)] at eu
      refine ⟨C', _, rfl, hy, fun p H'' hp g4 h4' => q us (by rw [eu]; exact allV_some us) p H'' ?_ (((g1.trans g2).trans g3).trans g4) h4'⟩
      exact ((g1.trans g2).trans g3).free hp
end
end K71

set_option Elab.async false
set_option linter.all false
set_option maxRecDepth 100000
set_option maxHeartbeats 4000000
namespace K71
open PySem L2
theorem log_small {i : Int} (h : i.natAbs ≤ 10000000) : i.natAbs.log2 < 1920 := by
  have := Nat.log2_le_self i.natAbs
  have h2 : i.natAbs.log2 ≤ Nat.log2 10000000 := by
    by_cases z : i.natAbs = 0
    · rw [z]; exact Nat.zero_le _
    · exact (Nat.le_log2 (by decide)).mpr (Nat.le_trans (Nat.log2_self_le z) h)
  have : Nat.log2 10000000 < 1920 := by decide +kernel
  omega
/-- how much room a list of texts takes, with a sign behind each -/
def room : List Str → Nat
  | [] => 0
  | y :: ys => y.length + 1 + room ys
theorem room_app : ∀ a b : List Str, room (a ++ b) = room a + room b
  | [], b => by simp [room]
  | y :: a, b => by
    show y.length + 1 + room (a ++ b) = y.length + 1 + room a + room b
    rw [room_app a b]
    omega
theorem room_cut (a : List Str) (n : Nat) : room (a.take n) + room (a.drop n) = room a := by
  rw [← room_app, List.take_append_drop]
theorem room_mem : ∀ {a : List Str} {y : Str}, y ∈ a → y.length + 1 ≤ room a
  | z :: a, y, h => by
    rcases List.mem_cons.mp h with rfl | h
    · show y.length + 1 ≤ y.length + 1 + room a; omega
    · have := room_mem h
      show y.length + 1 ≤ z.length + 1 + room a; omega
theorem room_len : ∀ a : List Str, a.length ≤ room a
  | [] => Nat.le_refl _
  | y :: a => by have := room_len a; show a.length + 1 ≤ y.length + 1 + room a; omega
theorem joinOk_room {s : Str} (hs : s.length ≤ 1) {ys : List Str} (h : room ys ≤ 3000000) : JoinOk s ys = true := by
  unfold JoinOk
  have key : ∀ (ys : List Str) (n : Nat), ys.foldl (fun a y => a + y.length + s.length) n ≤ n + room ys := by
    intro ys
    induction ys with
    | nil => intro n; exact Nat.le_refl _
    | cons y ys ih =>
      intro n
      rw [List.foldl_cons]
      have := ih (n + y.length + s.length)
      show _ ≤ n + (y.length + 1 + room ys)
      omega
  have k := key ys 0
  have e : ys.toArray.foldl (· + ·.length + s.length) 0 = ys.foldl (fun a y => a + y.length + s.length) 0 := by simp
  rw [e]
  unfold Builtin.Str.tooLong sizeLine
  simp only [Bool.not_eq_true', decide_eq_false_iff_not]
  omega
theorem jn_room (c : Nat) : ∀ ys : List Str, ys ≠ [] → (jn c (ys.map fun t => t.cps.toList)).length + 1 = room ys
  | [], h => absurd rfl h
  | [x], _ => by show x.cps.toList.length + 1 = x.length + 1 + 0; rw [len_cps]
  | x :: y :: r, _ => by
    have := jn_room c (y :: r) (by simp)
    show (x.cps.toList ++ c :: jn c ((y :: r).map fun t => t.cps.toList)).length + 1 = x.length + 1 + room (y :: r)
    rw [List.length_append, List.length_cons, len_cps]
    omega
theorem join_room (c : Nat) {ys : List Str} (h : ys ≠ []) : (Str.join ⟨#[c]⟩ ys).length + 1 = room ys := by
  rw [← len_cps, join_jn]
  exact jn_room c ys h
theorem split_room (t : Str) (c : Nat) : room (PySem.Txt.split t ⟨#[c]⟩) = t.length + 1 := by
  rw [← join_room c (split_ne t c), PySem.StrLaws.join_split]
theorem join_asc (c : Nat) (hc : c < 128) {ys : List Str} (h : ∀ y ∈ ys, asc y) : asc (Str.join ⟨#[c]⟩ ys) := by
  intro d hd
  rw [join_jn] at hd
  have : ∀ l : List (List Nat), (∀ x ∈ l, ∀ d ∈ x, d < 128) → ∀ d ∈ jn c l, d < 128 := by
    intro l
    induction l with
    | nil => intro _ d hd; cases hd
    | cons a l ih =>
      intro h d hd
      cases l with
      | nil => exact h a List.mem_cons_self d hd
      | cons b l =>
        have hd : d ∈ a ++ c :: jn c (b :: l) := hd
        rcases List.mem_append.mp hd with hd | hd
        · exact h a List.mem_cons_self d hd
        · rcases List.mem_cons.mp hd with hd | hd
          · omega
          · exact ih (fun x hx => h x (List.mem_cons_of_mem _ hx)) d hd
  exact this _ (fun x hx => by obtain ⟨t, ht, rfl⟩ := List.mem_map.mp hx; exact h t ht) d hd
theorem tjoin (s : Str) (ys : List Str) : PySem.Txt.join s ys = Str.join s ys := by
  unfold PySem.Txt.join PySem.Builtin.Str.glued
  cases ys with
  | nil => rfl
  | cons y ys => exact PySem.StrLaws.glued_cons s ys y
theorem sp32 : Str.ofString " " = ⟨#[32]⟩ := by decide +kernel
theorem nl10 : Str.ofString "\n" = ⟨#[10]⟩ := by decide +kernel
/-- a log: rows one behind the other -/
def HG (H : Hp) (l : Addr) (as : List (Addr × List Key)) : Prop := H l = some (.lst (as.map fun q => .ref q.1)) ∧ ∀ q ∈ as, H q.1 = some (.tup (q.2.map kV))
theorem HG.same {H H' : Hp} {l : Addr} {as : List (Addr × List Key)} (h : HG H l as) (g : Same H H') : HG H' l as := ⟨g _ _ h.1, fun q hq => g _ _ (h.2 q hq)⟩
theorem row_room {r : List Key} (h : RowS r) : room (r.map txtK) ≤ 126 := by
  have : ∀ r : List Key, (∀ v ∈ r, Fine v) → room (r.map txtK) ≤ r.length * 21 := by
    intro r
    induction r with
    | nil => intro _; exact Nat.le_refl _
    | cons v r ih =>
      intro h
      have a := ih fun u hu => h u (List.mem_cons_of_mem _ hu)
      have b := (h v List.mem_cons_self).1.2.2
      show (txtK v).length + 1 + room (r.map txtK) ≤ (r.length + 1) * 21
      omega
  have a := this r h.2.2
  have b := h.1.2
  omega
section
variable {P : Program} {w : World} {K : PySem.W.Frag} {mg : Str → Option Value} {base : Heap}
def spSR : Sp := fun vs H Q _ => ∃ p r, vs = [.ref p] ∧ H p = some (.tup (r.map kV)) ∧ RowS r ∧ ∀ H', Same H H' → Q (.str (rowT r)) H'
def SrP (ts : List Str) (n : Nat) (i : Nat) (zs : List V) (σ1 : St) (H' : Hp) : Prop := σ1.length = n ∧ zs = (ts.take i).map V.str
theorem ok_sr (D : DefAt K mg "shown_row" s_shown_row ["row"]) (hstr : mg "str" = none) : OkD P w K mg base 1 "shown_row" ["row"] spSR := by
  refine D.ok sc_shown_row (fun vs H Q E h => ?_) (fun f cdv A outer s H vs Q E hr h => ?_)
  · obtain ⟨p, r, rfl, _⟩ := h; rfl
  obtain ⟨p, r, rfl, hp, hr0, q⟩ := h
  have big : 3000000 ≤ sizeLine := by unfold sizeLine; decide
  have rl := hr0.1
  refine ⟨_, (pss_one (ps_ret (pe_join pe_str (pe_compN (comp_scopeN 1 (N := ["part"]) (cap := []) rfl rfl rfl rfl (by decide +kernel) rfl rfl rfl) rfl (pi_tup (pv 0)) (fun _ _ _ _ => (pg_name (i := 0) (show List.Nodup (α := Str) ["part"] by decide +kernel) rfl (Or.inl (lookup_relabel_local rfl)) (Or.inr (lookup_relabel_local rfl)))) (fun _ _ _ _ => pts_nil) (fun _ _ _ _ => (pe_cTy call_strG rfl hstr (by decide +kernel) (pa_c (pv 0) pa_nil))))))), ?_⟩
  walk_at "rz"
  refine tcomp_in ?_
  simp only [iTup]
  walk_at "rz"
  refine ⟨⟨_, SqT.of hp⟩, compJ over_tup (fun H g => g _ _ hp) (by rw [List.length_map]; omega) (SrP (r.map txtK) 1) (fun _ _ => ⟨rfl, rfl⟩) ?_ ?_⟩
  · rintro C i x' zs σ1 H' hx at1 ⟨s1, rfl⟩
    have hi : i < r.length := by have := (List.getElem?_eq_some_iff.mp hx).1; rw [List.length_map] at this; exact this
    obtain ⟨v, hv⟩ : ∃ v, r[i]? = some v := ⟨_, List.getElem?_eq_getElem hi⟩
    rw [List.getElem?_map, hv] at hx
    cases hx
    obtain ⟨v0, rfl⟩ : ∃ v0, σ1 = [v0] := by
      match σ1, s1 with
      | [v0], _ => exact ⟨v0, rfl⟩
    have tk : ((r.map txtK).take (i + 1)).map V.str = ((r.map txtK).take i).map V.str ++ [V.str (txtK v)] := by
      obtain ⟨a, b⟩ := List.getElem?_eq_some_iff.mp hv
      rw [← List.take_append_getElem (by rw [List.length_map]; exact a), List.map_append, List.getElem_map, b]
      rfl
    have fin : ∀ σ2 : St, σ2.length = 1 → ∀ H5, SrP (r.map txtK) 1 (i + 1) (((r.map txtK).take i).map V.str ++ [V.str (txtK v)]) σ2 H5 := fun σ2 h2 _ => ⟨h2, tk.symm⟩
    have fv := hr0.2.2 v (List.mem_of_getElem? hv)
    clear hp
    walk_at "rz"
    cases v with
    | inl n =>
      refine .inl ⟨n, rfl, rfl, log_small (fv.2.1 n rfl), ?_⟩
      exact at1.put (Same.refl _) fun H5 mu => fin _ rfl H5
    | inr y =>
      refine .inr ⟨y, rfl, rfl, ?_⟩
      exact at1.put (Same.refl _) fun H5 mu => fin _ rfl H5
  · rintro C zs σ1 H' hC g2 hy hle ⟨_, rfl⟩
    rw [List.length_map, List.take_of_length_le (by rw [List.length_map]; exact Nat.le_refl _)] at hy
    rw [sp32]
    have q1 := q H' g2
    unfold rowT at q1
    rw [← tjoin] at q1
    have rr := row_room hr0
    exact ⟨C, rfl, r.map txtK, trivial, hy, joinOk_room (s := ⟨#[32]⟩) (Nat.le_refl 1) (by omega), q1⟩
def logT (rs : List (List Key)) : Str := Str.join ⟨#[10]⟩ (rs.map rowT)
def spSL : Sp := fun vs H Q _ => ∃ (l : Addr) (as : List (Addr × List Key)), vs = [.ref l] ∧ HG H l as ∧ (∀ q ∈ as, RowS q.2) ∧ room (as.map fun q => rowT q.2) ≤ 1000000 ∧ ∀ H', Same H H' → Q (.str (logT (as.map (·.2)))) H'
theorem ok_sl (D : DefAt K mg "shown_log" s_shown_log ["log"]) (G_shown_row : OkD P w K mg base 1 "shown_row" ["row"] spSR) : OkD P w K mg base 2 "shown_log" ["log"] spSL := by
  refine D.ok sc_shown_log (fun vs H Q E h => ?_) (fun f cdv A outer s H vs Q E hr h => ?_)
  · obtain ⟨l, as, rfl, _⟩ := h; rfl
  obtain ⟨l, as, rfl, hl, ho, hn, q⟩ := h
  have big : 3000000 ≤ sizeLine := by unfold sizeLine; decide
  have l1 := hl.1
  have ln := room_len (as.map fun q => rowT q.2)
  rw [List.length_map] at ln
  refine ⟨_, (pss_one (ps_ret (pe_join pe_str (pe_compN (comp_scopeN 1 (N := ["row"]) (cap := []) rfl rfl rfl rfl (by decide +kernel) rfl rfl rfl) rfl (pi_list (pv 0)) (fun _ _ _ _ => (pg_name (i := 0) (show List.Nodup (α := Str) ["row"] by decide +kernel) rfl (Or.inl (lookup_relabel_local rfl)) (Or.inr (lookup_relabel_local rfl)))) (fun _ _ _ _ => pts_nil) (fun _ _ _ _ => (pe_def G_shown_row hr rfl (pa_c (pv 0) pa_nil))))))), ?_⟩
  walk_at "rz"
  refine tcomp_in ?_
  simp only [iList]
  walk_at "rz"
  refine ⟨⟨_, SqL.of l1⟩, compJ_list l1 (by rw [List.length_map]; omega) (SrP (as.map fun q => rowT q.2) 1) (fun _ _ => ⟨rfl, rfl⟩) ?_ ?_⟩
  · rintro C i x' zs σ1 H' hx at1 ⟨s1, rfl⟩
    rw [List.getElem?_map] at hx
    obtain ⟨a, ha, rfl⟩ := Option.map_eq_some_iff.mp hx
    obtain ⟨v0, rfl⟩ : ∃ v0, σ1 = [v0] := by
      match σ1, s1 with
      | [v0], _ => exact ⟨v0, rfl⟩
    have am := List.mem_of_getElem? ha
    have tk : ((as.map fun q => rowT q.2).take (i + 1)).map V.str = ((as.map fun q => rowT q.2).take i).map V.str ++ [V.str (rowT a.2)] := by
      obtain ⟨a', b'⟩ := List.getElem?_eq_some_iff.mp ha
      rw [← List.take_append_getElem (by rw [List.length_map]; exact a'), List.map_append, List.getElem_map, b']
      rfl
    have ha' := at1.same _ _ (hl.2 a am)
    clear l1
    walk_at "rz"
    refine ⟨a.1, a.2, rfl, ha', ho a am, fun H4 g4 => ?_⟩
    exact at1.put g4 fun H5 mu => ⟨rfl, tk.symm⟩
  · rintro C zs σ1 H' hC g2 hy hle ⟨_, rfl⟩
    rw [List.length_map, List.take_of_length_le (by rw [List.length_map]; exact Nat.le_refl _)] at hy
    rw [nl10]
    have e : (as.map fun q => rowT q.2) = (as.map (·.2)).map rowT := by rw [List.map_map]; rfl
    have jo : JoinOk ⟨#[10]⟩ (as.map fun q => rowT q.2) = true := joinOk_room (s := ⟨#[10]⟩) (Nat.le_refl 1) (by omega)
    have := q H' g2
    unfold logT at this
    rw [← e, ← tjoin] at this
    exact ⟨C, rfl, _, trivial, hy, jo, this⟩
end
end K71

set_option Elab.async false
set_option linter.all false
set_option maxRecDepth 100000
set_option maxHeartbeats 4000000
namespace K71
open PySem L2
def late (acc : List (List Key)) (r : List Key) : Bool := match acc.getLast? with
  | none => false
  | some l => decide (mo r < mo l)
def logGo : List (List Key) → List Str → Option (List (List Key))
  | acc, [] => some acc
  | acc, t :: ts => match rowV (PySem.Txt.split t ⟨#[32]⟩) with
    | none => none
    | some r => if late acc r = true then none else logGo (acc ++ [r]) ts
def logV (t : Str) : Option (List (List Key)) := if t = "" then some [] else logGo [] (PySem.Txt.split t ⟨#[10]⟩)
theorem go_none {acc : List (List Key)} {t : Str} {ts : List Str} (h : rowV (PySem.Txt.split t ⟨#[32]⟩) = none) : logGo acc (t :: ts) = none := by
  unfold logGo
  rw [h]
theorem go_late {acc : List (List Key)} {t : Str} {ts : List Str} {r : List Key} (h : rowV (PySem.Txt.split t ⟨#[32]⟩) = some r) (hl : late acc r = true) : logGo acc (t :: ts) = none := by
  unfold logGo
  rw [h]
  simp only
  rw [if_pos hl]
theorem go_on {acc : List (List Key)} {t : Str} {ts : List Str} {r : List Key} (h : rowV (PySem.Txt.split t ⟨#[32]⟩) = some r) (hl : late acc r = false) : logGo acc (t :: ts) = logGo (acc ++ [r]) ts := by
  conv => lhs; unfold logGo
  rw [h]
  simp only
  rw [if_neg (by rw [hl]; decide)]
theorem go_fine : ∀ {ts : List Str} {acc rs : List (List Key)}, logGo acc ts = some rs → (∀ t ∈ ts, Rw t) → ∃ us, rs = acc ++ us ∧ us.map rowT = ts ∧ ∀ u ∈ us, RowS u
  | [], acc, rs, h, _ => by
    have h : some acc = some rs := h
    cases h
    exact ⟨[], by simp, rfl, fun u hu => absurd hu List.not_mem_nil⟩
  | t :: ts, acc, rs, h, hw => by
    cases hr : rowV (PySem.Txt.split t ⟨#[32]⟩) with
    | none => rw [go_none hr] at h; cases h
    | some r =>
      cases hl : late acc r with
      | true => rw [go_late hr hl] at h; cases h
      | false =>
        rw [go_on hr hl] at h
        obtain ⟨us, e0, e, f⟩ := go_fine h fun u hu => hw u (List.mem_cons_of_mem _ hu)
        obtain ⟨rs', rt⟩ := row_fine hr (hw t List.mem_cons_self).words
        refine ⟨r :: us, by rw [e0]; simp, ?_, fun u hu => ?_⟩
        · rw [List.map_cons, e]
          congr 1
          unfold rowT
          rw [rt, PySem.StrLaws.join_split]
        · rcases List.mem_cons.mp hu with rfl | hu
          · exact rs'
          · exact f u hu
theorem log_fine {t : Str} {rs : List (List Key)} (h : logV t = some rs) (ha : asc t) : logT rs = t ∧ (∀ r ∈ rs, RowS r) ∧ room (rs.map rowT) ≤ t.length + 1 := by
  unfold logV at h
  by_cases z : t = ""
  · rw [if_pos z] at h
    cases h
    exact ⟨by rw [z]; rfl, fun r hr => absurd hr List.not_mem_nil, Nat.zero_le _⟩
  · rw [if_neg z] at h
    obtain ⟨us, e0, e, f⟩ := go_fine h ha.rows
    rw [List.nil_append] at e0
    subst e0
    refine ⟨?_, f, ?_⟩
    · unfold logT
      rw [e, PySem.StrLaws.join_split]
    · rw [e, split_room]
      exact Nat.le_refl _
theorem late_snoc {as : List (Addr × List Key)} {t : Addr × List Key} {n : Nat} (ln : as.length = n) (h : as[n - 1]? = some t) (r : List Key) : late (as.map (·.2)) r = decide (mo r < mo t.2) := by
  unfold late
  rw [List.getLast?_eq_getElem?, List.getElem?_map, List.length_map, ln, h]
  rfl
theorem tru_lst {K : PySem.W.Frag} {H : Hp} {p : Addr} {xs : List V} (h : H p = some (.lst xs)) : TruV K (.ref p) H (!xs.isEmpty) := .inl ⟨_, SqL.of h, rfl⟩
section
variable {P : Program} {w : World} {K : PySem.W.Frag} {mg : Str → Option Value} {base : Heap}
def spRL (C : Addr) : Sp := fun vs H Q E => ∃ t : Str, vs = [.str t] ∧ t.length ≤ 1000000 ∧ asc t ∧ (∀ rs, logV t = some rs → ∀ l as H', H l = none → Same H H' → HG H' l as → as.map (·.2) = rs → Q (.ref l) H') ∧ (logV t = none → ∀ H', Same H H' → E (.ref C) none H')
def RlI (t : Str) (rows : List Str) (l ws : Addr) (H : Hp) (i : Nat) (σ : St) (H' : Hp) : Prop := ∃ v2 v3 as, σ = [some (.str t), some (.ref l), v2, v3] ∧ Same H H' ∧ H' ws = some (.lst (rows.map V.str)) ∧ HG H' l as ∧ (∀ q ∈ as, RowS q.2) ∧ as.length = i ∧ logV t = logGo (as.map (·.2)) (rows.drop i)
theorem ok_rl {C : Addr} (D : DefAt K mg "read_log" s_read_log ["text"]) (G_read_row : OkR P w K mg base 5 "read_row" ["row"] (spRow C)) (O_NoLog : ExcAt K mg "NoLog" C) : OkR P w K mg base 6 "read_log" ["text"] (spRL C) := by
  refine D.okR sc_read_log (fun vs H Q E h => ?_) (fun f cdv A outer s H vs Q E hr h => ?_)
  · obtain ⟨r, rfl, _⟩ := h; rfl
  obtain ⟨t, rfl, tl, ta, q, e⟩ := h
  have big : 3000000 ≤ sizeLine := by unfold sizeLine; decide
  have l1 : (Str.ofString "a moment less than one ahead: ").length = 30 := by decide +kernel
  refine ⟨_, (pss_cons (ps_set (i := 1) sc_read_log.nd rfl (Or.inl rfl) (pe_lstG pa_nil))
  (pss_cons (ps_if (pt_cmpR op_eq (pv 0) pe_str (nomark _))
  (pss_one (ps_ret (pv 1)))
  pss_nil)
  (pss_cons (ps_for owns_def rfl (pi_list (pe_bm PySem.F.plainAttrs_str PySem.F.slot_str_split PySem.F.type_str_split mt_split (pv 0) (pa_c pe_str pa_nil))) (pg_name (i := 2) sc_read_log.nd rfl (Or.inl rfl))
  (pss_cons (ps_set (i := 3) sc_read_log.nd rfl (Or.inl rfl) (pe_defR G_read_row passR hr rfl (pa_c (pv 2) pa_nil)))
  (pss_cons (ps_if (PW.pt (pw_and (pt_truth (pv 1) (fun _ => rfl)) (pw_and1 (pt_cmpR op_lt (pe_ix ix_g (pv 3) pe_int (fun _ _ => rfl)) (pe_ix ix_g (pe_ix ix_g (pv 1) (pe_un un_neg pe_int) (fun _ _ => rfl)) pe_int (fun _ _ => rfl)) (nomark _)))))
  (pss_one (ps_raise raises_def rfl O_NoLog rfl (pa_c (pe_fstr (pj_cons pe_str (pj_cons (pe_fmt (pv 2)) pj_nil))) pa_nil)))
  pss_nil)
  (pss_one (ps_expr (pe_appG (pv 1) (pv 3)))))))
  (pss_one (ps_ret (pv 1)))))), ?_⟩
  walk_at "rz"
  intro l H1 hl g1 h1
  walk_at "rz"
  by_cases ne : t = Str.ofString ""
  · rw [if_pos ne]
    walk_at "rz"
    exact q [] (by unfold logV; rw [if_pos ne]) l [] H1 hl g1 ⟨h1, fun q hq => absurd hq List.not_mem_nil⟩ rfl
  rw [if_neg ne]
  have sl := split_len t 10
  have sm := fun x (hx : x ∈ PySem.Txt.split t ⟨#[10]⟩) => (split_mem hx).1
  have sw := ta.rows
  have lv : logV t = logGo [] (PySem.Txt.split t ⟨#[10]⟩) := by unfold logV; rw [if_neg ne]
  walk_at "rz"
  refine tfor_in ?_
  simp only [iList]
  walk_at "rz"
  rw [nl10]
  refine ⟨_, _, rfl, rfl, by decide, by omega, by omega, fun ws H2 hws g2 h2 => ?_⟩
  generalize PySem.Txt.split t ⟨#[10]⟩ = rows at sl sm sw lv h2 ⊢
  have l2 := g2 _ _ h1
  have lm : (rows.map V.str).length = rows.length := List.length_map ..
  have nwl : ws ≠ l := fun z => by rw [z, h1] at hws; cases hws
  refine ⟨ws, rfl, ⟨_, SqL.of h2⟩, for_list (xs := rows.map V.str) (RlI t rows l ws H) ?_ ?_ ?_ ?_⟩
  · unfold RlI
    exact ⟨_, _, [], rfl, g1.trans g2, h2, ⟨l2, fun q hq => absurd hq List.not_mem_nil⟩, fun q hq => absurd hq List.not_mem_nil, rfl, lv⟩
  · intro i σ H3 hi z
    unfold RlI at z
    obtain ⟨v2, v3, as, rfl, g3, w3, hl3, rs3, la, e3⟩ := z
    exact SqL.of w3
  · intro i x' σ H3 hx z
    unfold RlI at z
    obtain ⟨v2, v3, as, rfl, g3, w3, hl3, rs3, la, e3⟩ := z
    rw [List.getElem?_map] at hx
    obtain ⟨x, hxi, rfl⟩ := Option.map_eq_some_iff.mp hx
    obtain ⟨hi, xe⟩ := List.getElem?_eq_some_iff.mp hxi
    have xm := List.mem_of_getElem? hxi
    clear hx hxi
    have xl := sm x xm
    rw [List.drop_eq_getElem_cons hi, xe] at e3
    have l3 := hl3.1
    clear h1 h2 l2 lv xe
    walk_at "rz"
    refine ⟨x, rfl, by omega, sw x xm, fun r hr' p H4 hp g4 h4 => ?_, fun hn H4 g4 => e (by rw [e3, go_none hn]) H4 (g3.trans g4)⟩
    have rS := (row_fine hr' (sw x xm).words).1
    have l4 := g4 _ _ l3
    have w4 := g4 _ _ w3
    clear l3 w3
    have fin : late (as.map (·.2)) r = false → ∀ H5, Mu H4 l (.lst (as.map (fun q => V.ref q.1) ++ [.ref p])) H5 → RlI t rows l ws H (i + 1) [some (.str t), some (.ref l), some (.str x), some (.ref p)] H5 := fun hlt H5 m5 => by
      have npl : p ≠ l := (ne_of_none hl3.1 hp).symm
      unfold RlI
      refine ⟨_, _, as ++ [(p, r)], rfl, fun c u hc => m5.old (g4 _ _ (g3 _ _ hc)) (ne_of_none hc hl), m5.old w4 nwl, ⟨by rw [m5.at_, List.map_append]; rfl, fun t ht => ?_⟩, fun t ht => ?_, by rw [List.length_append, la]; rfl, ?_⟩
      · rcases List.mem_append.mp ht with ht | ht
        · have x4 := g4 _ _ (hl3.2 t ht)
          exact m5.old x4 (fun z => by rw [z, l4] at x4; cases x4)
        · rw [List.mem_singleton.mp ht]
          exact m5.old h4 npl
      · rcases List.mem_append.mp ht with ht | ht
        · exact rs3 t ht
        · rw [List.mem_singleton.mp ht]
          exact rS
      · rw [e3, go_on hr' hlt, List.map_append]
        rfl
    have bad : late (as.map (·.2)) r = true → E (.ref C) none H4 := fun hlt => e (by rw [e3, go_late hr' hlt]) H4 (g3.trans g4)
    clear e q e3 hr'
    walk_at "rz"
    refine ⟨_, tru_lst l4, ?_⟩
    by_cases ez : as = []
    · have e0 : (!(as.map fun q => V.ref q.1).isEmpty) = false := by rw [ez]; rfl
      have lt : late (as.map (·.2)) r = false := by rw [ez]; rfl
      rw [e0]
      have fin' := fin lt
      clear e0 ez bad fin
      walk_at "rz"
      refine ⟨by rw [List.length_map]; omega, fin'⟩
    · have e0 : (!(as.map fun q => V.ref q.1).isEmpty) = true := by cases as with | nil => exact absurd rfl ez | cons a b => rfl
      rw [e0]
      clear e0
      have i0 : 0 < i := by rw [← la]; exact List.length_pos_iff.mpr ez
      obtain ⟨u, hu⟩ : ∃ u, as[i - 1]? = some u := ⟨_, List.getElem?_eq_getElem (by omega)⟩
      have um := List.mem_of_getElem? hu
      have lt := late_snoc la hu r
      have a1 : atI (as.map fun q => V.ref q.1) (-1) = some (.ref u.1) := by
        obtain ⟨b1, b2⟩ := List.getElem?_eq_some_iff.mp hu
        have : as = as.take (i - 1) ++ [u] := by
          rw [← b2, List.take_append_getElem b1, List.take_of_length_le (by omega)]
        rw [this, List.map_append]
        exact atI_last _ _
      have a2 : atI (u.2.map kV) 0 = some (.int (mo u.2)) := atI_nat (j := 0) (by rw [List.getElem?_map, (rs3 u um).2.1]; rfl)
      have a3 : atI (r.map kV) 0 = some (.int (mo r)) := atI_nat (j := 0) (by rw [List.getElem?_map, rS.2.1]; rfl)
      have t4 := g4 _ _ (hl3.2 u um)
      by_cases c : mo r < mo u.2
      · rw [decide_eq_true c] at lt
        have e1 := bad lt
        clear fin bad
        walk_at "rz"
        iterate 4
          refine ⟨by first | omega | (simp only [cat_len, len_emp, l1]; omega), ?_⟩
          walk_at "rz"
      · rw [decide_eq_false c] at lt
        have fin' := fin lt
        clear bad fin
        walk_at "rz"
        refine ⟨by rw [List.length_map]; omega, fin'⟩
  · intro σ H3 z
    unfold RlI at z
    obtain ⟨v2, v3, as, rfl, g3, w3, hl3, rs3, la, e3⟩ := z
    walk_at "rz"
    rw [lm, List.drop_of_length_le (Nat.le_refl _)] at e3
    exact q _ e3 l as H3 hl g3 hl3 rfl
end
end K71

set_option Elab.async false
set_option linter.all false
set_option maxRecDepth 100000
set_option maxHeartbeats 4000000
namespace K71
open PySem L2
/-! ### what the law looks at -/
theorem sl_first {x : Str} {c : Nat} {t : List Nat} (h : x.cps.toList = c :: t) : PySem.Txt.slice x none (some 1) = ⟨#[c]⟩ := by
  rw [show PySem.Txt.slice x none (some 1) = PySem.StrLaws.sliceText x none (some 1) from rfl, PySem.StrLaws.sliceText_to ⟨by decide, by rw [h, List.length_cons]; omega⟩, h]
  rfl
theorem emp_of {x : Str} (h : x.cps.toList = []) : x = ⟨#[]⟩ := str_ext h
theorem dash {x : Str} : (PySem.Txt.slice x none (some 1) = Str.ofString "-") ↔ PySem.Txt.startswith x "-" = true := by
  rw [show Str.ofString "-" = ⟨#[45]⟩ by decide +kernel, startsw, decide_eq_true_eq]
  cases h : x.cps.toList with
  | nil =>
    rw [emp_of h]
    exact ⟨fun z => absurd z (by decide +kernel), fun z => by cases z⟩
  | cons c t =>
    rw [sl_first h]
    exact ⟨fun z => by injection z with z; injection z with z; injection z with z; rw [z]; rfl, fun z => by injection z with z; rw [z]⟩
/-- the figures that the law looks at -/
def figs0 (x : Str) (b : Bool) : Str := if b = true ∧ PySem.Txt.startswith x "-" = true then PySem.Txt.slice x (some 1) none else x
def figOk (x f : Str) : Bool := decide (1 ≤ f.length) && decide (f.length ≤ 7) && f.cps.toList.all (isL "0123456789") && !(PySem.Txt.startswith f "0" && !decide (x = "0"))
theorem fig_number (x : Str) : fitB "number" x = figOk x (figs0 x false) := by
  rw [fit_number]
  unfold figs0 figOk wholeOk
  rw [if_neg (fun z => absurd z.1 (by decide))]
  cases decide (1 ≤ x.length) <;> cases decide (x.length ≤ 7) <;> cases decide (x = Str.ofString "0") <;> cases PySem.Txt.startswith x (Str.ofString "0") <;> cases x.cps.toList.all (isL "0123456789") <;> rfl
theorem fig_said (x : Str) : fitB "said" x = figOk x (figs0 x true) := by
  rw [fit_said]
  unfold figs0
  by_cases z : PySem.Txt.startswith x "-" = true
  · rw [if_pos z, if_pos ⟨rfl, z⟩]
    have zz := z
    rw [show Str.ofString "-" = ⟨#[45]⟩ by decide +kernel, startsw, decide_eq_true_eq] at zz
    obtain ⟨t, ht⟩ : ∃ t, x.cps.toList = 45 :: t := by
      cases hc : x.cps.toList with
      | nil => rw [hc] at zz; cases zz
      | cons c r => rw [hc] at zz; cases zz; exact ⟨r, rfl⟩
    have n0 : decide (x = Str.ofString "0") = false := decide_eq_false fun y => by
      rw [y, show (Str.ofString "0").cps.toList = [48] by decide +kernel] at ht
      injection ht with a _
      exact absurd a (by decide)
    have e0 : decide (x = Str.ofString "-0") = decide (PySem.Txt.slice x (some 1) none = Str.ofString "0") := by
      rw [slice1 ht]
      by_cases y : t = [48]
      · rw [decide_eq_true (p := x = _) (str_ext (by rw [ht, y]; decide +kernel)), decide_eq_true (str_ext (by rw [y]; decide +kernel))]
      · have q1 : ¬ x = Str.ofString "-0" := fun q => y (by
          rw [q, show (Str.ofString "-0").cps.toList = [45, 48] by decide +kernel] at ht
          injection ht with _ ht
          exact ht.symm)
        have q2 : ¬ (⟨t.toArray⟩ : Str) = Str.ofString "0" := fun q => y (by
          have z : t = (Str.ofString "0").cps.toList := by rw [← q]
          rw [z]
          decide +kernel)
        rw [decide_eq_false q1, decide_eq_false q2]
    have h0 : PySem.Txt.slice x (some 1) none = Str.ofString "0" → PySem.Txt.startswith (PySem.Txt.slice x (some 1) none) "0" = true := fun y => by rw [y]; decide +kernel
    unfold wholeOk figOk
    rw [n0, e0]
    generalize PySem.Txt.slice x (some 1) none = f at h0
    by_cases y : f = Str.ofString "0"
    · rw [decide_eq_true y, h0 y]
      simp
    · rw [decide_eq_false y]
      cases decide (1 ≤ f.length) <;> cases decide (f.length ≤ 7) <;> cases PySem.Txt.startswith f (Str.ofString "0") <;> cases f.cps.toList.all (isL "0123456789") <;> rfl
  · rw [if_neg z, if_neg (fun y => z y.2), ← fit_number, fig_number]
    unfold figs0
    rw [if_neg (fun z => absurd z.1 (by decide))]
def nK (b : Bool) : Str := if b = true then "said" else "number"
theorem fig_nK (x : Str) (b : Bool) : fitB (nK b) x = figOk x (figs0 x b) := by
  cases b with
  | false => exact fig_number x
  | true => exact fig_said x
theorem tx_nK (b : Bool) : isTx (nK b) = false := by cases b <;> decide +kernel
theorem nK_in (b : Bool) : nK b ∈ kindsAll := by cases b <;> decide +kernel
theorem part_nK {x : Str} {b : Bool} (h : figOk x (figs0 x b) = true) : ∃ n : Int, n.natAbs < 10 ^ 7 ∧ x = Str.ofString (toString n) ∧ PySem.intText? x = some n ∧ partV (nK b) x = some (.inl n) := by
  rw [← fig_nK] at h
  obtain ⟨n, h1, h2, h3⟩ := fit_num h (by cases b <;> simp [nK])
  refine ⟨n, h1, h2, h3, ?_⟩
  unfold partV
  rw [if_pos h, tx_nK, h3]
  rfl
theorem part_nK0 {x : Str} {b : Bool} (h : figOk x (figs0 x b) = false) : partV (nK b) x = none := by
  unfold partV
  rw [fig_nK, h]
  rfl
/-- a value or none -/
def oV : Option Key → V
  | none => .non
  | some k => kV k
theorem in_oV : ∀ l : List (Option Key), inV .non (l.map oV) = l.any Option.isNone
  | [] => rfl
  | o :: l => by
    rw [List.map_cons, inV_cons, in_oV l, List.any_cons]
    congr 1
    cases o with
    | none => rfl
    | some k => cases k <;> rfl
theorem flat_oV : ∀ l : List (Option Key), (l.map oV).all flatV = true
  | [] => rfl
  | o :: l => by
    rw [List.map_cons, List.all_cons, flat_oV l, Bool.and_true]
    cases o with
    | none => rfl
    | some k => cases k <;> rfl
/-- letters for kinds -/
def kdL (c : Nat) : Str := if c = 110 then "number" else if c = 119 then "said" else if c = 100 then "asked" else "name"
def formsK : List (Str × Str) := [("begins", "a"), ("waits", "n"), ("queues", "dan"), ("takes", "an"), ("puts", "an"), ("gets", "an"), ("gives", "an"), ("says", "aw"), ("ends", ""), ("brings", "an")]
theorem look_map {α β : Type} (f : α → β) : ∀ (l : List (Str × α)) (x : Str), (l.map fun p => (p.1, f p.2)).lookup x = (l.lookup x).map f
  | [], _ => rfl
  | p :: l, x => by
    rw [List.map_cons, List.lookup_cons, List.lookup_cons]
    by_cases z : x = p.1
    · rw [show (x == p.1) = true from by simpa using z]; rfl
    · rw [show (x == p.1) = false from by simpa using z]; exact look_map f l x
theorem forms_K (x : Str) : formsL.lookup x = (formsK.lookup x).map fun ks => ks.cps.toList.map kdL := by
  rw [← look_map]
  congr 1 <;> decide +kernel
theorem whole6 {x : Str} {n : Int} (h : wholeOk 7 x = true) (hn : PySem.intText? x = some n) : (n ≤ 999999 ↔ wholeOk 6 x = true) := by
  obtain ⟨k, hk, e⟩ := canon h
  have : n = k := by rw [e, num_reads hk] at hn; injection hn with hn; exact hn.symm
  subst this
  refine ⟨fun z => ?_, fun z => ?_⟩
  · rw [e]; exact num_whole (by decide) (by omega)
  · obtain ⟨j, hj, e'⟩ := canon z
    rw [e', num_reads (by omega)] at hn
    injection hn with hn
    omega
theorem whole0 {x : Str} {n : Int} (h : wholeOk 7 x = true) (hn : PySem.intText? x = some n) : (n = 0 ↔ x = "0") := by
  obtain ⟨k, hk, e⟩ := canon h
  have : n = k := by rw [e, num_reads hk] at hn; injection hn with hn; exact hn.symm
  subst this
  refine ⟨fun z => ?_, fun z => ?_⟩
  · have : k = 0 := by omega
    rw [e, this]; decide +kernel
  · rw [z] at hn
    have : PySem.intText? (Str.ofString "0") = some 0 := by decide +kernel
    rw [this] at hn
    injection hn with hn
    exact hn.symm
/-- a row by the law's look is a row by the words -/
theorem row_law {ws : List Str} {x : Str} {fs : List Str} (hx : ws[2]? = some x) (hf : formsL.lookup x = some fs) (hl : ws.length = 3 + fs.length) {w0 w1 : Str} (h0 : ws[0]? = some w0) (h1 : ws[1]? = some w1) :
    rowV ws = if (partV "number" w0 :: partV "number" w1 :: List.zipWith partV fs (ws.drop 3)).any Option.isNone = true then none
      else match partV "number" w0, partV "number" w1 with
        | some (.inl a), some (.inl b) => if a > 999999 ∨ (decide (b = 0) ≠ decide (x = "brings")) then none else (allV (List.zipWith partV fs (ws.drop 3))).map fun vs => .inl a :: .inl b :: .inr x :: vs
        | _, _ => none := by
  unfold rowV
  rw [hx]
  simp only
  rw [hf]
  simp only
  rw [if_pos hl]
  have ew : ws = w0 :: w1 :: x :: ws.drop 3 := by
    match ws, h0, h1, hx with
    | a :: b :: c :: r, h0, h1, hx =>
      cases h0; cases h1; cases hx
      rfl
  generalize hrest : ws.drop 3 = rest at ew ⊢
  rw [ew]
  unfold kindsOf
  rw [List.zipWith_cons_cons, List.zipWith_cons_cons, List.zipWith_cons_cons]
  have pw : partV "word" x = some (.inr x) := by
    unfold partV
    rw [fit_word, if_pos rfl]
    rfl
  rw [pw]
  have n7 : ∀ y : Str, partV "number" y = if wholeOk 7 y = true then some (.inl ((PySem.intText? y).getD 0)) else none := fun y => by
    unfold partV
    rw [fit_number, show isTx "number" = false by decide +kernel]
    rfl
  have m7 : ∀ y : Str, partV "moment" y = if wholeOk 6 y = true then some (.inl ((PySem.intText? y).getD 0)) else none := fun y => by
    unfold partV
    rw [fit_moment, show isTx "moment" = false by decide +kernel]
    rfl
  have h7 : ∀ y : Str, partV (if x = "brings" then "nobody" else "hand") y = if wholeOk 7 y = true ∧ (decide (y = "0") = decide (x = "brings")) then some (.inl ((PySem.intText? y).getD 0)) else none := fun y => by
    unfold partV
    by_cases b : x = Str.ofString "brings"
    · rw [if_pos b, fit_nobody, show isTx "nobody" = false by decide +kernel, decide_eq_true b]
      by_cases z : y = Str.ofString "0"
      · have w7 : wholeOk 7 y = true := by rw [z]; decide +kernel
        rw [decide_eq_true z]
        simp [w7]
      · rw [decide_eq_false z]
        simp
    · rw [if_neg b, fit_hand, show isTx "hand" = false by decide +kernel, decide_eq_false b]
      by_cases z : y = Str.ofString "0"
      · rw [decide_eq_true z]
        simp
      · rw [decide_eq_false z]
        cases wholeOk 7 y <;> simp
  by_cases a0 : wholeOk 7 w0 = true
  · obtain ⟨k0, hk0, e0⟩ := canon a0
    have i0 : PySem.intText? w0 = some (k0 : Int) := by rw [e0]; exact num_reads hk0
    have r0 := whole6 a0 i0
    have p0 : partV "number" w0 = some (.inl (k0 : Int)) := by rw [n7, if_pos a0, i0]; rfl
    have pm : partV "moment" w0 = if (k0 : Int) ≤ 999999 then some (.inl (k0 : Int)) else none := by
      rw [m7, i0]
      by_cases b : (k0 : Int) ≤ 999999
      · rw [if_pos (r0.mp b), if_pos b]; rfl
      · rw [if_neg (fun z => b (r0.mpr z)), if_neg b]
    by_cases a1 : wholeOk 7 w1 = true
    · obtain ⟨k1, hk1, e1⟩ := canon a1
      have i1 : PySem.intText? w1 = some (k1 : Int) := by rw [e1]; exact num_reads hk1
      have r1 := whole0 a1 i1
      have p1 : partV "number" w1 = some (.inl (k1 : Int)) := by rw [n7, if_pos a1, i1]; rfl
      have d1 : decide (w1 = Str.ofString "0") = decide ((k1 : Int) = 0) := by
        by_cases z : (k1 : Int) = 0
        · rw [decide_eq_true z, decide_eq_true (r1.mp z)]
        · rw [decide_eq_false z, decide_eq_false fun y => z (r1.mpr y)]
      have ph : partV (if x = "brings" then "nobody" else "hand") w1 = if decide ((k1 : Int) = 0) = decide (x = "brings") then some (.inl (k1 : Int)) else none := by
        rw [h7, d1, i1]
        by_cases b : decide ((k1 : Int) = 0) = decide (x = Str.ofString "brings")
        · rw [if_pos ⟨a1, b⟩, if_pos b]; rfl
        · rw [if_neg (fun z => b z.2), if_neg b]
      rw [p0, p1, pm, ph]
      simp only [List.any_cons, Option.isNone_some, Bool.false_or]
      by_cases an : none ∈ List.zipWith partV fs rest
      · rw [if_pos (c := (List.zipWith partV fs rest).any Option.isNone = true) (List.any_eq_true.mpr ⟨none, an, rfl⟩)]
        exact allV_none (List.mem_cons_of_mem _ (List.mem_cons_of_mem _ (List.mem_cons_of_mem _ an)))
      · rw [if_neg (c := (List.zipWith partV fs rest).any Option.isNone = true) (fun z => by
          obtain ⟨o, ho, hn⟩ := List.any_eq_true.mp z
          cases o with
          | none => exact an ho
          | some _ => cases hn)]
        by_cases b0 : (k0 : Int) ≤ 999999
        · rw [if_pos b0]
          by_cases b1 : decide ((k1 : Int) = 0) = decide (x = Str.ofString "brings")
          · rw [if_pos b1, if_neg (by
              intro z
              rcases z with z | z
              · omega
              · exact z b1)]
            show ((((allV (List.zipWith partV fs rest)).map _).map _).map _) = _
            rw [Option.map_map, Option.map_map]
            rfl
          · rw [if_neg b1, if_pos (.inr b1)]
            exact allV_none (List.mem_cons_of_mem _ List.mem_cons_self)
        · rw [if_neg b0, if_pos (c := (k0 : Int) > 999999 ∨ _) (.inl (by omega))]
          exact allV_none List.mem_cons_self
    · have p1 : partV "number" w1 = none := by rw [n7, if_neg a1]
      have ph : partV (if x = "brings" then "nobody" else "hand") w1 = none := by rw [h7, if_neg (fun z => a1 z.1)]
      rw [p0, p1, ph]
      simp only [List.any_cons, Option.isNone_none, Option.isNone_some, Bool.false_or, Bool.true_or, if_true]
      exact allV_none (List.mem_cons_of_mem _ List.mem_cons_self)
  · have a6 : ¬ wholeOk 6 w0 = true := fun z => a0 (by
      obtain ⟨j, hj, e'⟩ := canon z
      rw [e']
      exact num_whole (by decide) (by omega))
    have p0 : partV "number" w0 = none := by rw [n7, if_neg a0]
    have pm : partV "moment" w0 = none := by rw [m7, if_neg a6]
    rw [p0, pm]
    simp only [List.any_cons, Option.isNone_none, Bool.true_or, if_true]
    exact allV_none List.mem_cons_self
end K71

set_option Elab.async false
set_option linter.all false
set_option maxRecDepth 100000
set_option maxHeartbeats 4000000
namespace K71
open PySem L2
theorem some_ok : ∀ x ∈ (["a", "ab", "abcdefgh", "waits", "takes", "queues", "begins", "zz"] : List Str), nameOk x = true := by decide +kernel
theorem room_ones : ∀ cs : List Nat, room (cs.map fun c => (⟨#[c]⟩ : Str)) = 2 * cs.length
  | [] => rfl
  | c :: cs => by
    show 1 + 1 + room (cs.map fun c => (⟨#[c]⟩ : Str)) = 2 * (cs.length + 1)
    rw [room_ones cs]
    omega
theorem q_ok {cs : List Nat} (h : ∀ c ∈ cs, isL "abcdefghijklmnopqrstuvwxyz" c = true) (hl : cs.length ≤ 7) : nameOk ((Str.ofString "q") ++ Str.join "" (cs.map fun c => (⟨#[c]⟩ : Str))) = true := by
  have key : ((Str.ofString "q") ++ Str.join "" (cs.map fun c => (⟨#[c]⟩ : Str)) : Str) = ⟨(113 :: cs).toArray⟩ := by
    have e : (Str.join "" (cs.map fun c => (⟨#[c]⟩ : Str))).cps.toList = cs := by
      clear h hl
      induction cs with
      | nil => rfl
      | cons c cs ih =>
        cases cs with
        | nil => rfl
        | cons d cs =>
          rw [List.map_cons, Str.join.eq_3 _ _ _ (by simp)]
          have : ∀ a b c : Str, (a ++ b ++ c).cps.toList = a.cps.toList ++ b.cps.toList ++ c.cps.toList := fun a b c => by
            show (a.cps ++ b.cps ++ c.cps).toList = _
            simp
          rw [this, ih]
          rfl
    have : ∀ a b : Str, (a ++ b) = ⟨a.cps ++ b.cps⟩ := fun a b => rfl
    rw [this]
    congr 1
    apply Array.ext'
    rw [Array.toList_append, e]
    rfl
  rw [key]
  unfold nameOk
  have l : (⟨(113 :: cs).toArray⟩ : Str).length = cs.length + 1 := by show (113 :: cs).toArray.size = _; simp
  have e1 : inV (.str ⟨(113 :: cs).toArray⟩) noN = false := by
    have : ∀ (l : List Str), (∀ x ∈ l, x.cps.toList.head? ≠ some 113) → inV (.str ⟨(113 :: cs).toArray⟩) (l.map V.str) = false := by
      intro l
      induction l with
      | nil => intro _; rfl
      | cons x l ih =>
        intro h
        rw [List.map_cons, inV_cons, eqV_ss, ih fun y hy => h y (List.mem_cons_of_mem _ hy), Bool.or_false, decide_eq_false_iff_not]
        intro z
        have := h x List.mem_cons_self
        first | (rw [z] at this; exact this rfl) | (rw [← z] at this; exact this rfl)
    exact this ["tool", "store", "row", "hand", "end", "wait", "take", "give", "put", "get", "let", "draw", "say", "start", "if", "else", "while", "stop", "now", "own"] (by decide +kernel)
  rw [l, e1, decide_eq_true (by omega), decide_eq_true (by omega)]
  simp only [Bool.not_false, Bool.and_self, Bool.true_and]
  rw [List.all_eq_true]
  intro c hc
  have hc : c ∈ 113 :: cs := by simpa using hc
  rcases List.mem_cons.mp hc with rfl | hc
  · decide +kernel
  · exact h c hc
section
variable {P : Program} {w : World} {K : PySem.W.Frag} {mg : Str → Option Value} {base : Heap}
def spStir : Sp := fun vs H Q _ => ∃ c k : Int, vs = [.int c, .int k] ∧ 0 ≤ k ∧ k ≤ 1000 ∧ ∀ m : Int, 0 ≤ m → m < 2 ^ 28 → Q (.int m) H
theorem ok_stir (D : DefAt K mg "_law_stir" s__law_stir ["cell", "k"]) : OkD P w K mg base 1 "_law_stir" ["cell", "k"] spStir := by
  refine D.ok sc__law_stir (fun vs H Q E h => ?_) (fun f cdv A outer s H vs Q E hr h => ?_)
  · obtain ⟨c, k, rfl, _⟩ := h; rfl
  obtain ⟨c, k, rfl, h0, h1, q⟩ := h
  refine ⟨_, (pss_cons (ps_if (pt_cmpR op_ge (pv 0) (pe_op op_pow pe_int pe_int) (nomark _))
  (pss_one (ps_ret (pe_op op_mod (pe_op op_shr (pe_op op_sub (pv 0) (pe_op op_pow pe_int pe_int)) (pe_op op_mul pe_int (pv 1))) (pe_op op_pow pe_int pe_int))))
  pss_nil)
  (pss_cons (ps_set (i := 2) sc__law_stir.nd rfl (Or.inl rfl) (pe_op op_mod (pe_op op_mul (pe_op op_add (pe_op op_add (pv 0) (pe_op op_mul pe_int (pv 1))) pe_int) pe_int) pe_int))
  (pss_cons (ps_set (i := 2) sc__law_stir.nd rfl (Or.inl rfl) (pe_op op_mod (pe_op op_mul (pv 2) (pv 2)) pe_int))
  (pss_one (ps_ret (pe_op op_fdiv (pe_op op_mod (pe_op op_mul (pv 2) pe_int) pe_int) pe_int)))))), ?_⟩
  walk_at "rd"
  split
  · exact ⟨by omega, q _ (Int.emod_nonneg _ (by decide)) (Int.emod_lt_of_pos _ (by decide))⟩
  · refine ⟨by omega, q _ ?_ ?_⟩ <;> omega
def spNm : Sp := fun vs H Q _ => ∃ n : Int, vs = [.int n] ∧ 0 ≤ n ∧ n < 2 ^ 28 ∧ ∀ x H', Same H H' → nameOk x = true → Q (.str x) H'
def NmP (n : Int) (N i : Nat) (zs : List V) (σ1 : St) (H' : Hp) : Prop := (∃ v0, σ1 = [v0, some (.int n), some (.str "abcdefghijklmnopqrstuvwxyz")]) ∧ ∃ cs : List Nat, zs = (cs.map fun c => (⟨#[c]⟩ : Str)).map V.str ∧ cs.length = i ∧ ∀ c ∈ cs, isL "abcdefghijklmnopqrstuvwxyz" c = true
theorem ok_nm (D : DefAt K mg "_law_name" s__law_name ["number"]) (hrange : mg "range" = none) : OkD P w K mg base 1 "_law_name" ["number"] spNm := by
  refine D.ok sc__law_name (fun vs H Q E h => ?_) (fun f cdv A outer s H vs Q E hr h => ?_)
  · obtain ⟨n, rfl, _⟩ := h; rfl
  obtain ⟨n, rfl, h0, h1, q⟩ := h
  have big : 100000 ≤ sizeLine := by unfold sizeLine; decide
  refine ⟨_, (pss_cons (ps_set (i := 1) sc__law_name.nd rfl (Or.inr rfl) pe_str)
  (pss_cons (ps_set (i := 2) sc__law_name.nd rfl (Or.inl rfl) (pe_lstG (pa_c pe_str (pa_c pe_str (pa_c pe_str (pa_c pe_str (pa_c pe_str (pa_c pe_str (pa_c pe_str (pa_c pe_str pa_nil))))))))))
  (pss_cons (ps_if (pt_cmpR op_gt (pe_op op_mod (pv 0) pe_int) pe_int (nomark _))
  (pss_one (ps_ret (pe_ix ix_g (pv 2) (pe_op op_mod (pe_op op_fdiv (pv 0) pe_int) pe_int) (fun _ _ => rfl))))
  pss_nil)
  (pss_cons (ps_set (i := 3) sc__law_name.nd rfl (Or.inl rfl) (pe_op op_add pe_int (pe_op op_mod (pe_op op_fdiv (pv 0) pe_int) pe_int)))
  (pss_one (ps_ret (pe_op op_add_str pe_str (pe_join pe_str (pe_compN (comp_scopeN 1 (N := ["k", "number", "letters"]) (cap := [0, 1]) rfl rfl rfl rfl (by decide +kernel) rfl rfl rfl) rfl (pi_range1 rfl hrange (pa_c (pe_op op_sub (pv 3) pe_int) pa_nil)) (fun _ _ _ _ => (pg_name (i := 0) (show List.Nodup (α := Str) ["k", "number", "letters"] by decide +kernel) rfl (Or.inl (lookup_relabel_local rfl)) (Or.inr (lookup_relabel_local rfl)))) (fun _ _ _ _ => pts_nil) (fun _ _ _ _ => (pe_ix ix_str (pv 2) (pe_op op_mod (pe_op op_fdiv (pv 1) (pe_op op_add pe_int (pe_op op_mul pe_int (pv 0)))) pe_int) (fun _ _ => rfl)))))))))))), ?_⟩
  walk_at "rz"
  refine ⟨by omega, fun sm H1 hsm g1 h1' => ?_⟩
  walk_at "rz"
  refine ite2 (fun c1 => ?_) fun c1 => ?_
  · clear c1
    walk_at "rz"
    obtain ⟨v, hv, hm, _⟩ := atI_in (xs := (["a", "ab", "abcdefgh", "waits", "takes", "queues", "begins", "zz"] : List Str).map V.str) (i := n / 4 % 8) (by omega) (by rw [List.length_map]; show n / 4 % 8 < 8; omega)
    obtain ⟨x, hx, rfl⟩ := List.mem_map.mp hm
    refine ⟨_, hv, q x H1 g1 (some_ok x hx)⟩
  · clear c1
    walk_at "rz"
    refine tcomp_in ?_
    simp only [iRng1]
    walk_at "rz"
    refine ⟨by omega, by omega, compJ_range (by omega) (NmP n (1 + n / 4 % 8 - 1).toNat) (fun H' _ => ⟨⟨_, rfl⟩, [], rfl, rfl, fun c hc => absurd hc List.not_mem_nil⟩) ?_ ?_⟩
    · rintro C i zs σ1 H' hi at1 ⟨⟨v0, rfl⟩, cs, rfl, lc, ha⟩
      clear h1'
      walk_at "rz"
      refine ⟨by omega, by omega, ?_⟩
      walk_at "rz"
      have m0 := Int.emod_nonneg (n / (32 + 7 * (i : Int))) (show (26 : Int) ≠ 0 by decide)
      have m1 := Int.emod_lt_of_pos (n / (32 + 7 * (i : Int))) (show (0 : Int) < 26 by decide)
      have l26 : (Str.ofString "abcdefghijklmnopqrstuvwxyz").cps.toList.length = 26 := by decide +kernel
      obtain ⟨v, hv, hm, _⟩ := atI_in (xs := (Str.ofString "abcdefghijklmnopqrstuvwxyz").cps.toList) (i := n / (32 + 7 * (i : Int)) % 26) m0 (by rw [l26]; exact m1)
      refine ⟨by unfold sizeLine; decide +kernel, v, hv, at1.put (Same.refl _) fun H5 mu => ⟨⟨_, rfl⟩, cs ++ [v], ?_, by rw [List.length_append, lc]; rfl, fun c hc => ?_⟩⟩
      · rw [List.map_append, List.map_append]; rfl
      · rcases List.mem_append.mp hc with hc | hc
        · exact ha c hc
        · rw [List.mem_singleton.mp hc, isL_mem]
          exact decide_eq_true hm
    · rintro C zs σ1 H' hC g2 hy hle ⟨_, cs, rfl, lc, ha⟩
      have lc7 : cs.length ≤ 7 := by omega
      have nk := q_ok ha lc7
      refine ⟨C, rfl, _, trivial, hy, joinOk_room (s := Str.ofString "") (Nat.zero_le 1) (by rw [room_ones]; omega), _, _, rfl, rfl, ?_, ?_⟩
      · have l1 : (PySem.Txt.join (Str.ofString "") (cs.map fun c => (⟨#[c]⟩ : Str))).length = cs.length := by
          rw [tjoin]
          have := PyProof.Rows.join_ones cs
          rw [show Str.ofString "" = ⟨#[]⟩ from rfl, this]
          show cs.toArray.size = _
          simp
        rw [l1]
        show 1 + cs.length ≤ sizeLine
        omega
      · rw [tjoin]
        exact q _ H' (g1.trans g2) nk
end
end K71

set_option Elab.async false
set_option linter.all false
set_option maxRecDepth 100000
set_option maxHeartbeats 4000000
namespace K71
open PySem L2
def RowF (r : List Key) : Prop := (3 ≤ r.length ∧ r.length ≤ 6) ∧ (∃ i : Int, r[0]? = some (.inl i)) ∧ ∀ v ∈ r, Fine v
theorem fine_name {x : Str} (h : nameOk x = true) : Fine (.inr x) := by
  have l := name_len h
  exact word_fine ⟨fun c hc => by have := l.2 c hc; omega, fun z => by have := l.2 _ z; omega, fun z => by have := l.2 _ z; omega⟩ (by omega)
theorem fine_word {x : Str} (h : x ∈ (["begins", "waits", "queues", "takes", "puts", "gets", "gives", "says", "ends", "brings", "take", "put", "get"] : List Str)) : Fine (.inr x) := by
  have : ∀ x ∈ (["begins", "waits", "queues", "takes", "puts", "gets", "gives", "says", "ends", "brings", "take", "put", "get"] : List Str), ((∀ c ∈ x.cps.toList, c < 128) ∧ 32 ∉ x.cps.toList ∧ 10 ∉ x.cps.toList) ∧ x.length ≤ 20 := by decide +kernel
  exact word_fine (this x h).1 (this x h).2
theorem mem_0 : ∀ v ∈ ([] : List Key), Fine v := fun v hv => absurd hv List.not_mem_nil
theorem mem_f {v : Key} {l : List Key} (h : Fine v) (hl : ∀ v ∈ l, Fine v) : ∀ u ∈ v :: l, Fine u := fun u hu => by
  rcases List.mem_cons.mp hu with rfl | hu
  · exact h
  · exact hl u hu
section
variable {P : Program} {w : World} {K : PySem.W.Frag} {mg : Str → Option Value} {base : Heap}
def spRw : Sp := fun vs H Q _ => ∃ c m : Int, vs = [.int c, .int m] ∧ 0 ≤ m ∧ m ≤ 999999 ∧ ∀ p r H', H p = none → Same H H' → H' p = some (.tup (r.map kV)) → RowF r → Q (.ref p) H'
theorem ok_rw (D : DefAt K mg "_law_row" s__law_row ["cell", "moment"]) (G__law_stir : OkD P w K mg base 1 "_law_stir" ["cell", "k"] spStir) (G__law_name : OkD P w K mg base 1 "_law_name" ["number"] spNm) : OkD P w K mg base 2 "_law_row" ["cell", "moment"] spRw := by
  refine D.ok sc__law_row (fun vs H Q E h => ?_) (fun f cdv A outer s H vs Q E hr h => ?_)
  · obtain ⟨_, _, rfl, _⟩ := h; rfl
  obtain ⟨c, m, rfl, hm0, hm1, q⟩ := h
  have big : 100000 ≤ sizeLine := by unfold sizeLine; decide
  refine ⟨_, (pss_cons (ps_set (i := 2) sc__law_row.nd rfl (Or.inl rfl) (pe_def G__law_stir hr rfl (pa_c (pv 0) (pa_c pe_int pa_nil))))
  (pss_cons (ps_set (i := 3) sc__law_row.nd rfl (Or.inl rfl) (pe_def G__law_name hr rfl (pa_c (pe_def G__law_stir hr rfl (pa_c (pv 0) (pa_c pe_int pa_nil))) pa_nil)))
  (pss_cons (ps_set (i := 4) sc__law_row.nd rfl (Or.inl rfl) (pe_ix ix_g (pe_lstG (pa_c (pe_op op_mod (pe_op op_fdiv (pv 2) pe_int) pe_int) (pa_c (pe_op op_mod (pe_op op_fdiv (pv 2) pe_int) pe_int) (pa_c pe_int pa_nil)))) (pe_op op_mod (pe_def G__law_stir hr rfl (pa_c (pv 0) (pa_c pe_int pa_nil))) pe_int) (fun _ _ => rfl)))
  (pss_cons (ps_set (i := 5) sc__law_row.nd rfl (Or.inl rfl) (pe_op op_add pe_int (pe_ix ix_g (pe_lstG (pa_c (pe_op op_mod (pe_op op_fdiv (pv 2) pe_int) pe_int) (pa_c (pe_op op_mod (pe_op op_fdiv (pv 2) pe_int) pe_int) pa_nil))) (pe_op op_mod (pe_def G__law_stir hr rfl (pa_c (pv 0) (pa_c pe_int pa_nil))) pe_int) (fun _ _ => rfl))))
  (pss_cons (ps_set (i := 6) sc__law_row.nd rfl (Or.inl rfl) (pe_op op_mod (pv 2) pe_int))
  (pss_cons (ps_if (pt_cmpR op_eq (pv 6) pe_int (nomark _))
  (pss_one (ps_ret (pe_tupG (pa_c (pv 1) (pa_c (pv 5) (pa_c pe_str (pa_c (pv 3) pa_nil)))))))
  pss_nil)
  (pss_cons (ps_if (pt_cmpR op_eq (pv 6) pe_int (nomark _))
  (pss_one (ps_ret (pe_tupG (pa_c (pv 1) (pa_c (pv 5) (pa_c pe_str (pa_c (pv 4) pa_nil)))))))
  pss_nil)
  (pss_cons (ps_if (pt_cmpR op_eq (pv 6) pe_int (nomark _))
  (pss_one (ps_ret (pe_tupG (pa_c (pv 1) (pa_c (pv 5) (pa_c pe_str (pa_c (pe_ix ix_g (pe_lstG (pa_c pe_str (pa_c pe_str (pa_c pe_str pa_nil)))) (pe_op op_mod (pe_def G__law_stir hr rfl (pa_c (pv 0) (pa_c pe_int pa_nil))) pe_int) (fun _ _ => rfl)) (pa_c (pv 3) (pa_c (pv 4) pa_nil)))))))))
  pss_nil)
  (pss_cons (ps_if (pt_cmpR op_lt (pv 6) pe_int (nomark _))
  (pss_one (ps_ret (pe_tupG (pa_c (pv 1) (pa_c (pv 5) (pa_c (pe_ix ix_g (pe_lstG (pa_c pe_str (pa_c pe_str (pa_c pe_str (pa_c pe_str pa_nil))))) (pe_op op_sub (pv 6) pe_int) (fun _ _ => rfl)) (pa_c (pv 3) (pa_c (pv 4) pa_nil))))))))
  pss_nil)
  (pss_cons (ps_if (pt_cmpR op_eq (pv 6) pe_int (nomark _))
  (pss_one (ps_ret (pe_tupG (pa_c (pv 1) (pa_c (pv 5) (pa_c pe_str (pa_c (pv 3) (pa_c (pe_op op_mul (pv 4) (pe_ix ix_g (pe_lstG (pa_c pe_int (pa_c (pe_un un_neg pe_int) pa_nil))) (pe_op op_mod (pe_def G__law_stir hr rfl (pa_c (pv 0) (pa_c pe_int pa_nil))) pe_int) (fun _ _ => rfl))) pa_nil))))))))
  pss_nil)
  (pss_cons (ps_if (pt_cmpR op_eq (pv 6) pe_int (nomark _))
  (pss_one (ps_ret (pe_tupG (pa_c (pv 1) (pa_c (pv 5) (pa_c pe_str pa_nil))))))
  pss_nil)
  (pss_one (ps_ret (pe_tupG (pa_c (pv 1) (pa_c pe_int (pa_c pe_str (pa_c (pv 3) (pa_c (pv 4) pa_nil))))))))))))))))))), ?_⟩
  walk_at "rz"
  refine ⟨_, _, rfl, by decide, by decide, fun k1 k10 k11 => ?_⟩
  walk_at "rz"
  refine ⟨_, _, rfl, by decide, by decide, fun k2 k20 k21 => ?_⟩
  walk_at "rz"
  refine ⟨_, rfl, k20, k21, fun x H1 g1 hx => ?_⟩
  walk_at "rz"
  intro p2 H2 hp2 g2 h2
  walk_at "rz"
  refine ⟨_, _, rfl, by decide, by decide, fun k3 k30 k31 => ?_⟩
  walk_at "rz"
  obtain ⟨v, hv, hvm, _⟩ := atI_in (xs := [V.int (k1 / 10 % 10), V.int (k1 / 10 % 1000000), V.int 1000000]) (i := k3 % 3) (by omega) (by show k3 % 3 < 3; omega)
  obtain ⟨n, rfl, n0, n1⟩ : ∃ n : Int, v = .int n ∧ 0 ≤ n ∧ n ≤ 1000000 := by
    simp only [List.mem_cons, List.not_mem_nil, or_false] at hvm
    rcases hvm with rfl | rfl | rfl
    · exact ⟨_, rfl, by omega, by omega⟩
    · exact ⟨_, rfl, by omega, by omega⟩
    · exact ⟨_, rfl, by omega, by omega⟩
  refine ⟨_, hv, ?_⟩
  clear hv hvm h2
  walk_at "rz"
  intro p4 H4 hp4 g4 h4
  walk_at "rz"
  refine ⟨_, _, rfl, by decide, by decide, fun k5 k50 k51 => ?_⟩
  walk_at "rz"
  obtain ⟨v, hv, hvm, _⟩ := atI_in (xs := [V.int (k1 / 10 % 9), V.int (k1 / 10 % 60)]) (i := k5 % 2) (by omega) (by show k5 % 2 < 2; omega)
  obtain ⟨hd, rfl, d0, d1⟩ : ∃ n : Int, v = .int n ∧ 0 ≤ n ∧ n ≤ 60 := by
    simp only [List.mem_cons, List.not_mem_nil, or_false] at hvm
    rcases hvm with rfl | rfl
    · exact ⟨_, rfl, by omega, by omega⟩
    · exact ⟨_, rfl, by omega, by omega⟩
  refine ⟨_, hv, ?_⟩
  clear hv hvm h4
  walk_at "rz"
  have g5 : Same H H4 := (g1.trans g2).trans g4
  have fm : Fine (.inl m) := num_fine (by omega)
  have fh : Fine (.inl (1 + hd)) := num_fine (by omega)
  have fn : Fine (.inl n) := num_fine (by omega)
  have fs : ∀ a : Int, a = 1 ∨ a = -1 → Fine (.inl (n * a)) := fun a ha => num_fine (by rcases ha with rfl | rfl <;> omega)
  have f0 : Fine (.inl 0) := num_fine (by decide)
  have fx := fine_name hx
  clear hm0 hm1 n0 n1 d0 d1 k50 k51 k30 k31 k20 k21
  have fin : ∀ (r : List Key) p H5, RowF r → Same H H5 → ∀ H6, H5 p = none → Same H5 H6 → H6 p = some (.tup (r.map kV)) → Q (.ref p) H6 := fun r p H5 rg gg H6 hp g6 h6 => q p r H6 (gg.free hp) (gg.trans g6) h6 rg
  have RB : RowF [.inl m, .inl (1 + hd), .inr "begins", .inr x] := ⟨⟨by simp, by simp⟩, ⟨_, rfl⟩, mem_f fm (mem_f fh (mem_f (fine_word (by decide +kernel)) (mem_f fx mem_0)))⟩
  have RW : RowF [.inl m, .inl (1 + hd), .inr "waits", .inl n] := ⟨⟨by simp, by simp⟩, ⟨_, rfl⟩, mem_f fm (mem_f fh (mem_f (fine_word (by decide +kernel)) (mem_f fn mem_0)))⟩
  have RQ : ∀ a : Str, a = "take" ∨ a = "put" ∨ a = "get" → RowF [.inl m, .inl (1 + hd), .inr "queues", .inr a, .inr x, .inl n] := fun a ha => ⟨⟨by simp, by simp⟩, ⟨_, rfl⟩, mem_f fm (mem_f fh (mem_f (fine_word (by decide +kernel)) (mem_f (fine_word (by rcases ha with rfl | rfl | rfl <;> decide +kernel)) (mem_f fx (mem_f fn mem_0)))))⟩
  have RT : ∀ a : Str, a = "takes" ∨ a = "puts" ∨ a = "gets" ∨ a = "gives" → RowF [.inl m, .inl (1 + hd), .inr a, .inr x, .inl n] := fun a ha => ⟨⟨by simp, by simp⟩, ⟨_, rfl⟩, mem_f fm (mem_f fh (mem_f (fine_word (by rcases ha with rfl | rfl | rfl | rfl <;> decide +kernel)) (mem_f fx (mem_f fn mem_0))))⟩
  have RS : ∀ a : Int, a = 1 ∨ a = -1 → RowF [.inl m, .inl (1 + hd), .inr "says", .inr x, .inl (n * a)] := fun a ha => ⟨⟨by simp, by simp⟩, ⟨_, rfl⟩, mem_f fm (mem_f fh (mem_f (fine_word (by decide +kernel)) (mem_f fx (mem_f (fs a ha) mem_0))))⟩
  have RE : RowF [.inl m, .inl (1 + hd), .inr "ends"] := ⟨⟨by simp, by simp⟩, ⟨_, rfl⟩, mem_f fm (mem_f fh (mem_f (fine_word (by decide +kernel)) mem_0))⟩
  have RR : RowF [.inl m, .inl 0, .inr "brings", .inr x, .inl n] := ⟨⟨by simp, by simp⟩, ⟨_, rfl⟩, mem_f fm (mem_f f0 (mem_f (fine_word (by decide +kernel)) (mem_f fx (mem_f fn mem_0))))⟩
  clear fm fh fn fs f0 fx
  refine ite2 (fun c1 => ?_) fun c1 => ?_
  · clear c1
    walk_at "rz"
    exact fun p H6 hp g6 h6 => fin _ p H4 RB g5 H6 hp g6 h6
  walk_at "rz"
  refine ite2 (fun c2 => ?_) fun c2 => ?_
  · clear c2
    walk_at "rz"
    exact fun p H6 hp g6 h6 => fin _ p H4 RW g5 H6 hp g6 h6
  walk_at "rz"
  refine ite2 (fun c3 => ?_) fun c3 => ?_
  · clear c3
    walk_at "rz"
    intro p7 H7 hp7 g7 h7
    walk_at "rz"
    refine ⟨_, _, rfl, by decide, by decide, fun k8 k80 k81 => ?_⟩
    walk_at "rz"
    obtain ⟨v, hv, hvm, _⟩ := atI_in (xs := [V.str "take", V.str "put", V.str "get"]) (i := k8 % 3) (by omega) (by show k8 % 3 < 3; omega)
    obtain ⟨a, rfl, ha⟩ : ∃ a : Str, v = .str a ∧ (a = "take" ∨ a = "put" ∨ a = "get") := by
      simp only [List.mem_cons, List.not_mem_nil, or_false] at hvm
      rcases hvm with rfl | rfl | rfl
      · exact ⟨_, rfl, .inl rfl⟩
      · exact ⟨_, rfl, .inr (.inl rfl)⟩
      · exact ⟨_, rfl, .inr (.inr rfl)⟩
    refine ⟨_, hv, ?_⟩
    have rq := RQ a ha
    clear hv hvm h7 ha
    walk_at "rz"
    exact fun p H6 hp g6 h6 => fin _ p H7 rq (g5.trans g7) H6 hp g6 h6
  walk_at "rz"
  refine ite2 (fun c4 => ?_) fun c4 => ?_
  · walk_at "rz"
    intro p7 H7 hp7 g7 h7
    walk_at "rz"
    obtain ⟨v, hv, hvm, _⟩ := atI_in (xs := [V.str "takes", V.str "puts", V.str "gets", V.str "gives"]) (i := k1 % 10 - 3) (by omega) (by show k1 % 10 - 3 < 4; omega)
    obtain ⟨a, rfl, ha⟩ : ∃ a : Str, v = .str a ∧ (a = "takes" ∨ a = "puts" ∨ a = "gets" ∨ a = "gives") := by
      simp only [List.mem_cons, List.not_mem_nil, or_false] at hvm
      rcases hvm with rfl | rfl | rfl | rfl
      · exact ⟨_, rfl, .inl rfl⟩
      · exact ⟨_, rfl, .inr (.inl rfl)⟩
      · exact ⟨_, rfl, .inr (.inr (.inl rfl))⟩
      · exact ⟨_, rfl, .inr (.inr (.inr rfl))⟩
    refine ⟨_, hv, ?_⟩
    have rt := RT a ha
    clear hv hvm h7 ha c1 c2 c3 c4
    walk_at "rz"
    exact fun p H6 hp g6 h6 => fin _ p H7 rt (g5.trans g7) H6 hp g6 h6
  clear c1 c2 c3 c4
  walk_at "rz"
  refine ite2 (fun c5 => ?_) fun c5 => ?_
  · clear c5
    walk_at "rz"
    intro p7 H7 hp7 g7 h7
    walk_at "rz"
    refine ⟨_, _, rfl, by decide, by decide, fun k8 k80 k81 => ?_⟩
    walk_at "rz"
    obtain ⟨v, hv, hvm, _⟩ := atI_in (xs := [V.int 1, V.int (-1)]) (i := k8 % 2) (by omega) (by show k8 % 2 < 2; omega)
    obtain ⟨a, rfl, ha⟩ : ∃ a : Int, v = .int a ∧ (a = 1 ∨ a = -1) := by
      simp only [List.mem_cons, List.not_mem_nil, or_false] at hvm
      rcases hvm with rfl | rfl
      · exact ⟨_, rfl, .inl rfl⟩
      · exact ⟨_, rfl, .inr rfl⟩
    refine ⟨_, hv, ?_⟩
    have rs := RS a ha
    clear hv hvm h7
    walk_at "rz"
    refine ⟨by omega, ?_⟩
    clear ha
    walk_at "rz"
    exact fun p H6 hp g6 h6 => fin _ p H7 rs (g5.trans g7) H6 hp g6 h6
  walk_at "rz"
  refine ite2 (fun c6 => ?_) fun c6 => ?_
  · clear c6
    walk_at "rz"
    exact fun p H6 hp g6 h6 => fin _ p H4 RE g5 H6 hp g6 h6
  walk_at "rz"
  exact fun p H6 hp g6 h6 => fin _ p H4 RR g5 H6 hp g6 h6
def spLg (K : PySem.W.Frag) : Sp := fun vs H Q _ => ∃ (a : Addr) (ns : List Int), vs = [.ref a] ∧ SqL K H a (ns.map V.int) ∧ ns.length ≤ 63 ∧ ∀ l as H', H l = none → Same H H' → HG H' l as → (∀ q ∈ as, RowF q.2) → as.length ≤ 63 → Q (.ref l) H'
def LgI (a l cl : Addr) (cs : List Int) (H : Hp) (i : Nat) (σ : St) (H' : Hp) : Prop := ∃ (m : Int) (as : List (Addr × List Key)) (v3 v4 : Option V), σ = [some (.ref a), some (.int m), some (.ref l), v3, v4] ∧ 0 ≤ m ∧ m ≤ 999999 ∧ Same H H' ∧ H' cl = some (.lst (cs.map V.int)) ∧ HG H' l as ∧ as.length = i ∧ (∀ q ∈ as, RowF q.2)
theorem ok_lg (D : DefAt K mg "_law_log" s__law_log ["script"]) (G__law_stir : OkD P w K mg base 1 "_law_stir" ["cell", "k"] spStir) (G__law_row : OkD P w K mg base 2 "_law_row" ["cell", "moment"] spRw) (hmin : mg "min" = none) : OkD P w K mg base 3 "_law_log" ["script"] (spLg K) := by
  refine D.ok sc__law_log (fun vs H Q E h => ?_) (fun f cdv A outer s H vs Q E hr h => ?_)
  · obtain ⟨_, _, rfl, _⟩ := h; rfl
  obtain ⟨a, ns, rfl, hS, hn, q⟩ := h
  have big : 100000 ≤ sizeLine := by unfold sizeLine; decide
  refine ⟨_, (pss_cons (ps_set (i := 1) sc__law_log.nd rfl (Or.inl rfl) pe_int)
  (pss_cons (ps_set (i := 2) sc__law_log.nd rfl (Or.inl rfl) (pe_lstG pa_nil))
  (pss_cons (ps_for PassesOwn.never rfl (pi_list (pe_slice sl_k (pv 0) po_none (po_some pe_int))) (pg_name (i := 3) sc__law_log.nd rfl (Or.inl rfl))
  (pss_cons (ps_set (i := 4) sc__law_log.nd rfl (Or.inl rfl) (pe_op op_mod (pe_def G__law_stir hr rfl (pa_c (pv 3) (pa_c pe_int pa_nil))) pe_int))
  (pss_cons (ps_set (i := 1) sc__law_log.nd rfl (Or.inl rfl) (pe_cB (call_min2 rfl) rfl hmin (by decide +kernel) (pa_c pe_int (pa_c (pe_op op_add (pv 1) (pe_ix ix_g (pe_lstG (pa_c pe_int (pa_c pe_int (pa_c pe_int (pa_c pe_int (pa_c pe_int (pa_c pe_int (pa_c pe_int (pa_c pe_int pa_nil))))))))) (pv 4) (fun _ _ => rfl))) pa_nil))))
  (pss_cons (ps_if (pt_cmpR op_eq (pe_op op_mod (pe_def G__law_stir hr rfl (pa_c (pv 3) (pa_c pe_int pa_nil))) pe_int) pe_int (nomark _))
  (pss_one (ps_set (i := 1) sc__law_log.nd rfl (Or.inl rfl) pe_int))
  pss_nil)
  (pss_one (ps_expr (pe_appG (pv 2) (pe_def G__law_row hr rfl (pa_c (pv 3) (pa_c (pv 1) pa_nil))))))))))
  (pss_one (ps_ret (pv 2)))))), ?_⟩
  walk_at "rz"
  intro l H1 hl g1 h1
  walk_at "rz"
  refine tfor_in ?_
  simp only [iList]
  walk_at "rz"
  refine ⟨a, ns.map V.int, rfl, ?_, fun cl H2 hcl g2 h2 => ?_⟩
  · rcases hS with (h | ⟨o, h⟩) | h
    · exact .inl (.inl (g1 _ _ h))
    · exact .inl (.inr ⟨o, g1 _ _ h⟩)
    · exact .inr h
  rw [show cutV (ns.map V.int) none (some 63) = ns.map V.int from cut_upto (n := 63) (by rw [List.length_map]; exact hn)] at h2
  have l2 := g2 _ _ h1
  have ncl : cl ≠ l := fun z => by rw [z, h1] at hcl; cases hcl
  refine ⟨cl, rfl, ⟨_, SqL.of h2⟩, for_list (xs := ns.map V.int) (LgI a l cl ns H) ?_ ?_ ?_ ?_⟩
  · unfold LgI
    exact ⟨0, [], _, _, rfl, by omega, by omega, g1.trans g2, h2, ⟨l2, fun q hq => absurd hq List.not_mem_nil⟩, rfl, fun q hq => absurd hq List.not_mem_nil⟩
  · intro i σ H3 hi z
    unfold LgI at z
    obtain ⟨m, as, v3, v4, rfl, m0, m1, g3, c3, hl3, le3, rg3⟩ := z
    exact SqL.of c3
  · intro i x' σ H3 hx z
    unfold LgI at z
    obtain ⟨m, as, v3, v4, rfl, m0, m1, g3, c3, hl3, le3, rg3⟩ := z
    rw [List.getElem?_map] at hx
    obtain ⟨c, hc, rfl⟩ := Option.map_eq_some_iff.mp hx
    have hi : i < ns.length := (List.getElem?_eq_some_iff.mp hc).1
    have l3 := hl3.1
    clear h1 h2 l2
    walk_at "rz"
    refine ⟨_, _, rfl, by decide, by decide, fun k1 k10 k11 => ?_⟩
    walk_at "rz"
    refine ⟨by omega, fun p4 H4 hp4 g4 h4 => ?_⟩
    have l4 := g4 _ _ l3
    clear l3
    walk_at "rz"
    obtain ⟨v, hv, hvm, _⟩ := atI_in (xs := [V.int 0, V.int 0, V.int 0, V.int 1, V.int 2, V.int 9, V.int 100, V.int 30000]) (i := k1 % 8) (by omega) (by show k1 % 8 < 8; omega)
    obtain ⟨st, rfl, s0⟩ : ∃ n : Int, v = .int n ∧ 0 ≤ n := by
      simp only [List.mem_cons, List.not_mem_nil, or_false] at hvm
      rcases hvm with rfl | rfl | rfl | rfl | rfl | rfl | rfl | rfl <;> exact ⟨_, rfl, by omega⟩
    refine ⟨_, hv, ?_⟩
    clear hv hvm h4
    walk_at "rz"
    refine ⟨_, _, rfl, by decide, by decide, fun k5 k50 k51 => ?_⟩
    walk_at "rz"
    obtain ⟨m2, e2, m20, m21⟩ : ∃ m2 : Int, (if m + st < 999999 then m + st else 999999) = m2 ∧ m ≤ m2 ∧ m2 ≤ 999999 := by
      refine ⟨_, rfl, ?_, ?_⟩ <;> split <;> omega
    have last : ∀ m3 : Int, m ≤ m3 → m3 ≤ 999999 → ∀ p r H5, H4 p = none → Same H4 H5 → H5 p = some (.tup (r.map kV)) → RowF r → ∀ H6, Mu H5 l (.lst (as.map (fun q => V.ref q.1) ++ [.ref p])) H6 → LgI a l cl ns H (i + 1) [some (.ref a), some (.int m3), some (.ref l), some (.int c), some (.int (k1 % 8))] H6 := by
      intro m3 m30 m31 p r H5 hp g5 h5 rg H6 mu
      have l5 := g5 _ _ l4
      have npl : p ≠ l := (ne_of_none l4 hp).symm
      unfold LgI
      refine ⟨m3, as ++ [(p, r)], _, _, rfl, by omega, m31, fun c u hc => mu.old (g5 _ _ (g4 _ _ (g3 _ _ hc))) (ne_of_none hc hl), mu.old (g5 _ _ (g4 _ _ c3)) ncl, ⟨by rw [mu.at_, List.map_append]; rfl, fun t ht => ?_⟩, by rw [List.length_append, le3]; rfl, fun t ht => ?_⟩
      · rcases List.mem_append.mp ht with ht | ht
        · have x5 := g5 _ _ (g4 _ _ (hl3.2 t ht))
          exact mu.old x5 (fun z => by rw [z, l5] at x5; cases x5)
        · rw [List.mem_singleton.mp ht]
          exact mu.old h5 npl
      · rcases List.mem_append.mp ht with ht | ht
        · exact rg3 t ht
        · rw [List.mem_singleton.mp ht]
          exact rg
    rw [e2]
    clear e2 rg3
    refine ite2 (fun c1 => ?_) fun c1 => ?_
    · clear c1
      walk_at "rz"
      refine ⟨c, _, rfl, by omega, by omega, fun p r H5 hp g5 h5 rg => ?_⟩
      have l5 := g5 _ _ l4
      walk_at "rz"
      exact ⟨by rw [List.length_map]; omega, fun H6 mu => last 999999 m1 (by omega) p r H5 hp g5 h5 rg H6 mu⟩
    · clear c1
      walk_at "rz"
      refine ⟨c, _, rfl, by omega, by omega, fun p r H5 hp g5 h5 rg => ?_⟩
      have l5 := g5 _ _ l4
      walk_at "rz"
      exact ⟨by rw [List.length_map]; omega, fun H6 mu => last m2 m20 m21 p r H5 hp g5 h5 rg H6 mu⟩
  · intro σ H3 z
    unfold LgI at z
    obtain ⟨m, as, v3, v4, rfl, m0, m1, g3, c3, hl3, le3, rg3⟩ := z
    walk_at "rz"
    rw [List.length_map] at le3
    exact q l as H3 hl g3 hl3 rg3 (by omega)
end
end K71

set_option Elab.async false
set_option linter.all false
set_option maxRecDepth 100000
set_option maxHeartbeats 4000000
namespace K71
open PySem L2
theorem cut1 {xs : List V} (h : 1 ≤ xs.length) : cutV xs (some 1) none = xs.drop 1 := by
  unfold cutV
  rw [show HT.sIx xs.length 0 (some 1) = min 1 xs.length from HT.sIx_nat _ _ 1, HT.sIx_none, Nat.min_eq_left h]
  exact List.take_of_length_le (by rw [List.length_drop]; exact Nat.le_refl _)
theorem asc_app {a b : Str} (ha : asc a) (hb : asc b) : asc (a ++ b) := fun c hc => by
  have hc : c ∈ (a.cps ++ b.cps).toList := hc
  rw [Array.toList_append] at hc
  rcases List.mem_append.mp hc with hc | hc
  · exact ha c hc
  · exact hb c hc
theorem asc_sp : asc (Str.ofString " ") := by unfold asc; decide +kernel
theorem asc_nl : asc (Str.ofString "\n") := by unfold asc; decide +kernel
theorem asc_em : asc (Str.ofString "") := by unfold asc; decide +kernel
section
variable {P : Program} {w : World} {K : PySem.W.Frag} {mg : Str → Option Value} {base : Heap}
def spTx : Sp := fun vs H Q _ => ∃ (l : Addr) (as : List (Addr × List Key)), vs = [.ref l] ∧ HG H l as ∧ (∀ q ∈ as, RowF q.2) ∧ as.length ≤ 63 ∧ ∀ tx H', Same H H' → asc tx → tx.length ≤ 10000 → Q (.str tx) H'
def TxI (l : Addr) (H : Hp) (i : Nat) (σ : St) (H' : Hp) : Prop := ∃ tx v2 v3 v4, σ = [some (.ref l), some (.str tx), v2, v3, v4] ∧ asc tx ∧ tx.length ≤ 128 * i ∧ Same H H'
def TyI (l : Addr) (tx : Str) (p : Addr) (H : Hp) (i : Nat) (σ : St) (H' : Hp) : Prop := ∃ ln v4, σ = [some (.ref l), some (.str tx), some (.ref p), some (.str ln), v4] ∧ asc ln ∧ ln.length ≤ 21 * (i + 1) ∧ Same H H'
theorem ok_tx (D : DefAt K mg "_law_text" s__law_text ["log"]) (hstr : mg "str" = none) (hint : mg "int" = none) : OkD P w K mg base 1 "_law_text" ["log"] spTx := by
  refine D.ok sc__law_text (fun vs H Q E h => ?_) (fun f cdv A outer s H vs Q E hr h => ?_)
  · obtain ⟨_, _, rfl, _⟩ := h; rfl
  obtain ⟨l, as, rfl, hl, rg, hn, q⟩ := h
  have big : 100000 ≤ sizeLine := by unfold sizeLine; decide
  have l1 := hl.1
  refine ⟨_, (pss_cons (ps_set (i := 1) sc__law_text.nd rfl (Or.inl rfl) pe_str)
  (pss_cons (ps_for PassesOwn.never rfl (pi_list (pv 0)) (pg_name (i := 2) sc__law_text.nd rfl (Or.inl rfl))
  (pss_cons (ps_set (i := 3) sc__law_text.nd rfl (Or.inl rfl) (pe_cTy call_strG rfl hstr (by decide +kernel) (pa_c (pe_ix ix_g (pv 2) pe_int (fun _ _ => rfl)) pa_nil)))
  (pss_cons (ps_for PassesOwn.never rfl (pi_tup (pe_slice sl_g (pv 2) (po_some pe_int) po_none)) (pg_name (i := 4) sc__law_text.nd rfl (Or.inl rfl))
  (pss_one (ps_set (i := 3) sc__law_text.nd rfl (Or.inl rfl) (pe_op op_add_str (pe_op op_add_str (pv 3) pe_str) (pe_cTy call_strG rfl hstr (by decide +kernel) (pa_c (pv 4) pa_nil))))))
  (pss_one (ps_set (i := 1) sc__law_text.nd rfl (Or.inl rfl) (pe_op op_add_str (pe_op op_add_str (pv 1) (pe_ix ix_g (pe_lstG (pa_c pe_str (pa_c pe_str pa_nil))) (pe_cTy call_intB rfl hint (by decide +kernel) (pa_c (pe_cmpR op_ne (pv 1) pe_str (nomark _)) pa_nil)) (fun _ _ => rfl))) (pv 3)))))))
  (pss_one (ps_ret (pv 1))))), ?_⟩
  walk_at "rz"
  refine tfor_in ?_
  simp only [iList]
  walk_at "rz"
  refine ⟨⟨_, SqL.of l1⟩, for_list (xs := as.map fun q => V.ref q.1) (TxI l H) ?_ ?_ ?_ ?_⟩
  · unfold TxI
    exact ⟨_, _, _, _, rfl, asc_em, Nat.le_refl _, Same.refl _⟩
  · intro i σ H3 hi z
    unfold TxI at z
    obtain ⟨tx, v2, v3, v4, rfl, ta, tl, g3⟩ := z
    exact SqL.of (g3 _ _ hl.1)
  · intro i x' σ H3 hx z
    unfold TxI at z
    obtain ⟨tx, v2, v3, v4, rfl, ta, tl, g3⟩ := z
    rw [List.getElem?_map] at hx
    obtain ⟨a, ha, rfl⟩ := Option.map_eq_some_iff.mp hx
    have am := List.mem_of_getElem? ha
    have hi : i < as.length := (List.getElem?_eq_some_iff.mp ha).1
    have a3 := g3 _ _ (hl.2 a am)
    have ra := rg a am
    have lr := ra.1
    obtain ⟨n0, hv⟩ := ra.2.1
    have fv := ra.2.2 _ (List.mem_of_getElem? hv)
    have e0 : atI (a.2.map kV) 0 = some (.int n0) := atI_nat (j := 0) (by rw [List.getElem?_map, hv]; rfl)
    have fvl : (Str.ofString (toString n0)).length ≤ 20 := fv.1.2.2
    have fva : asc (Str.ofString (toString n0)) := fv.2.2
    have fvn := log_small (fv.2.1 _ rfl)
    clear l1 hx
    walk_at "rz"
    refine tfor_in ?_
    simp only [iTup]
    walk_at "rz"
    refine ⟨fun z => by have := z.1; rw [List.length_map] at this; omega, fun sl H4 hsl g4 h4 => ?_⟩
    rw [cut1 (by rw [List.length_map]; omega)] at h4
    have a4 := g4 _ _ a3
    have ld : ((a.2.map kV).drop 1).length = a.2.length - 1 := by rw [List.length_drop, List.length_map]
    refine ⟨sl, rfl, ⟨_, SqT.of h4⟩, for_tup (xs := (a.2.map kV).drop 1) (TyI l tx a.1 H4) ?_ ?_ ?_ ?_⟩
    · unfold TyI
      exact ⟨_, _, rfl, fva, by omega, Same.refl _⟩
    · intro j σ H5 hj z
      unfold TyI at z
      obtain ⟨ln, v4, rfl, lna, lnl, g5⟩ := z
      exact SqT.of (g5 _ _ h4)
    · intro j y' σ H5 hy z
      unfold TyI at z
      obtain ⟨ln, v4, rfl, lna, lnl, g5⟩ := z
      have jl := (List.getElem?_eq_some_iff.mp hy).1
      rw [ld] at jl
      rw [List.getElem?_drop, List.getElem?_map] at hy
      obtain ⟨v, hv, rfl⟩ := Option.map_eq_some_iff.mp hy
      have fv := ra.2.2 v (List.mem_of_getElem? hv)
      have l32 : (Str.ofString " ").length = 1 := by decide +kernel
      have fin : asc (txtK v) → (txtK v).length ≤ 20 → ∀ H6, Same H5 H6 → TyI l tx a.1 H4 (j + 1) [some (.ref l), some (.str tx), some (.ref a.1), some (.str (ln ++ Str.ofString " " ++ txtK v)), some (kV v)] H6 := fun c1 c2 H6 g6 => by
        unfold TyI
        exact ⟨_, _, rfl, asc_app (asc_app lna asc_sp) c1, by rw [cat_len, cat_len, l32]; omega, g5.trans g6⟩
      clear a3 a4 h4 e0 hy
      walk_at "rz"
      refine ⟨by omega, ?_⟩
      walk_at "rz"
      have l33 : (ln ++ Str.ofString " ").length ≤ 127 := by rw [cat_len, l32]; omega
      cases v with
      | inl n =>
        refine .inl ⟨n, rfl, rfl, log_small (fv.2.1 n rfl), _, rfl, _, rfl, ?_, ?_⟩
        · have tl : (Str.ofString (toString n)).length ≤ 20 := fv.1.2.2
          omega
        · exact fin fv.2.2 fv.1.2.2 H5 (Same.refl _)
      | inr y =>
        refine .inr ⟨y, rfl, rfl, _, rfl, _, rfl, ?_, ?_⟩
        · have tl : y.length ≤ 20 := fv.1.2.2
          omega
        · exact fin fv.2.2 fv.1.2.2 H5 (Same.refl _)
    · intro σ H5 z
      unfold TyI at z
      obtain ⟨ln, v4, rfl, lna, lnl, g5⟩ := z
      rw [ld] at lnl
      have a5 := g5 _ _ a4
      have lnl' : ln.length ≤ 126 := by omega
      clear a3 a4 h4 e0 lnl
      walk_at "rz"
      intro p6 H6 hp6 g6 h6
      walk_at "rz"
      have fin : ∀ y : Str, asc y → y.length ≤ 1 → TxI l H (i + 1) [some (.ref l), some (.str (tx ++ y ++ ln)), some (.ref a.1), some (.str ln), v4] H6 := fun y ya yl => by
        unfold TxI
        exact ⟨_, _, _, _, rfl, asc_app (asc_app ta ya) lna, by rw [cat_len, cat_len]; omega, ((g3.trans g4).trans g5).trans g6⟩
      have pick : ∃ y : Str, atI [V.str (Str.ofString ""), V.str (Str.ofString "\n")] (if (!decide (tx = Str.ofString "")) = true then 1 else 0) = some (.str y) ∧ asc y ∧ y.length ≤ 1 := by
        split
        · exact ⟨_, rfl, asc_nl, by decide +kernel⟩
        · exact ⟨_, rfl, asc_em, by decide +kernel⟩
      obtain ⟨y, ey, ya, yl⟩ := pick
      refine ⟨.str y, ey, ?_⟩
      clear h6 a5 ey
      walk_at "rz"
      refine ⟨by omega, ?_⟩
      walk_at "rz"
      refine ⟨by rw [cat_len]; omega, ?_⟩
      have f := fin y ya yl
      clear fin
      walk_at "rz"
      try exact f
  · intro σ H3 z
    unfold TxI at z
    obtain ⟨tx, v2, v3, v4, rfl, ta, tl, g3⟩ := z
    walk_at "rz"
    rw [List.length_map] at tl
    exact q tx H3 g3 ta (by omega)
end
end K71

set_option Elab.async false
set_option linter.all false
set_option maxRecDepth 100000
set_option maxHeartbeats 4000000
namespace K71
open PySem L2
theorem rpl_strs {K : PySem.W.Frag} {H : Hp} : ∀ ss : List Str, RpL K H (ss.map V.str) (ss.map PyData.str)
  | [] => .nil
  | s :: ss => .cons (.str s) (rpl_strs ss)
theorem rp_strs {K : PySem.W.Frag} {H : Hp} {p : Addr} {ss : List Str} (h : H p = some (.lst (ss.map V.str))) : Rp K H (.ref p) (.list (ss.map PyData.str)) := .lst h (rpl_strs ss)
theorem depth_strs : ∀ ss : List Str, PyData.depthAll (ss.map PyData.str) ≤ 1
  | [] => Nat.zero_le _
  | s :: ss => by
    have := depth_strs ss
    simp only [List.map_cons, PyData.depthAll, PyData.depth]
    omega
theorem shaped_strs {ss : List Str} (h : ss.all PyData.strOk = true) : SeqAt.shaped (.list (ss.map PyData.str)) = true := by
  unfold SeqAt.shaped
  have e : PyData.canLay0 (.list (ss.map PyData.str)) = ss.all PyData.strOk := by
    simp only [PyData.canLay0]
    exact PyProof.Rows.canLayAll_strs' ss
  have d := depth_strs ss
  rw [e, h, Bool.true_and, decide_eq_true_eq]
  simp only [PyData.depth]
  omega
theorem eqv_nil {ss : List Str} : PyData.eqv (.list (ss.map PyData.str)) (.list []) = ss.isEmpty := by
  cases ss <;> simp [PyData.eqv, PyData.eqvAll]
def oddSigns (L x : Str) : List Str := (x.cps.toList.filter fun c => !isL L c).map fun c => ⟨#[c]⟩
theorem odd_nil {L x : Str} : (oddSigns L x).isEmpty = x.cps.toList.all (isL L) := by
  unfold oddSigns
  rw [List.isEmpty_map]
  induction x.cps.toList with
  | nil => rfl
  | cons c l ih => rw [List.filter_cons, List.all_cons]; cases isL L c <;> simp [ih]
theorem odd_ok {L x : Str} (h : PyData.strOk x = true) : (oddSigns L x).all PyData.strOk = true := by
  rw [List.all_eq_true]
  intro s hs
  obtain ⟨c, hc, rfl⟩ := List.mem_map.mp hs
  have hm : c ∈ x.cps.toList := (List.mem_filter.mp hc).1
  unfold PyData.strOk at h ⊢
  rw [← Array.all_toList, List.all_eq_true] at h
  have := h c hm
  simpa using this
theorem strange {L x : Str} {H : Hp} {Q : VK} {σ : St} (hz : x.length < sizeLine) (q : ∀ D H', H D = none → Same H H' → H' D = some (.lst ((oddSigns L x).map V.str)) → Q (.ref D) H') :
    tComp [] (iStr (tVar 0)) (tTest (tOp (fun x y H Q => ∃ i, x = V.str i ∧ ∃ x, y = V.str x ∧ Q (V.bl !!(Builtin.Str.occurrences x i 0 x.length 1).isEmpty) H) (tVar 0) (tC (V.str L)))) (tVar 0) (some (V.str x) :: σ) H Q := by
  refine tcomp_str x (fun c => !isL L c) (fun c => .str ⟨#[c]⟩) (fun R hR => ⟨_, rfl, hR⟩) hz (fun c hc H Q h => ?_) (fun c hc _ H Q h => ⟨_, rfl, h⟩) fun D H' hD hS e => q D H' hD hS ?_
  · exact ⟨_, rfl, _, rfl, _, rfl, _, rfl, h⟩
  · rw [e]; unfold oddSigns; rw [List.map_map]; rfl
theorem asc_ok {x : Str} (h : asc x) : PyData.strOk x = true := by
  unfold PyData.strOk
  rw [← Array.all_toList, List.all_eq_true]
  intro c hc
  have := h c hc
  exact decide_eq_true (by omega)
section
variable {P : Program} {w : World} {K : PySem.W.Frag} {mg : Str → Option Value} {base : Heap}
def spNumL : Sp := fun vs H Q _ => ∃ (x : Str) (b : Bool), vs = [.str x, .bl b] ∧ x.length ≤ 1000000 ∧ asc x ∧ ∀ H', Same H H' → Q (oV (partV (nK b) x)) H'
theorem figs_asc {x : Str} {b : Bool} (h : asc x) : asc (figs0 x b) := by
  unfold figs0
  split
  · next z =>
    rw [show Str.ofString "-" = ⟨#[45]⟩ by decide +kernel, startsw, decide_eq_true_eq] at z
    cases hc : x.cps.toList with
    | nil => rw [hc] at z; cases z.2
    | cons c r =>
      rw [slice1 hc]
      intro d hd
      exact h d (by rw [hc]; exact List.mem_cons_of_mem _ hd)
  · exact h
theorem ok_number (D : DefAt K mg "_law_number" s__law_number ["word", "below"]) (hlen : mg "len" = none) (hint : mg "int" = none) : OkD P w K mg base 1 "_law_number" ["word", "below"] spNumL := by
  refine D.ok sc__law_number (fun vs H Q E h => ?_) (fun f cdv A outer s H vs Q E hr h => ?_)
  · obtain ⟨_, _, rfl, _⟩ := h; rfl
  obtain ⟨x, b, rfl, hx, ha, q⟩ := h
  have hu64 := hr.units
  have big : 3000000 ≤ sizeLine := by unfold sizeLine; decide
  refine ⟨_, (pss_cons (ps_set (i := 2) sc__law_number.nd rfl (Or.inl rfl) (pv 0))
  (pss_cons (ps_up (ps_if (PW.pt (pw_and (pt_val (pv 1)) (pw_and1 (pt_cmpR op_eq (pe_slice sl_str (pv 0) po_none (po_some pe_int)) pe_str (nomark _)))))
  (pss_one (ps_set (i := 2) sc__law_number.nd rfl (Or.inl rfl) (pe_slice sl_str (pv 0) (po_some pe_int) po_none)))
  pss_nil))
  (pss_cons (ps_if (PW.pt (pw_or (pt_not (pt_chain op_le op_le pe_int (pe_cB call_len_str rfl hlen PySem.boot_len (pa_c (pv 2) pa_nil)) pe_int)) (pw_or1 (pt_cmpR (op_neD hu64) (pe_comp (comp_scope0 rfl rfl rfl) rfl (pi_str (pv 2)) rfl rfl (fun _ _ _ _ => (pts_one (pt_cmpR op_notIn_str (pv 0) pe_str (by with_unfolding_all rfl)))) (fun _ _ _ _ => (pv 0))) (pe_lstG pa_nil) (nomark _)))))
  (pss_one (ps_ret pe_non))
  pss_nil)
  (pss_cons (ps_if (PW.pt (pw_and (pt_cmpR op_eq (pe_ix ix_str (pv 2) pe_int (fun _ _ => rfl)) pe_str (nomark _)) (pw_and1 (pt_cmpR op_ne (pv 0) pe_str (nomark _)))))
  (pss_one (ps_ret pe_non))
  pss_nil)
  (pss_one (ps_ret (pe_cTy call_int_str rfl hint (by decide +kernel) (pa_c (pv 0) pa_nil)))))))), ?_⟩
  walk_at "rz"
  refine ⟨fun σ H' => σ = [some (.str x), some (.bl b), some (.str (figs0 x b))] ∧ H' = H, ?_, ?_⟩
  · cases b with
    | false =>
      walk_at "rz"
      unfold figs0
      simp
    | true =>
      walk_at "rz"
      refine ⟨by omega, ?_⟩
      walk_at "rz"
      refine ite2 (fun c => ?_) fun c => ?_
      · have e : figs0 x true = PySem.Txt.slice x (some 1) none := by unfold figs0; rw [if_pos ⟨rfl, dash.mp c⟩]
        rw [e]
        clear c e
        walk_at "rz"
        refine ⟨by omega, ?_⟩
        walk_at "rz"
      · have e : figs0 x true = x := by unfold figs0; rw [if_neg (fun z => c (dash.mpr z.2))]
        rw [e]
        clear c e
        walk_at "rz"
  · rintro σ H1 ⟨rfl, rfl⟩
    have fa := figs_asc (b := b) ha
    have fn0 := part_nK0 (x := x) (b := b)
    have fn1 := part_nK (x := x) (b := b)
    unfold figOk at fn0 fn1
    have fl : (figs0 x b).length ≤ x.length := by
      unfold figs0
      split
      · exact PySem.Txt.slice_le x (some 1) none
      · exact Nat.le_refl _
    generalize figs0 x b = f at fa fn0 fn1 fl ⊢
    have no : partV (nK b) x = none → ∀ H', Same H1 H' → Q .non H' := fun z H' g => by have := q H' g; rw [z] at this; exact this
    by_cases c1 : (1 : Int) ≤ f.length
    · by_cases c2 : (f.length : Int) ≤ 7
      · have e1 : decide (1 ≤ f.length) = true := decide_eq_true (by omega)
        have e2 : decide (f.length ≤ 7) = true := decide_eq_true (by omega)
        rw [e1, e2] at fn0 fn1
        clear e1 e2
        walk_at "rz"
        refine ⟨by omega, ?_⟩
        walk_at "rz"
        refine tcomp_str f (fun c => !isL "0123456789" c) (fun c => .str ⟨#[c]⟩) (fun R hR => ⟨_, rfl, hR⟩) (by omega) (fun c hc H Q h => ⟨_, rfl, _, rfl, _, rfl, _, rfl, h⟩) (fun c hc _ H Q h => ⟨_, rfl, h⟩) fun D2 H2 hD2 g2 h2 p3 H3 hp3 g3 h3 => ?_
        have h2' : H2 D2 = some (.lst ((oddSigns "0123456789" f).map V.str)) := by rw [h2]; unfold oddSigns; rw [List.map_map]; rfl
        refine ⟨_, _, rp_strs (g3 _ _ h2'), rp_strs (ss := []) h3, shaped_strs (odd_ok (asc_ok fa)), shaped_strs (ss := []) rfl, _, rfl, ?_⟩
        rw [show ([] : List Str).map PyData.str = [] from rfl, eqv_nil, odd_nil]
        clear h2 h2' h3
        have g23 := g2.trans g3
        cases hA : f.cps.toList.all (isL "0123456789") with
        | false =>
          rw [hA] at fn0
          have n1 := no (fn0 (by simp)) H3 g23
          clear fn0 fn1 no q
          walk_at "rz"
        | true =>
          rw [hA] at fn0 fn1
          obtain ⟨c0, r0, hc⟩ : ∃ c0 r0, f.cps.toList = c0 :: r0 := by
            cases hc : f.cps.toList with
            | nil =>
              have := len_cps f
              rw [hc] at this
              have this : 0 = f.length := this
              omega
            | cons c r => exact ⟨c, r, rfl⟩
          have ea : atI f.cps.toList 0 = some c0 := atI_nat (j := 0) (by rw [hc]; rfl)
          have sw : PySem.Txt.startswith f "0" = decide ((⟨#[c0]⟩ : Str) = Str.ofString "0") := by
            rw [show Str.ofString "0" = ⟨#[48]⟩ by decide +kernel, startsw, hc]
            by_cases z : c0 = 48
            · rw [z]; rfl
            · rw [decide_eq_false (fun y => z (by injection y)), decide_eq_false (fun y => z (by injection y with y; injection y with y; injection y))]
          rw [sw] at fn0 fn1
          have int_ : (decide ((⟨#[c0]⟩ : Str) = Str.ofString "0") && !decide (x = Str.ofString "0")) = false → ∃ n, PySem.intText? x = some n ∧ x.length ≤ 640 ∧ Q (.int n) H3 := fun z => by
            obtain ⟨n, h1, h2, h3, h4⟩ := fn1 (by rw [z]; rfl)
            have := q H3 g23
            rw [h4] at this
            have ln := (num_fine h1).1.2.2
            rw [show txtK (.inl n) = x from h2.symm] at ln
            exact ⟨n, h3, by omega, this⟩
          have none_ : (decide ((⟨#[c0]⟩ : Str) = Str.ofString "0") && !decide (x = Str.ofString "0")) = true → Q .non H3 := fun z => no (fn0 (by rw [z]; rfl)) H3 g23
          clear fn0 fn1 no q sw hc hA
          walk_at "rz"
          refine ⟨by omega, c0, ea, ?_⟩
          clear ea
          by_cases z : (⟨#[c0]⟩ : Str) = Str.ofString "0"
          · rw [decide_eq_true z, Bool.true_and] at int_ none_
            by_cases y : x = Str.ofString "0"
            · have i1 := int_ (by rw [decide_eq_true y]; rfl)
              obtain ⟨n, n1, n2, n3⟩ := i1
              rw [y] at n1 n2
              clear int_ none_
              walk_at "rz"
              try exact ⟨n, n1, n2, n3⟩
            · have i1 := none_ (by rw [decide_eq_false y]; rfl)
              clear int_ none_
              walk_at "rz"
          · have i1 := int_ (by rw [decide_eq_false z]; rfl)
            obtain ⟨n, n1, n2, n3⟩ := i1
            clear int_ none_
            walk_at "rz"
            try exact ⟨n, n1, n2, n3⟩
      · have e2 : decide (f.length ≤ 7) = false := decide_eq_false (by omega)
        rw [e2] at fn0
        have n1 := no (fn0 (by simp)) H1 (Same.refl _)
        clear fn0 fn1 e2 no q
        walk_at "rz"
        refine ⟨by omega, ?_⟩
        walk_at "rz"
    · have e2 : decide (1 ≤ f.length) = false := decide_eq_false (by omega)
      rw [e2] at fn0
      have n1 := no (fn0 (by simp)) H1 (Same.refl _)
      clear fn0 fn1 e2 no q
      walk_at "rz"
      refine ⟨by omega, ?_⟩
      walk_at "rz"
def spIN : Sp := fun vs H Q _ => ∃ x : Str, vs = [.str x] ∧ x.length ≤ 1000000 ∧ asc x ∧ ∀ H', Same H H' → Q (.bl (nameOk x)) H'
theorem ok_isname (D : DefAt K mg "_law_is_name" s__law_is_name ["word"]) (hlen : mg "len" = none) : OkD P w K mg base 1 "_law_is_name" ["word"] spIN := by
  refine D.ok sc__law_is_name (fun vs H Q E h => ?_) (fun f cdv A outer s H vs Q E hr h => ?_)
  · obtain ⟨_, rfl, _⟩ := h; rfl
  obtain ⟨x, rfl, hx, ha, q⟩ := h
  have hu64 := hr.units
  have big : 3000000 ≤ sizeLine := by unfold sizeLine; decide
  refine ⟨_, (pss_cons (ps_set (i := 1) sc__law_is_name.nd rfl (Or.inl rfl) (pe_lstG (pa_c pe_str (pa_c pe_str (pa_c pe_str (pa_c pe_str (pa_c pe_str (pa_c pe_str (pa_c pe_str (pa_c pe_str (pa_c pe_str (pa_c pe_str (pa_c pe_str (pa_c pe_str (pa_c pe_str (pa_c pe_str pa_nil))))))))))))))))
  (pss_cons (ps_set (i := 1) sc__law_is_name.nd rfl (Or.inl rfl) (pe_op op_catG (pv 1) (pe_lstG (pa_c pe_str (pa_c pe_str (pa_c pe_str (pa_c pe_str (pa_c pe_str (pa_c pe_str pa_nil)))))))))
  (pss_cons (ps_setC (i := 2) sc__law_is_name.nd rfl (Or.inl rfl) (comp_scope0 rfl rfl rfl) rfl (pi_str (pv 0)) rfl rfl (fun _ _ _ _ => (pts_one (pt_cmpR op_notIn_str (pv 0) pe_str (by with_unfolding_all rfl)))) (fun _ _ _ _ => (pv 0)))
  (pss_one (ps_ret (pe_and (pe_cmpR (op_eqD hu64) (pv 2) (pe_lstG pa_nil) (nomark _)) (pe_and (pe_chain op_le op_le pe_int (pe_cB call_len_str rfl hlen PySem.boot_len (pa_c (pv 0) pa_nil)) pe_int) (pe_one (pe_cmpR op_notInG (pv 0) (pv 1) (by with_unfolding_all rfl)))))))))), ?_⟩
  walk_at "rz"
  refine ⟨by omega, fun p1 H1 hp1 g1 h1 => ?_⟩
  walk_at "rz"
  intro p2 H2 hp2 g2 h2
  have h12 := g2 _ _ h1
  clear h1
  walk_at "rz"
  refine ⟨by omega, fun p3 H3 hp3 g3 h3 => ?_⟩
  have e3 : H3 p3 = some (.lst noN) := h3
  clear h12 h2 h3
  walk_at "rz"
  refine tcomp_str x (fun c => !isL "abcdefghijklmnopqrstuvwxyz" c) (fun c => .str ⟨#[c]⟩) (fun R hR => ⟨_, rfl, hR⟩) (by omega) (fun c hc H Q h => ⟨_, rfl, _, rfl, _, rfl, _, rfl, h⟩) (fun c hc _ H Q h => ⟨_, rfl, h⟩) fun D4 H4 hD4 g4 h4 => ?_
  have h4' : H4 D4 = some (.lst ((oddSigns "abcdefghijklmnopqrstuvwxyz" x).map V.str)) := by rw [h4]; unfold oddSigns; rw [List.map_map]; rfl
  have k4 := g4 _ _ e3
  clear h4 e3
  intro p5 H5 hp5 g5 h5
  have g25 := (((g1.trans g2).trans g3).trans g4).trans g5
  refine ⟨_, _, rp_strs (g5 _ _ h4'), rp_strs (ss := []) h5, shaped_strs (odd_ok (asc_ok ha)), shaped_strs (ss := []) rfl, ?_⟩
  rw [show ([] : List Str).map PyData.str = [] from rfl, eqv_nil, odd_nil]
  have k5 := g5 _ _ k4
  have q5 := q H5 g25
  clear h4' h5 k4 q
  unfold nameOk at q5
  cases hA : x.cps.toList.all (isL "abcdefghijklmnopqrstuvwxyz") with
  | false =>
    rw [hA, Bool.and_false] at q5
    walk_at "rz"
  | true =>
    rw [hA, Bool.and_true] at q5
    by_cases c1 : (1 : Int) ≤ x.length
    · rw [decide_eq_true (show 1 ≤ x.length by omega), Bool.true_and] at q5
      by_cases c2 : (x.length : Int) ≤ 8
      · rw [decide_eq_true (show x.length ≤ 8 by omega), Bool.true_and] at q5
        walk_at "rz"
        refine ⟨by omega, ?_⟩
        walk_at "rz"
        first | done | exact ⟨_, .inr k5, by decide +kernel, q5⟩ | exact ⟨by decide +kernel, q5⟩
      · rw [decide_eq_false (show ¬ x.length ≤ 8 by omega), Bool.false_and] at q5
        walk_at "rz"
        refine ⟨by omega, ?_⟩
        walk_at "rz"
    · rw [decide_eq_false (show ¬ 1 ≤ x.length by omega), Bool.false_and, Bool.false_and] at q5
      walk_at "rz"
      refine ⟨by omega, ?_⟩
      walk_at "rz"
def spLP : Sp := fun vs H Q _ => ∃ (c : Nat) (x : Str), vs = [.str ⟨#[c]⟩, .str x] ∧ x.length ≤ 1000000 ∧ asc x ∧ ∀ H', Same H H' → Q (oV (partV (kdL c) x)) H'
theorem sgn1 {c d : Nat} {y : Str} (h : y = ⟨#[d]⟩) : ((⟨#[c]⟩ : Str) = y) ↔ c = d := by
  rw [h]
  exact ⟨fun z => by injection z with z; injection z with z; injection z, fun z => by rw [z]⟩
theorem ok_lpart (D : DefAt K mg "_law_part" s__law_part ["kind", "word"]) (G__law_number : OkD P w K mg base 1 "_law_number" ["word", "below"] spNumL) (G__law_is_name : OkD P w K mg base 1 "_law_is_name" ["word"] spIN) (hint : mg "int" = none) : OkD P w K mg base 2 "_law_part" ["kind", "word"] spLP := by
  refine D.ok sc__law_part (fun vs H Q E h => ?_) (fun f cdv A outer s H vs Q E hr h => ?_)
  · obtain ⟨_, _, rfl, _⟩ := h; rfl
  obtain ⟨c, x, rfl, hx, ha, q⟩ := h
  have sn : ((⟨#[c]⟩ : Str) = Str.ofString "n") ↔ c = 110 := sgn1 (by decide +kernel)
  have sw : ((⟨#[c]⟩ : Str) = Str.ofString "w") ↔ c = 119 := sgn1 (by decide +kernel)
  have sd : ((⟨#[c]⟩ : Str) = Str.ofString "d") ↔ c = 100 := sgn1 (by decide +kernel)
  unfold kdL at q
  refine ⟨_, (pss_cons (ps_if (pt_cmpR op_eq (pv 0) pe_str (nomark _))
  (pss_one (ps_ret (pe_def G__law_number hr rfl (pa_c (pv 1) (pa_c pe_bl pa_nil)))))
  pss_nil)
  (pss_cons (ps_if (pt_cmpR op_eq (pv 0) pe_str (nomark _))
  (pss_one (ps_ret (pe_def G__law_number hr rfl (pa_c (pv 1) (pa_c pe_bl pa_nil)))))
  pss_nil)
  (pss_cons (ps_if (pt_cmpR op_eq (pv 0) pe_str (nomark _))
  (pss_one (ps_ret (pe_ix ix_g (pe_lstG (pa_c pe_non (pa_c (pv 1) pa_nil))) (pe_cTy call_intB rfl hint (by decide +kernel) (pa_c (pe_cmpR op_inG (pv 1) (pe_lstG (pa_c pe_str (pa_c pe_str (pa_c pe_str pa_nil)))) (by with_unfolding_all rfl)) pa_nil)) (fun _ _ => rfl))))
  pss_nil)
  (pss_one (ps_ret (pe_ix ix_g (pe_lstG (pa_c pe_non (pa_c (pv 1) pa_nil))) (pe_cTy call_intB rfl hint (by decide +kernel) (pa_c (pe_def G__law_is_name hr rfl (pa_c (pv 1) pa_nil)) pa_nil)) (fun _ _ => rfl))))))), ?_⟩
  by_cases c1 : c = 110
  · have k1 := sn.mpr c1
    rw [if_pos c1] at q
    clear sn sw sd c1
    walk_at "rz"
    exact ⟨x, false, rfl, hx, ha, q⟩
  rw [if_neg c1] at q
  have k1 : ¬ (⟨#[c]⟩ : Str) = Str.ofString "n" := fun z => c1 (sn.mp z)
  by_cases c2 : c = 119
  · have k2 := sw.mpr c2
    rw [if_pos c2] at q
    clear sn sw sd c1 c2
    walk_at "rz"
    exact ⟨x, true, rfl, hx, ha, q⟩
  rw [if_neg c2] at q
  have k2 : ¬ (⟨#[c]⟩ : Str) = Str.ofString "w" := fun z => c2 (sw.mp z)
  by_cases c3 : c = 100
  · have k3 := sd.mpr c3
    rw [if_pos c3] at q
    unfold partV at q
    rw [fit_asked, show isTx "asked" = true by decide +kernel, if_pos rfl] at q
    clear sn sw sd c1 c2 c3
    walk_at "rz"
    intro p1 H1 hp1 g1 h1
    walk_at "rz"
    intro p2 H2 hp2 g2 h2
    have h12 := g2 _ _ h1
    have q2 := q H2 (g1.trans g2)
    clear h1 q
    walk_at "rz"
    have sy : ∀ a b : Str, decide (a = b) = decide (b = a) := fun a b => by by_cases z : a = b <;> simp [z, eq_comm]
    rw [sy "take" x, sy "put" x, sy "get" x, ← Bool.or_assoc]
    cases hb : (decide (x = Str.ofString "take") || decide (x = Str.ofString "put") || decide (x = Str.ofString "get")) with
    | false => rw [hb] at q2; exact ⟨.non, rfl, q2⟩
    | true => rw [hb] at q2; exact ⟨.str x, rfl, q2⟩
  rw [if_neg c3] at q
  have k3 : ¬ (⟨#[c]⟩ : Str) = Str.ofString "d" := fun z => c3 (sd.mp z)
  unfold partV at q
  rw [fit_name, show isTx "name" = true by decide +kernel, if_pos rfl] at q
  clear sn sw sd c1 c2 c3
  walk_at "rz"
  intro p1 H1 hp1 g1 h1
  walk_at "rz"
  refine ⟨x, rfl, hx, ha, fun H2 g2 => ?_⟩
  have h12 := g2 _ _ h1
  have q2 := q H2 (g1.trans g2)
  clear h1 q
  walk_at "rz"
  cases hb : nameOk x with
  | false => rw [hb] at q2; exact ⟨.non, rfl, q2⟩
  | true => rw [hb] at q2; exact ⟨.str x, rfl, q2⟩
end
end K71

set_option Elab.async false
set_option linter.all false
set_option maxRecDepth 100000
set_option maxHeartbeats 4000000
namespace K71
open PySem L2
theorem val_K (x : Str) : ∀ l : List (Str × Str), valV (l.map fun p => ((.inr p.1 : Key), V.str p.2)) (.inr x) = (l.lookup x).map V.str
  | [] => rfl
  | p :: l => by
    rw [List.map_cons, List.lookup_cons]
    by_cases z : x = p.1
    · rw [show (x == p.1) = true from by simpa using z, valV_pos (by rw [z])]
      rfl
    · rw [show (x == p.1) = false from by simpa using z, valV_neg (fun e => z (Sum.inr.inj e).symm)]
      exact val_K x l
def kF (n : Nat) : List (Key × V) := (formsK.take n).map fun p => ((.inr p.1 : Key), V.str p.2)
theorem kF_0 : mergeK [] [(Sum.inr (Str.ofString "begins"), V.str (Str.ofString "a")), (Sum.inr (Str.ofString "waits"), V.str (Str.ofString "n")), (Sum.inr (Str.ofString "queues"), V.str (Str.ofString "dan")), (Sum.inr (Str.ofString "takes"), V.str (Str.ofString "an")), (Sum.inr (Str.ofString "puts"), V.str (Str.ofString "an")), (Sum.inr (Str.ofString "gets"), V.str (Str.ofString "an")), (Sum.inr (Str.ofString "gives"), V.str (Str.ofString "an"))] = kF 7 := by decide +kernel
theorem kF_1 : putK (kF 7) (Sum.inr (Str.ofString "says")) (V.str (Str.ofString "aw")) = kF 8 := by decide +kernel
theorem kF_2 : putK (kF 8) (Sum.inr (Str.ofString "ends")) (V.str (Str.ofString "")) = kF 9 := by decide +kernel
theorem kF_3 : putK (kF 9) (Sum.inr (Str.ofString "brings")) (V.str (Str.ofString "an")) = kF 10 := by decide +kernel
theorem kF_len (n : Nat) : (kF n).length < sizeLine := by
  unfold kF sizeLine
  rw [List.length_map, List.length_take]
  have : formsK.length = 10 := rfl
  omega
theorem kF_val (x : Str) : valV (kF 10) (.inr x) = (formsK.lookup x).map V.str := val_K x formsK
theorem forms_asc : ∀ p ∈ formsK, p.2.cps.all (· < 128) = true ∧ p.2.length ≤ 3 := by decide +kernel
theorem look_mem : ∀ {l : List (Str × Str)} {x y : Str}, l.lookup x = some y → (x, y) ∈ l
  | [], _, _, h => by cases h
  | p :: l, x, y, h => by
    rw [List.lookup_cons] at h
    by_cases z : x = p.1
    · rw [show (x == p.1) = true from by simpa using z] at h
      cases h
      rw [z]
      exact List.mem_cons_self
    · rw [show (x == p.1) = false from by simpa using z] at h
      exact List.mem_cons_of_mem _ (look_mem h)
theorem cut3 {xs : List V} (h : 3 ≤ xs.length) : cutV xs (some 3) none = xs.drop 3 := by
  unfold cutV
  rw [show HT.sIx xs.length 0 (some 3) = min 3 xs.length from HT.sIx_nat _ _ 3, HT.sIx_none, Nat.min_eq_left h]
  exact List.take_of_length_le (by rw [List.length_drop]; exact Nat.le_refl _)
theorem num_inl {w : Str} {v : Key} (h : partV "number" w = some v) : ∃ n : Int, v = .inl n := by
  unfold partV at h
  rw [show isTx "number" = false by decide +kernel] at h
  split at h
  · injection h with h
    exact ⟨_, h.symm⟩
  · cases h
section
variable {P : Program} {w : World} {K : PySem.W.Frag} {mg : Str → Option Value} {base : Heap}
def spRI : Sp := fun vs H Q _ => ∃ (a : Addr) (W : List Str), vs = [.ref a] ∧ H a = some (.lst (W.map V.str)) ∧ (∀ x ∈ W, Wd x ∧ x.length ≤ 1000000) ∧ W.length ≤ 1000001 ∧ (rowV W = none → ∀ H', Same H H' → Q .non H') ∧ (∀ r, rowV W = some r → ∀ p H', H p = none → Same H H' → H' p = some (.tup (r.map kV)) → Q (.ref p) H')
theorem ok_rowin (D : DefAt K mg "_law_row_in" s__law_row_in ["words"]) (G__law_number : OkD P w K mg base 1 "_law_number" ["word", "below"] spNumL) (G__law_part : OkD P w K mg base 2 "_law_part" ["kind", "word"] spLP) (hlen : mg "len" = none) (hzip : mg "zip" = none) (htuple : mg "tuple" = none) : OkD P w K mg base 3 "_law_row_in" ["words"] spRI := by
  refine D.ok sc__law_row_in (fun vs H Q E h => ?_) (fun f cdv A outer s H vs Q E hr h => ?_)
  · obtain ⟨_, _, rfl, _⟩ := h; rfl
  obtain ⟨a, W, rfl, ha, hw, hl, qn, q⟩ := h
  have hu := hu_of hr
  have big : 3000000 ≤ sizeLine := by unfold sizeLine; decide
  have lm : (W.map V.str).length = W.length := List.length_map ..
  refine ⟨_, (pss_cons (ps_set (i := 1) sc__law_row_in.nd rfl (Or.inl rfl) (pe_dispG (pps_cons pe_str pe_str (pps_cons pe_str pe_str (pps_cons pe_str pe_str (pps_cons pe_str pe_str (pps_cons pe_str pe_str (pps_cons pe_str pe_str (pps_cons pe_str pe_str pps_nil))))))) rfl rfl (by simp) (by decide)))
  (pss_cons (ps_dputG2 hu (pv 1) pe_str pe_str)
  (pss_cons (ps_dputG2 hu (pv 1) pe_str pe_str)
  (pss_cons (ps_dputG2 hu (pv 1) pe_str pe_str)
  (pss_cons (ps_if (PW.pt (pw_or (pt_cmpR op_lt (pe_cB call_len_seq rfl hlen PySem.boot_len (pa_c (pv 0) pa_nil)) pe_int (nomark _)) (pw_or (pt_cmp (pc_dnotinG hu (pe_ix ix_g (pv 0) pe_int (fun _ _ => rfl)) (pv 1)) (by with_unfolding_all rfl)) (pw_or1 (pt_cmpR op_ne (pe_cB call_len_seq rfl hlen PySem.boot_len (pa_c (pv 0) pa_nil)) (pe_op op_add pe_int (pe_cB call_len_str rfl hlen PySem.boot_len (pa_c (pe_dgetG hu (pv 1) (pe_ix ix_g (pv 0) pe_int (fun _ _ => rfl)) (fun _ _ => rfl)) pa_nil))) (nomark _))))))
  (pss_one (ps_ret pe_non))
  pss_nil)
  (pss_cons (ps_set (i := 2) sc__law_row_in.nd rfl (Or.inl rfl) (pe_lstG (pa_c (pe_def G__law_number hr rfl (pa_c (pe_ix ix_g (pv 0) pe_int (fun _ _ => rfl)) (pa_c pe_bl pa_nil))) (pa_c (pe_def G__law_number hr rfl (pa_c (pe_ix ix_g (pv 0) pe_int (fun _ _ => rfl)) (pa_c pe_bl pa_nil))) (pa_c (pe_ix ix_g (pv 0) pe_int (fun _ _ => rfl)) pa_nil)))))
  (pss_cons (ps_set (i := 2) sc__law_row_in.nd rfl (Or.inl rfl) (pe_op op_catG (pv 2) (pe_compN (comp_scopeN 2 (N := ["kind", "word"]) (cap := []) rfl rfl rfl rfl (by decide +kernel) rfl rfl rfl) rfl (pi_zipS rfl hzip (pa_c (pe_dgetG hu (pv 1) (pe_ix ix_g (pv 0) pe_int (fun _ _ => rfl)) (fun _ _ => rfl)) (pa_c (pe_slice sl_g (pv 0) (po_some pe_int) po_none) pa_nil))) (fun _ _ _ _ => (pg_tupG 2 rfl (pgs_cons (pg_name (i := 0) (show List.Nodup (α := Str) ["kind", "word"] by decide +kernel) rfl (Or.inl (lookup_relabel_local rfl)) (Or.inr (lookup_relabel_local rfl))) (pgs_cons (pg_name (i := 1) (show List.Nodup (α := Str) ["kind", "word"] by decide +kernel) rfl (Or.inl (lookup_relabel_local rfl)) (Or.inr (lookup_relabel_local rfl))) pgs_nil)))) (fun _ _ _ _ => pts_nil) (fun _ _ _ _ => (pe_def G__law_part hr rfl (pa_c (pv 0) (pa_c (pv 1) pa_nil)))))))
  (pss_cons (ps_if (PW.pt (pw_or (pt_cmpR op_inG pe_non (pv 2) (by with_unfolding_all rfl)) (pw_or (pt_cmpR op_gt (pe_ix ix_g (pv 2) pe_int (fun _ _ => rfl)) pe_int (nomark _)) (pw_or1 (pt_cmpR op_ne (pe_cmpR op_eq (pe_ix ix_g (pv 2) pe_int (fun _ _ => rfl)) pe_int (nomark _)) (pe_cmpR op_eq (pe_ix ix_g (pv 0) pe_int (fun _ _ => rfl)) pe_str (nomark _)) (nomark _))))))
  (pss_one (ps_ret pe_non))
  pss_nil)
  (pss_one (ps_ret (pe_cTy call_tupL rfl htuple (by decide +kernel) (pa_c (pv 2) pa_nil)))))))))))), ?_⟩
  walk_at "rz"
  intro dk H1 hdk g1 h1
  walk_at "rz"
  intro H2 m2
  rw [kF_0] at m2
  have d2 := m2.at_
  clear h1
  walk_at "rz"
  refine ⟨kF_len 7, fun H3 m3 => ?_⟩
  rw [kF_1] at m3
  have d3 := m3.at_
  clear d2
  walk_at "rz"
  refine ⟨kF_len 8, fun H4 m4 => ?_⟩
  rw [kF_2] at m4
  have d4 := m4.at_
  clear d3
  walk_at "rz"
  refine ⟨kF_len 9, fun H5 m5 => ?_⟩
  rw [kF_3] at m5
  have d5 := m5.at_
  clear d4
  have nad : a ≠ dk := ne_of_none ha hdk
  have g5 : Same H H5 := fun c u hc => by
    have n : c ≠ dk := ne_of_none hc hdk
    exact m5.old (m4.old (m3.old (m2.old (g1 _ _ hc) n) n) n) n
  have a5 := g5 _ _ ha
  clear m2 m3 m4 m5
  walk_at "rz"
  refine ⟨_, .inl (SqL.of a5), ?_⟩
  walk_at "rz"
  refine ite2 (fun c1 => ?_) fun c1 => ?_
  · have e1 := qn (by
      unfold rowV
      rw [List.getElem?_eq_none (by omega)]) H5 g5
    clear q qn
    walk_at "rz"
  have w3 : 2 < W.length := by omega
  obtain ⟨x, hx⟩ : ∃ x, W[2]? = some x := ⟨_, List.getElem?_eq_getElem w3⟩
  have ew : atI (W.map V.str) 2 = some (.str x) := atI_nat (j := 2) (by rw [List.getElem?_map, hx]; rfl)
  have fK := forms_K x
  have vK := kF_val x
  cases hlk : formsK.lookup x with
  | none =>
    rw [hlk] at fK vK
    have e1 := qn (by
      unfold rowV
      rw [hx]
      simp only
      rw [fK]
      rfl) H5 g5
    replace vK : valV (kF 10) (.inr x) = none := vK
    clear q qn fK hlk hx
    walk_at "rz"
    rw [if_pos (by simp)]
    walk_at "rz"
  | some ks =>
  rw [hlk] at fK vK
  replace fK : formsL.lookup x = some (ks.cps.toList.map kdL) := fK
  replace vK : valV (kF 10) (.inr x) = some (.str ks) := vK
  have kA := forms_asc _ (look_mem hlk)
  have k1 : ks.cps.all (· < 128) = true := kA.1
  have k2 : ks.length ≤ 3 := kA.2
  clear kA hlk
  walk_at "rz"
  rw [if_neg (by simp)]
  walk_at "rz"
  refine ⟨_, .inl (SqL.of a5), ?_⟩
  walk_at "rz"
  refine ⟨by omega, ?_⟩
  walk_at "rz"
  have lks : (ks.cps.toList.map kdL).length = ks.length := by rw [List.length_map, len_cps]
  by_cases el : ¬ ((W.length : Nat) : Int) = 3 + (ks.length : Nat)
  · have e1 := qn (by
      unfold rowV
      rw [hx]
      simp only
      rw [fK]
      simp only
      rw [if_neg (by omega)]) H5 g5
    rw [decide_eq_false el, if_pos (by decide)]
    clear q qn fK hx el
    walk_at "rz"
  have el := Decidable.not_not.mp el
  rw [decide_eq_true el, if_neg (by decide)]
  obtain ⟨w0, hw0⟩ : ∃ x, W[0]? = some x := ⟨_, List.getElem?_eq_getElem (by omega)⟩
  obtain ⟨w1, hw1⟩ : ∃ x, W[1]? = some x := ⟨_, List.getElem?_eq_getElem (by omega)⟩
  have rl := row_law hx fK (by omega) hw0 hw1
  have ew0 : atI (W.map V.str) 0 = some (.str w0) := atI_nat (j := 0) (by rw [List.getElem?_map, hw0]; rfl)
  have ew1 : atI (W.map V.str) 1 = some (.str w1) := atI_nat (j := 1) (by rw [List.getElem?_map, hw1]; rfl)
  have f0 := hw w0 (List.mem_of_getElem? hw0)
  have f1 := hw w1 (List.mem_of_getElem? hw1)
  rw [rl] at q qn
  clear rl hw0 hw1 hx fK el c1
  walk_at "rz"
  refine ⟨w0, false, rfl, f0.2, f0.1.1, fun H6 g6 => ?_⟩
  have a6 := g6 _ _ a5
  have d6 := g6 _ _ d5
  clear a5 d5
  walk_at "rz"
  refine ⟨w1, false, rfl, f1.2, f1.1.1, fun H7 g7 => ?_⟩
  have a7 := g7 _ _ a6
  have d7 := g7 _ _ d6
  clear a6 d6
  walk_at "rz"
  intro pt H8 hpt g8 h8
  have a8 := g8 _ _ a7
  have d8 := g8 _ _ d7
  clear a7 d7
  walk_at "rz"
  refine tcomp_in ?_
  simp only [iZipS]
  walk_at "rz"
  intro wd H9 hwd g9 h9
  rw [cut3 (by omega), ← List.map_drop] at h9
  have p9 := g9 _ _ h8
  have a9 := g9 _ _ a8
  have ld : (W.drop 3).length = ks.length := by rw [List.length_drop]; omega
  have lz : (List.zipWith partV (ks.cps.toList.map kdL) (W.drop 3)).length = ks.length := by rw [List.length_zipWith, lks]; omega
  have g59 : Same H H9 := g5.trans (g6.trans (g7.trans (g8.trans g9)))
  clear a8 d8 h8
  refine ⟨_, _, rfl, k1, ⟨_, SqL.of h9⟩, compJ_zipS (ys := (W.drop 3).map V.str) h9 (by rw [List.length_map, ld]; rfl) (by rw [List.length_map]; omega) (fun _ i zs σ1 _ => σ1.length = 2 ∧ zs = ((List.zipWith partV (ks.cps.toList.map kdL) (W.drop 3)).take i).map oV) (fun D H' _ _ _ => ⟨rfl, rfl⟩) ?_ ?_⟩
  · rintro C' i c y' zs σ1 H' p H'' hk hy at1 ⟨s2, rfl⟩ hp g3 h3'
    rw [List.getElem?_map] at hy
    obtain ⟨v, hv, rfl⟩ := Option.map_eq_some_iff.mp hy
    have fv := hw v (List.mem_of_mem_drop (List.mem_of_getElem? hv))
    have ez : (List.zipWith partV (ks.cps.toList.map kdL) (W.drop 3))[i]? = some (partV (kdL c) v) := by
      rw [List.getElem?_zipWith, List.getElem?_map, Array.getElem?_toList, hk, hv]
      rfl
    obtain ⟨v0, v1', rfl⟩ : ∃ v0 v1', σ1 = [v0, v1'] := by
      match σ1, s2 with
      | [v0, v1'], _ => exact ⟨v0, v1', rfl⟩
    clear h9 p9 a9 hy
    walk_at "rz"
    refine ⟨c, v, rfl, fv.2, fv.1.1, fun H4 g4 => ?_⟩
    refine at1.put (g3.trans g4) fun H5 mu => ⟨rfl, ?_⟩
    obtain ⟨ez1, ez2⟩ := List.getElem?_eq_some_iff.mp ez
    rw [← List.take_append_getElem ez1, List.map_append, ez2]
    rfl
  · rintro C' zs σ1 H' hC g3 hy hle ⟨_, rfl⟩
    rw [List.length_map, ld, ← lz, List.take_of_length_le (Nat.le_refl _)] at hy
    generalize List.zipWith partV (ks.cps.toList.map kdL) (W.drop 3) = Z at hy q qn lz
    have p10 := g3 _ _ p9
    have a10 := g3 _ _ a9
    refine ⟨C', rfl, _, _, p10, hy, by rw [List.length_map]; simp only [List.length_cons, List.length_nil]; omega, fun pp Ha hpp ga hpa => ?_⟩
    have eL : [oV (partV (nK false) w0), oV (partV (nK false) w1), V.str x] ++ Z.map oV = ([partV "number" w0, partV "number" w1, some (.inr x)] ++ Z).map oV := by rw [List.map_append]; rfl
    rw [eL] at hpa
    generalize hL : [partV "number" w0, partV "number" w1, some (.inr x)] ++ Z = L at hpa
    have fL := flat_oV L
    have iL := in_oV L
    have nL : L.any Option.isNone = (partV "number" w0 :: partV "number" w1 :: Z).any Option.isNone := by
      rw [← hL]
      simp only [List.cons_append, List.nil_append, List.any_cons, Option.isNone_some, Bool.false_or]
    rw [← nL] at q qn
    have a11 := ga _ _ a10
    have gA : Same H Ha := g59.trans (g3.trans ga)
    clear p9 a9 p10 a10 hy h9 nL eL
    cases hn : L.any Option.isNone with
    | true =>
      rw [hn, if_pos rfl] at qn
      have e1 := qn rfl Ha gA
      rw [hn] at iL
      clear q qn hL hn
      walk_at "rz"
    | false =>
      rw [hn, if_neg (by decide)] at q qn
      rw [hn] at iL
      have no0 : ∀ o ∈ L, o ≠ none := fun o ho z => by
        have : L.any Option.isNone = true := List.any_eq_true.mpr ⟨o, ho, by rw [z]; rfl⟩
        rw [hn] at this; cases this
      cases e0 : partV "number" w0 with
      | none => exact absurd e0 (no0 _ (by rw [← hL]; exact List.mem_cons_self))
      | some u0 =>
      cases e1 : partV "number" w1 with
      | none => exact absurd e1 (no0 _ (by rw [← hL]; exact List.mem_cons_of_mem _ List.mem_cons_self))
      | some u1 =>
      obtain ⟨n0, rfl⟩ := num_inl e0
      obtain ⟨n1, rfl⟩ := num_inl e1
      rw [e0, e1] at q qn hL
      simp only at q qn
      obtain ⟨us, hus⟩ : ∃ us : List Key, Z = us.map some := by
        have : ∀ Z : List (Option Key), (∀ o ∈ Z, o ≠ none) → ∃ us : List Key, Z = us.map some := by
          intro Z
          induction Z with
          | nil => intro _; exact ⟨[], rfl⟩
          | cons o Z ih =>
            intro h
            obtain ⟨us, rfl⟩ := ih fun o ho => h o (List.mem_cons_of_mem _ ho)
            cases o with
            | none => exact absurd rfl (h _ List.mem_cons_self)
            | some u => exact ⟨u :: us, rfl⟩
        exact this Z fun o ho => no0 o (by rw [← hL]; exact List.mem_append_right _ ho)
      rw [hus, allV_some] at q
      have eA : L.map oV = (Sum.inl n0 :: Sum.inl n1 :: Sum.inr x :: us).map kV := by
        rw [← hL, hus]
        simp only [List.cons_append, List.nil_append, List.map_cons, List.map_map]
        rfl
      have l0 : atI (L.map oV) 0 = some (.int n0) := atI_nat (j := 0) (by rw [eA]; rfl)
      have l1 : atI (L.map oV) 1 = some (.int n1) := atI_nat (j := 1) (by rw [eA]; rfl)
      clear hL hn no0 e0 e1 hus
      generalize L.map oV = M at hpa fL iL eA l0 l1
      by_cases c2 : n0 > 999999 ∨ decide (n1 = 0) ≠ decide (x = Str.ofString "brings")
      · rw [if_pos c2] at qn
        have e1 := qn rfl Ha gA
        clear q qn eA
        by_cases c3 : 999999 < n0
        · clear c2
          walk_at "rz"
        · have c4 : decide (n1 = 0) ≠ decide (x = Str.ofString "brings") := c2.resolve_left c3
          clear c2
          have c5 : (!decide (decide (n1 = 0) = decide (x = Str.ofString "brings"))) = true := by rw [decide_eq_false c4]; rfl
          clear c4
          walk_at "rz"
          try exact e1
      · rw [if_neg c2] at q
        have c3 : ¬ 999999 < n0 := fun z => c2 (.inl z)
        have c4 : decide (n1 = 0) = decide (x = Str.ofString "brings") := Decidable.not_not.mp fun z => c2 (.inr z)
        have finQ : ∀ p H'', Ha p = none → Same Ha H'' → H'' p = some (.tup M) → Q (.ref p) H'' := fun p H'' hp g h => by
          rw [eA] at h
          exact q _ rfl p H'' (gA.free hp) (gA.trans g) h
        have c5 : (!decide (decide (n1 = 0) = decide (x = Str.ofString "brings"))) = false := by rw [decide_eq_true c4]; rfl
        clear q qn eA c2 c4
        walk_at "rz"
        first | done | exact ⟨_, hpa, finQ⟩ | exact ⟨pp, _, rfl, hpa, finQ⟩
end
end K71

set_option Elab.async false
set_option linter.all false
set_option maxRecDepth 100000
set_option maxHeartbeats 4000000
namespace K71
open PySem L2
def kD : Key → PyData
  | .inl i => .int i
  | .inr x => .str x
def rD (r : List Key) : PyData := .tuple (r.map kD)
theorem rp_row {K : PySem.W.Frag} {H : Hp} : ∀ r : List Key, RpL K H (r.map kV) (r.map kD)
  | [] => .nil
  | .inl i :: r => .cons (.int i) (rp_row r)
  | .inr x :: r => .cons (.str x) (rp_row r)
theorem rp_rows {K : PySem.W.Frag} {H : Hp} : ∀ {as : List (Addr × List Key)}, (∀ q ∈ as, H q.1 = some (.tup (q.2.map kV))) → RpL K H (as.map fun q => V.ref q.1) (as.map fun q => rD q.2)
  | [], _ => .nil
  | q :: as, h => .cons (.tup (h q List.mem_cons_self) (rp_row q.2)) (rp_rows fun r hr => h r (List.mem_cons_of_mem _ hr))
theorem HG.rp {K : PySem.W.Frag} {H : Hp} {l : Addr} {as : List (Addr × List Key)} {rs : List (List Key)} (h : HG H l as) (e : as.map (·.2) = rs) : Rp K H (.ref l) (.list (rs.map rD)) := by
  have := Rp.lst (K := K) h.1 (rp_rows h.2)
  rw [show (as.map fun q => rD q.2) = rs.map rD by rw [← e, List.map_map]; rfl] at this
  exact this
theorem sh_of {ds : List PyData} (h : PyData.canLayAll0 ds = true) (h2 : PyData.depthAll ds ≤ 5) : SeqAt.shaped (.list ds) = true := by
  unfold SeqAt.shaped
  have e1 : PyData.canLay0 (.list ds) = true := by simp only [PyData.canLay0]; exact h
  rw [e1, Bool.true_and, decide_eq_true_eq]
  simp only [PyData.depth]
  omega
theorem can_row : ∀ r : List Key, (∀ v ∈ r, Fine v) → PyData.canLayAll0 (r.map kD) = true ∧ PyData.depthAll (r.map kD) ≤ 1
  | [], _ => ⟨rfl, by simp [PyData.depthAll]⟩
  | .inl i :: r, h => by
    have := can_row r fun x hx => h x (List.mem_cons_of_mem _ hx)
    simp only [List.map_cons, kD, PyData.canLayAll0, PyData.canLay0, PyData.depthAll, PyData.depth]
    exact ⟨this.1, by omega⟩
  | .inr x :: r, h => by
    have t := can_row r fun x hx => h x (List.mem_cons_of_mem _ hx)
    have hx := asc_ok (h _ List.mem_cons_self).2.2
    simp only [List.map_cons, kD, PyData.canLayAll0, PyData.canLay0, PyData.depthAll, PyData.depth]
    rw [t.1, Bool.and_true]
    exact ⟨hx, by omega⟩
theorem sh_rows {rs : List (List Key)} (h : ∀ r ∈ rs, RowS r) : SeqAt.shaped (.list (rs.map rD)) = true := by
  have key : PyData.canLayAll0 (rs.map rD) = true ∧ PyData.depthAll (rs.map rD) ≤ 4 := by
    induction rs with
    | nil => exact ⟨rfl, by simp [PyData.depthAll]⟩
    | cons r rs ih =>
      have i := ih fun r hr => h r (List.mem_cons_of_mem _ hr)
      have c := can_row r (h r List.mem_cons_self).2.2
      simp only [List.map_cons, rD, PyData.canLayAll0, PyData.canLay0, PyData.depthAll, PyData.depth] at i ⊢
      rw [c.1, Bool.true_and]
      exact ⟨i.1, by omega⟩
  exact sh_of key.1 (by omega)
theorem eqv_sh {d : PyData} (h : SeqAt.shaped d = true) : PyData.eqv d d = true := by
  unfold SeqAt.shaped at h
  rw [Bool.and_eq_true] at h
  exact PySem.SeqAt.eqv_refl d h.1
section
variable {P : Program} {w : World} {K : PySem.W.Frag} {mg : Str → Option Value} {base : Heap}
def spDue : Sp := fun vs H Q _ => ∃ t : Str, vs = [.str t] ∧ t.length ≤ 1000000 ∧ asc t ∧ (∀ rs, logV t = some rs → ∀ l as H', H l = none → Same H H' → HG H' l as → as.map (·.2) = rs → Q (.ref l) H') ∧ (logV t = none → ∀ H', Same H H' → Q .non H')
theorem ok_due (D : DefAt K mg "_law_due" s__law_due ["text"]) (G__law_row_in : OkD P w K mg base 3 "_law_row_in" ["words"] spRI) : OkD P w K mg base 4 "_law_due" ["text"] spDue := by
  refine D.ok sc__law_due (fun vs H Q E h => ?_) (fun f cdv A outer s H vs Q E hr h => ?_)
  · obtain ⟨r, rfl, _⟩ := h; rfl
  obtain ⟨t, rfl, tl, ta, q, e⟩ := h
  have big : 3000000 ≤ sizeLine := by unfold sizeLine; decide
  have hu64 := hr.units
  refine ⟨_, (pss_cons (ps_set (i := 1) sc__law_due.nd rfl (Or.inl rfl) (pe_lstG pa_nil))
  (pss_cons (ps_if (pt_cmpR op_eq (pv 0) pe_str (nomark _))
  (pss_one (ps_ret (pv 1)))
  pss_nil)
  (pss_cons (ps_for PassesOwn.never rfl (pi_list (pe_bm PySem.F.plainAttrs_str PySem.F.slot_str_split PySem.F.type_str_split mt_split (pv 0) (pa_c pe_str pa_nil))) (pg_name (i := 2) sc__law_due.nd rfl (Or.inl rfl))
  (pss_cons (ps_set (i := 3) sc__law_due.nd rfl (Or.inl rfl) (pe_def G__law_row_in hr rfl (pa_c (pe_bm PySem.F.plainAttrs_str PySem.F.slot_str_split PySem.F.type_str_split mt_split (pv 2) (pa_c pe_str pa_nil)) pa_nil)))
  (pss_cons (ps_if (PW.pt (pw_or (pt_cmpR op_isN (pv 3) pe_non (nomark _)) (pw_or1 (PW.pt (pw_and (pt_cmpR (op_neD hu64) (pv 1) (pe_lstG pa_nil) (nomark _)) (pw_and1 (pt_cmpR op_gt (pe_ix ix_g (pe_ix ix_g (pv 1) (pe_un un_neg pe_int) (fun _ _ => rfl)) pe_int (fun _ _ => rfl)) (pe_ix ix_g (pv 3) pe_int (fun _ _ => rfl)) (nomark _))))))))
  (pss_one (ps_ret pe_non))
  pss_nil)
  (pss_one (ps_expr (pe_appG (pv 1) (pv 3)))))))
  (pss_one (ps_ret (pv 1)))))), ?_⟩
  walk_at "rz"
  intro l H1 hl g1 h1
  walk_at "rz"
  by_cases ne : t = Str.ofString ""
  · rw [if_pos ne]
    walk_at "rz"
    exact q [] (by unfold logV; rw [if_pos ne]) l [] H1 hl g1 ⟨h1, fun q hq => absurd hq List.not_mem_nil⟩ rfl
  rw [if_neg ne]
  have sl := split_len t 10
  have sm := fun x (hx : x ∈ PySem.Txt.split t ⟨#[10]⟩) => (split_mem hx).1
  have sw := ta.rows
  have lv : logV t = logGo [] (PySem.Txt.split t ⟨#[10]⟩) := by unfold logV; rw [if_neg ne]
  walk_at "rz"
  refine tfor_in ?_
  simp only [iList]
  walk_at "rz"
  rw [nl10]
  refine ⟨_, _, rfl, rfl, by decide, by omega, by omega, fun ws H2 hws g2 h2 => ?_⟩
  generalize PySem.Txt.split t ⟨#[10]⟩ = rows at sl sm sw lv h2 ⊢
  have l2 := g2 _ _ h1
  have lm : (rows.map V.str).length = rows.length := List.length_map ..
  have nwl : ws ≠ l := fun z => by rw [z, h1] at hws; cases hws
  refine ⟨ws, rfl, ⟨_, SqL.of h2⟩, for_list (xs := rows.map V.str) (RlI t rows l ws H) ?_ ?_ ?_ ?_⟩
  · unfold RlI
    exact ⟨_, _, [], rfl, g1.trans g2, h2, ⟨l2, fun q hq => absurd hq List.not_mem_nil⟩, fun q hq => absurd hq List.not_mem_nil, rfl, lv⟩
  · intro i σ H3 hi z
    unfold RlI at z
    obtain ⟨v2, v3, as, rfl, g3, w3, hl3, rs3, la, e3⟩ := z
    exact SqL.of w3
  · intro i x' σ H3 hx z
    unfold RlI at z
    obtain ⟨v2, v3, as, rfl, g3, w3, hl3, rs3, la, e3⟩ := z
    rw [List.getElem?_map] at hx
    obtain ⟨x, hxi, rfl⟩ := Option.map_eq_some_iff.mp hx
    obtain ⟨hi, xe⟩ := List.getElem?_eq_some_iff.mp hxi
    have xm := List.mem_of_getElem? hxi
    clear hx hxi
    have xl := sm x xm
    rw [List.drop_eq_getElem_cons hi, xe] at e3
    have l3 := hl3.1
    have sl32 := split_len x 32
    have sm32 := fun y (hy : y ∈ PySem.Txt.split x ⟨#[32]⟩) => (split_mem hy).1
    clear h1 h2 l2 lv xe
    walk_at "rz"
    rw [sp32]
    refine ⟨_, _, rfl, rfl, by decide, by omega, by omega, fun wp H4 hwp g4 h4 => ?_⟩
    have l4 := g4 _ _ l3
    have w4 := g4 _ _ w3
    refine ⟨wp, _, rfl, h4, fun y hy => ⟨(sw x xm).words y hy, by have := sm32 y hy; omega⟩, by omega, fun hn H5 g5 => ?_, fun r hr' p H5 hp g5 h5 => ?_⟩
    · have e1 := e (by rw [e3, go_none hn]) H5 (g3.trans (g4.trans g5))
      clear l3 w3 l4 w4 h4
      walk_at "rz"
    obtain ⟨rS, rt⟩ := row_fine hr' (sw x xm).words
    have l5 := g5 _ _ l4
    have w5 := g5 _ _ w4
    have g35 := g4.trans g5
    have fin : late (as.map (·.2)) r = false → ∀ H6 H7, Same H5 H6 → Mu H6 l (.lst (as.map (fun q => V.ref q.1) ++ [.ref p])) H7 → RlI t rows l ws H (i + 1) [some (.str t), some (.ref l), some (.str x), some (.ref p)] H7 := fun hlt H6 H7 g6 m7 => by
      have npl : p ≠ l := (ne_of_none (g4 _ _ hl3.1) hp).symm
      have l6 := g6 _ _ l5
      unfold RlI
      refine ⟨_, _, as ++ [(p, r)], rfl, fun c u hc => m7.old (g6 _ _ (g35 _ _ (g3 _ _ hc))) (ne_of_none hc hl), m7.old (g6 _ _ w5) nwl, ⟨by rw [m7.at_, List.map_append]; rfl, fun t ht => ?_⟩, fun t ht => ?_, by rw [List.length_append, la]; rfl, ?_⟩
      · rcases List.mem_append.mp ht with ht | ht
        · have x4 := g6 _ _ (g35 _ _ (hl3.2 t ht))
          exact m7.old x4 (fun z => by rw [z, l6] at x4; cases x4)
        · rw [List.mem_singleton.mp ht]
          exact m7.old (g6 _ _ h5) npl
      · rcases List.mem_append.mp ht with ht | ht
        · exact rs3 t ht
        · rw [List.mem_singleton.mp ht]
          exact rS
      · rw [e3, go_on hr' hlt, List.map_append]
        rfl
    have bad : late (as.map (·.2)) r = true → ∀ H6, Same H5 H6 → Q .non H6 := fun hlt H6 g6 => e (by rw [e3, go_late hr' hlt]) H6 (g3.trans (g35.trans g6))
    have hg5 := hl3.same g35
    have shr := sh_rows (rs := as.map (·.2)) fun r hr => by obtain ⟨t, ht, rfl⟩ := List.mem_map.mp hr; exact rs3 t ht
    clear l3 w3 l4 w4 h4 e q e3 hr' rt
    walk_at "rz"
    intro p6 H6 hp6 g6 h6
    have l6 := g6 _ _ l5
    have k6 := g6 _ _ h5
    refine ⟨_, _, (hg5.same g6).rp rfl, .lst h6 .nil, shr, rfl, ?_⟩
    clear h6
    by_cases ez : as = []
    · have e0 : PyData.eqv (.list ((as.map (·.2)).map rD)) (.list []) = true := by rw [ez]; rfl
      have lt : late (as.map (·.2)) r = false := by rw [ez]; rfl
      rw [e0]
      have fin' := fin lt H6
      clear e0 ez bad fin l5 h5
      walk_at "rz"
      exact ⟨by rw [List.length_map]; omega, fun H7 m7 => fin' H7 g6 m7⟩
    · have e0 : PyData.eqv (.list ((as.map (·.2)).map rD)) (.list []) = false := by cases as with | nil => exact absurd rfl ez | cons a b => simp [PyData.eqv, PyData.eqvAll]
      rw [e0]
      clear e0
      have i0 : 0 < i := by rw [← la]; exact List.length_pos_iff.mpr ez
      obtain ⟨u, hu⟩ : ∃ u, as[i - 1]? = some u := ⟨_, List.getElem?_eq_getElem (by omega)⟩
      have um := List.mem_of_getElem? hu
      have lt := late_snoc la hu r
      have a1 : atI (as.map fun q => V.ref q.1) (-1) = some (.ref u.1) := by
        obtain ⟨b1, b2⟩ := List.getElem?_eq_some_iff.mp hu
        have : as = as.take (i - 1) ++ [u] := by
          rw [← b2, List.take_append_getElem b1, List.take_of_length_le (by omega)]
        rw [this, List.map_append]
        exact atI_last _ _
      have a2 : atI (u.2.map kV) 0 = some (.int (mo u.2)) := atI_nat (j := 0) (by rw [List.getElem?_map, (rs3 u um).2.1]; rfl)
      have a3 : atI (r.map kV) 0 = some (.int (mo r)) := atI_nat (j := 0) (by rw [List.getElem?_map, rS.2.1]; rfl)
      have t6 := g6 _ _ (hg5.2 u um)
      by_cases c : mo r < mo u.2
      · rw [decide_eq_true c] at lt
        have e1 := bad lt H6 g6
        clear fin bad l5 h5
        walk_at "rz"
      · rw [decide_eq_false c] at lt
        have fin' := fin lt H6
        clear bad fin l5 h5
        walk_at "rz"
        exact ⟨by rw [List.length_map]; omega, fun H7 m7 => fin' H7 g6 m7⟩
  · intro σ H3 z
    unfold RlI at z
    obtain ⟨v2, v3, as, rfl, g3, w3, hl3, rs3, la, e3⟩ := z
    walk_at "rz"
    rw [lm, List.drop_of_length_le (Nat.le_refl _)] at e3
    exact q _ e3 l as H3 hl g3 hl3 rfl
end
end K71

set_option Elab.async false
set_option linter.all false
set_option maxRecDepth 100000
set_option maxHeartbeats 4000000
namespace K71
open PySem L2
theorem room_take (a : List Str) (n : Nat) : room (a.take n) ≤ room a := by have := room_cut a n; omega
theorem room_drop (a : List Str) (n : Nat) : room (a.drop n) ≤ room a := by have := room_cut a n; omega
theorem cutS (W : List Str) (lo hi : Option Int) : ∃ W', cutV (W.map V.str) lo hi = W'.map V.str ∧ (∀ x ∈ W', x ∈ W) ∧ room W' ≤ room W := by
  refine ⟨(W.drop (HT.sIx W.length 0 lo)).take (HT.sIx W.length W.length hi - HT.sIx W.length 0 lo), ?_, fun x hx => List.mem_of_mem_drop (List.mem_of_mem_take hx), Nat.le_trans (room_take _ _) (room_drop _ _)⟩
  unfold cutV
  rw [List.map_take, List.map_drop, List.length_map]
theorem join_le (c : Nat) (ys : List Str) : (Str.join ⟨#[c]⟩ ys).length ≤ room ys := by
  cases ys with
  | nil => exact Nat.le_refl _
  | cons y ys => have := join_room c (ys := y :: ys) (by simp); omega
theorem mapA (a b : List Str) : a.map V.str ++ b.map V.str = (a ++ b).map V.str := by rw [List.map_append]
def someL : List Str := ["", "0", "00", "01", "-1", "-0", "+1", "999999", "1000000", "9999999", "10000000", "a", "A", "waits", "take", "ends", "brings", "says", "queues", "put", "now", "tool", "abcdefghi", "1.0", "1_0", "begins"]
theorem some_fine : ∀ x ∈ someL, (∀ c ∈ x.cps.toList, c < 128) ∧ x.length ≤ 20 := by decide +kernel
theorem slice_in {t : Str} {lo hi : Option Int} {c : Nat} (h : c ∈ (PySem.Txt.slice t lo hi).cps.toList) : c ∈ t.cps.toList := by
  unfold PySem.Txt.slice at h
  split at h
  · exact h
  · simp only [List.toList_toArray] at h
    obtain ⟨i, _, hi⟩ := List.mem_filterMap.mp h
    rw [Array.getElem?_eq_some_iff] at hi
    obtain ⟨hlt, rfl⟩ := hi
    exact Array.mem_toList_iff.mpr (Array.getElem_mem hlt)
theorem cutH {H : Hp} {p : Addr} {W : List Str} {lo hi : Option Int} (h : H p = some (.lst (cutV (W.map V.str) lo hi))) : ∃ W', H p = some (.lst (W'.map V.str)) ∧ (∀ x ∈ W', x ∈ W) ∧ room W' ≤ room W := by
  obtain ⟨W', e, a, b⟩ := cutS W lo hi
  exact ⟨W', by rw [h, e], a, b⟩
theorem all_app {Pr : Str → Prop} {a b : List Str} (ha : ∀ x ∈ a, Pr x) (hb : ∀ x ∈ b, Pr x) : ∀ x ∈ a ++ b, Pr x := fun x hx => (List.mem_append.mp hx).elim (ha x) (hb x)
theorem all_one {Pr : Str → Prop} {a : Str} (ha : Pr a) : ∀ x ∈ [a], Pr x := fun x hx => by rw [List.mem_singleton.mp hx]; exact ha
theorem room_one (a : Str) : room [a] = a.length + 1 := rfl
section
variable {P : Program} {w : World} {K : PySem.W.Frag} {mg : Str → Option Value} {base : Heap}
def spSW : Sp := fun vs H Q _ => ∃ (a : Addr) (W : List Str) (c k : Int), vs = [.ref a, .int c, .int k] ∧ 0 ≤ k ∧ k ≤ 900 ∧ H a = some (.lst (W.map V.str)) ∧ W ≠ [] ∧ (∀ x ∈ W, asc x) ∧ room W ≤ 500000 ∧ ∀ p W' H', H p = none → Same H H' → H' p = some (.lst (W'.map V.str)) → (∀ x ∈ W', asc x) → room W' ≤ 6 * room W + 40 → Q (.ref p) H'
theorem ok_sw (D : DefAt K mg "_law_spoilt_word" s__law_spoilt_word ["words", "cell", "k"]) (G__law_stir : OkD P w K mg base 1 "_law_stir" ["cell", "k"] spStir) (hlen : mg "len" = none) : OkD P w K mg base 2 "_law_spoilt_word" ["words", "cell", "k"] spSW := by
  refine D.ok sc__law_spoilt_word (fun vs H Q E h => ?_) (fun f cdv A outer s H vs Q E hr h => ?_)
  · obtain ⟨_, _, _, _, rfl, _⟩ := h; rfl
  obtain ⟨a, W, c, k, rfl, k0, k1, ha, ne, wa, wr, q⟩ := h
  have big : 3000000 ≤ sizeLine := by unfold sizeLine; decide
  have wl := room_len W
  have wp : 0 < W.length := List.length_pos_iff.mpr ne
  refine ⟨_, (pss_cons (ps_set (i := 3) sc__law_spoilt_word.nd rfl (Or.inl rfl) (pe_op op_mod (pe_def G__law_stir hr rfl (pa_c (pv 1) (pa_c (pe_op op_add (pv 2) pe_int) pa_nil))) (pe_cB call_len_seq rfl hlen PySem.boot_len (pa_c (pv 0) pa_nil))))
  (pss_cons (ps_set (i := 4) sc__law_spoilt_word.nd rfl (Or.inl rfl) (pe_def G__law_stir hr rfl (pa_c (pv 1) (pa_c (pe_op op_add (pv 2) pe_int) pa_nil))))
  (pss_cons (ps_set (i := 5) sc__law_spoilt_word.nd rfl (Or.inl rfl) (pe_lstG (pa_c pe_str (pa_c pe_str (pa_c pe_str (pa_c pe_str (pa_c pe_str (pa_c pe_str (pa_c pe_str (pa_c pe_str (pa_c pe_str (pa_c pe_str (pa_c pe_str (pa_c pe_str (pa_c pe_str (pa_c pe_str pa_nil))))))))))))))))
  (pss_cons (ps_set (i := 5) sc__law_spoilt_word.nd rfl (Or.inl rfl) (pe_op op_catG (pv 5) (pe_lstG (pa_c pe_str pa_nil))))
  (pss_cons (ps_set (i := 5) sc__law_spoilt_word.nd rfl (Or.inl rfl) (pe_op op_catG (pv 5) (pe_lstG (pa_c pe_str (pa_c pe_str (pa_c pe_str (pa_c pe_str (pa_c pe_str (pa_c pe_str (pa_c pe_str (pa_c pe_str (pa_c pe_str (pa_c pe_str (pa_c pe_str pa_nil))))))))))))))
  (pss_cons (ps_set (i := 6) sc__law_spoilt_word.nd rfl (Or.inl rfl) (pe_op op_mod (pe_def G__law_stir hr rfl (pa_c (pv 1) (pa_c (pe_op op_add (pv 2) pe_int) pa_nil))) pe_int))
  (pss_cons (ps_if (pt_cmpR op_eq (pv 6) pe_int (nomark _))
  (pss_one (ps_ret (pe_op op_catG (pe_slice sl_g (pv 0) po_none (po_some (pv 3))) (pe_slice sl_g (pv 0) (po_some (pe_op op_add (pv 3) pe_int)) po_none))))
  pss_nil)
  (pss_cons (ps_if (pt_cmpR op_eq (pv 6) pe_int (nomark _))
  (pss_one (ps_ret (pe_op op_catG (pe_op op_catG (pe_slice sl_g (pv 0) po_none (po_some (pv 3))) (pe_slice sl_g (pv 0) (po_some (pv 3)) (po_some (pe_op op_add (pv 3) pe_int)))) (pe_slice sl_g (pv 0) (po_some (pv 3)) po_none))))
  pss_nil)
  (pss_one (ps_ret (pe_op op_catG (pe_op op_catG (pe_slice sl_g (pv 0) po_none (po_some (pv 3))) (pe_lstG (pa_c (pe_ix ix_g (pv 5) (pe_op op_mod (pv 4) (pe_cB call_len_seq rfl hlen PySem.boot_len (pa_c (pv 5) pa_nil))) (fun _ _ => rfl)) pa_nil))) (pe_slice sl_g (pv 0) (po_some (pe_op op_add (pv 3) pe_int)) po_none)))))))))))), ?_⟩
  walk_at "rz"
  refine ⟨_, _, rfl, by omega, by omega, fun n1 n10 n11 => ?_⟩
  walk_at "rz"
  refine ⟨_, .inl (SqL.of ha), ?_⟩
  walk_at "rz"
  refine ⟨by rw [List.length_map]; omega, ?_⟩
  rw [List.length_map]
  have q0 : 0 ≤ n1 % (W.length : Int) := Int.emod_nonneg _ (by omega)
  have q1 : n1 % (W.length : Int) < W.length := Int.emod_lt_of_pos _ (by omega)
  walk_at "rz"
  refine ⟨_, _, rfl, by omega, by omega, fun n2 n20 n21 => ?_⟩
  walk_at "rz"
  refine ⟨by omega, fun p3 H3 hp3 g3 h3 => ?_⟩
  walk_at "rz"
  intro p4 H4 hp4 g4 h4
  have h34 := g4 _ _ h3
  clear h3
  walk_at "rz"
  refine ⟨by omega, fun p5 H5 hp5 g5 h5 => ?_⟩
  clear h34 h4
  walk_at "rz"
  refine ⟨by omega, fun p6 H6 hp6 g6 h6 => ?_⟩
  have h56 := g6 _ _ h5
  clear h5
  walk_at "rz"
  refine ⟨by omega, fun p7 H7 hp7 g7 h7 => ?_⟩
  have s7 : H7 p7 = some (.lst (someL.map V.str)) := h7
  have gH : Same H H7 := g3.trans (g4.trans (g5.trans (g6.trans g7)))
  have a7 := gH _ _ ha
  clear h56 h6 h7 ha
  walk_at "rz"
  refine ⟨_, _, rfl, by omega, by omega, fun n3 n30 n31 => ?_⟩
  walk_at "rz"
  refine ite2 (fun c1 => ?_) fun c1 => ?_
  · clear c1
    walk_at "rz"
    intro p8 H8 hp8 g8 h8
    obtain ⟨A, hA, mA, rA⟩ := cutH h8
    have a8 := g8 _ _ a7
    clear h8 a7 s7
    walk_at "rz"
    intro p9 H9 hp9 g9 h9
    obtain ⟨B, hB, mB, rB⟩ := cutH h9
    have A9 := g9 _ _ hA
    have lA := room_len A
    have lB := room_len B
    clear h9 hA a8
    walk_at "rz"
    refine ⟨by rw [List.length_map, List.length_map]; omega, fun p10 H10 hp10 g10 h10 => ?_⟩
    rw [mapA] at h10
    have gg := gH.trans (g8.trans g9)
    exact q p10 _ H10 (gg.free hp10) (gg.trans g10) h10 (all_app (fun x hx => wa x (mA x hx)) fun x hx => wa x (mB x hx)) (by rw [room_app]; omega)
  walk_at "rz"
  refine ite2 (fun c2 => ?_) fun c2 => ?_
  · clear c1 c2
    walk_at "rz"
    intro p8 H8 hp8 g8 h8
    obtain ⟨A, hA, mA, rA⟩ := cutH h8
    have a8 := g8 _ _ a7
    clear h8 a7 s7
    walk_at "rz"
    intro p9 H9 hp9 g9 h9
    obtain ⟨B, hB, mB, rB⟩ := cutH h9
    have A9 := g9 _ _ hA
    have a9 := g9 _ _ a8
    have lA := room_len A
    have lB := room_len B
    clear h9 hA a8
    walk_at "rz"
    refine ⟨by rw [List.length_map, List.length_map]; omega, fun p10 H10 hp10 g10 h10 => ?_⟩
    rw [mapA] at h10
    have a10 := g10 _ _ a9
    clear A9 hB a9
    walk_at "rz"
    intro p11 H11 hp11 g11 h11
    obtain ⟨C, hC, mC, rC⟩ := cutH h11
    have k11 := g11 _ _ h10
    have lC := room_len C
    clear h10 h11 a10
    walk_at "rz"
    refine ⟨by rw [List.length_map, List.length_map, List.length_append]; omega, fun p12 H12 hp12 g12 h12 => ?_⟩
    rw [mapA] at h12
    have gg := gH.trans (g8.trans (g9.trans (g10.trans g11)))
    exact q p12 _ H12 (gg.free hp12) (gg.trans g12) h12 (all_app (all_app (fun x hx => wa x (mA x hx)) fun x hx => wa x (mB x hx)) fun x hx => wa x (mC x hx)) (by rw [room_app, room_app]; omega)
  · clear c1 c2
    walk_at "rz"
    intro p8 H8 hp8 g8 h8
    obtain ⟨A, hA, mA, rA⟩ := cutH h8
    have a8 := g8 _ _ a7
    have s8 := g8 _ _ s7
    clear h8 a7 s7
    walk_at "rz"
    have l26 : (someL.map V.str).length = 26 := by rw [List.length_map]; rfl
    refine ⟨_, .inl (SqL.of s8), ?_⟩
    rw [l26]
    walk_at "rz"
    refine ⟨by omega, ?_⟩
    walk_at "rz"
    rw [show ((26 : Nat) : Int) = 26 from rfl]
    obtain ⟨y, hy, hym, _⟩ := atI_in (xs := someL) (i := n2 % 26) (by omega) (by show n2 % 26 < 26; omega)
    have ey : atI (someL.map V.str) (n2 % 26) = some (.str y) := by
      obtain ⟨y', hy', _, gy⟩ := atI_in (xs := someL.map V.str) (i := n2 % 26) (by omega) (by rw [l26]; show n2 % 26 < 26; omega)
      obtain ⟨y2, hy2, _, gy2⟩ := atI_in (xs := someL) (i := n2 % 26) (by omega) (by show n2 % 26 < 26; omega)
      rw [hy] at hy2
      cases hy2
      rw [List.getElem?_map, gy2] at gy
      cases gy
      exact hy'
    have fy := some_fine y hym
    refine ⟨_, ey, ?_⟩
    clear s8 hy ey l26
    walk_at "rz"
    intro p9 H9 hp9 g9 h9
    have A9 := g9 _ _ hA
    have a9 := g9 _ _ a8
    have lA := room_len A
    have h9' : H9 p9 = some (.lst ([y].map V.str)) := h9
    clear h9 hA a8
    walk_at "rz"
    refine ⟨by first | omega | (rw [List.length_map]; omega), fun p10 H10 hp10 g10 h10 => ?_⟩
    rw [show A.map V.str ++ [V.str y] = (A ++ [y]).map V.str by rw [List.map_append]; rfl] at h10
    have a10 := g10 _ _ a9
    clear A9 h9' a9
    walk_at "rz"
    intro p11 H11 hp11 g11 h11
    obtain ⟨C, hC, mC, rC⟩ := cutH h11
    have k11 := g11 _ _ h10
    have lC := room_len C
    clear h10 h11 a10
    walk_at "rz"
    refine ⟨by rw [List.length_map, List.length_map, List.length_append]; simp only [List.length_cons, List.length_nil]; omega, fun p12 H12 hp12 g12 h12 => ?_⟩
    rw [mapA] at h12
    have gg := gH.trans (g8.trans (g9.trans (g10.trans g11)))
    exact q p12 _ H12 (gg.free hp12) (gg.trans g12) h12 (all_app (all_app (fun x hx => wa x (mA x hx)) (all_one fy.1)) fun x hx => wa x (mC x hx)) (by rw [room_app, room_app, room_one]; omega)
def spSRs : Sp := fun vs H Q _ => ∃ (a : Addr) (W : List Str) (c k : Int), vs = [.ref a, .int c, .int k] ∧ 0 ≤ k ∧ k ≤ 900 ∧ H a = some (.lst (W.map V.str)) ∧ W ≠ [] ∧ (∀ x ∈ W, asc x) ∧ room W ≤ 500000 ∧ ∀ p W' H', H p = none → Same H H' → H' p = some (.lst (W'.map V.str)) → (∀ x ∈ W', asc x) → room W' ≤ 6 * room W + 40 → Q (.ref p) H'
theorem ok_srs (D : DefAt K mg "_law_spoilt_rows" s__law_spoilt_rows ["rows", "cell", "k"]) (G__law_stir : OkD P w K mg base 1 "_law_stir" ["cell", "k"] spStir) (hlen : mg "len" = none) : OkD P w K mg base 2 "_law_spoilt_rows" ["rows", "cell", "k"] spSRs := by
  refine D.ok sc__law_spoilt_rows (fun vs H Q E h => ?_) (fun f cdv A outer s H vs Q E hr h => ?_)
  · obtain ⟨_, _, _, _, rfl, _⟩ := h; rfl
  obtain ⟨a, W, c, k, rfl, k0, k1, ha, ne, wa, wr, q⟩ := h
  have big : 3000000 ≤ sizeLine := by unfold sizeLine; decide
  have wl := room_len W
  have wp : 0 < W.length := List.length_pos_iff.mpr ne
  refine ⟨_, (pss_cons (ps_set (i := 3) sc__law_spoilt_rows.nd rfl (Or.inl rfl) (pe_op op_mod (pe_def G__law_stir hr rfl (pa_c (pv 1) (pa_c (pe_op op_add (pv 2) pe_int) pa_nil))) (pe_cB call_len_seq rfl hlen PySem.boot_len (pa_c (pv 0) pa_nil))))
  (pss_cons (ps_set (i := 4) sc__law_spoilt_rows.nd rfl (Or.inl rfl) (pe_op op_mod (pe_def G__law_stir hr rfl (pa_c (pv 1) (pa_c (pe_op op_add (pv 2) pe_int) pa_nil))) (pe_op op_add (pe_cB call_len_seq rfl hlen PySem.boot_len (pa_c (pv 0) pa_nil)) pe_int)))
  (pss_cons (ps_set (i := 5) sc__law_spoilt_rows.nd rfl (Or.inl rfl) (pe_op op_mod (pe_def G__law_stir hr rfl (pa_c (pv 1) (pa_c (pe_op op_add (pv 2) pe_int) pa_nil))) pe_int))
  (pss_cons (ps_if (pt_cmpR op_eq (pv 5) pe_int (nomark _))
  (pss_one (ps_ret (pe_op op_catG (pe_slice sl_g (pv 0) po_none (po_some (pv 3))) (pe_slice sl_g (pv 0) (po_some (pe_op op_add (pv 3) pe_int)) po_none))))
  pss_nil)
  (pss_cons (ps_if (pt_cmpR op_eq (pv 5) pe_int (nomark _))
  (pss_one (ps_ret (pe_op op_catG (pe_op op_catG (pe_slice sl_g (pv 0) po_none (po_some (pv 4))) (pe_lstG (pa_c (pe_ix ix_g (pv 0) (pv 3) (fun _ _ => rfl)) pa_nil))) (pe_slice sl_g (pv 0) (po_some (pv 4)) po_none))))
  pss_nil)
  (pss_cons (ps_if (pt_cmpR op_eq (pv 5) pe_int (nomark _))
  (pss_cons (ps_set (i := 6) sc__law_spoilt_rows.nd rfl (Or.inl rfl) (pe_op op_catG (pe_slice sl_g (pv 0) po_none (po_some (pv 3))) (pe_slice sl_g (pv 0) (po_some (pe_op op_add (pv 3) pe_int)) po_none)))
  (pss_one (ps_ret (pe_op op_catG (pe_op op_catG (pe_slice sl_g (pv 6) po_none (po_some (pv 4))) (pe_lstG (pa_c (pe_ix ix_g (pv 0) (pv 3) (fun _ _ => rfl)) pa_nil))) (pe_slice sl_g (pv 6) (po_some (pv 4)) po_none)))))
  pss_nil)
  (pss_one (ps_ret (pe_op op_catG (pe_op op_catG (pe_slice sl_g (pv 0) po_none (po_some (pv 4))) (pe_lstG (pa_c pe_str pa_nil))) (pe_slice sl_g (pv 0) (po_some (pv 4)) po_none)))))))))), ?_⟩
  walk_at "rz"
  refine ⟨_, _, rfl, by omega, by omega, fun n1 n10 n11 => ?_⟩
  walk_at "rz"
  refine ⟨_, .inl (SqL.of ha), ?_⟩
  walk_at "rz"
  refine ⟨by rw [List.length_map]; omega, ?_⟩
  rw [List.length_map]
  have q0 : 0 ≤ n1 % (W.length : Int) := Int.emod_nonneg _ (by omega)
  have q1 : n1 % (W.length : Int) < W.length := Int.emod_lt_of_pos _ (by omega)
  obtain ⟨y, hy, hym, gy⟩ := atI_in (xs := W) (i := n1 % (W.length : Int)) q0 q1
  have ey : atI (W.map V.str) (n1 % (W.length : Int)) = some (.str y) := by
    obtain ⟨y', hy', _, gy'⟩ := atI_in (xs := W.map V.str) (i := n1 % (W.length : Int)) q0 (by rw [List.length_map]; exact q1)
    rw [List.getElem?_map, gy] at gy'
    cases gy'
    exact hy'
  have yr := room_mem hym
  have ya := wa y hym
  clear hy gy
  walk_at "rz"
  refine ⟨_, _, rfl, by omega, by omega, fun n2 n20 n21 => ?_⟩
  walk_at "rz"
  refine ⟨_, .inl (SqL.of ha), ?_⟩
  rw [List.length_map]
  walk_at "rz"
  refine ⟨by omega, ?_⟩
  walk_at "rz"
  refine ⟨_, _, rfl, by omega, by omega, fun n3 n30 n31 => ?_⟩
  walk_at "rz"
  have fin2 : ∀ (A B : List Str) p Hx, Same H Hx → (∀ x ∈ A, x ∈ W) → room A ≤ room W → (∀ x ∈ B, x ∈ W) → room B ≤ room W → ∀ H', Hx p = none → Same Hx H' → H' p = some (.lst (A.map V.str ++ B.map V.str)) → Q (.ref p) H' := fun A B p Hx gg mA rA mB rB H' hp g h => by
    rw [mapA] at h
    exact q p _ H' (gg.free hp) (gg.trans g) h (all_app (fun x hx => wa x (mA x hx)) fun x hx => wa x (mB x hx)) (by rw [room_app]; omega)
  have fin3 : ∀ (A B : List Str) (y : Str) p Hx, asc y → y.length ≤ room W → Same H Hx → (∀ x ∈ A, asc x) → (∀ x ∈ B, asc x) → room A + room B ≤ 4 * room W → ∀ H', Hx p = none → Same Hx H' → H' p = some (.lst ((A ++ [y]).map V.str ++ B.map V.str)) → Q (.ref p) H' := fun A B y p Hx ay ly gg mA mB rAB H' hp g h => by
    rw [mapA] at h
    exact q p _ H' (gg.free hp) (gg.trans g) h (all_app (all_app mA (all_one ay)) mB) (by rw [room_app, room_app, room_one]; omega)
  clear q
  refine ite2 (fun c1 => ?_) fun c1 => ?_
  · clear c1
    walk_at "rz"
    intro p8 H8 hp8 g8 h8
    obtain ⟨A, hA, mA, rA⟩ := cutH h8
    have a8 := g8 _ _ ha
    clear h8 ha
    walk_at "rz"
    intro p9 H9 hp9 g9 h9
    obtain ⟨B, hB, mB, rB⟩ := cutH h9
    have A9 := g9 _ _ hA
    have lA := room_len A
    have lB := room_len B
    clear h9 hA a8
    walk_at "rz"
    exact ⟨by rw [List.length_map, List.length_map]; omega, fun p10 H10 hp10 g10 h10 => fin2 A B p10 H9 (g8.trans g9) mA rA mB rB H10 hp10 g10 h10⟩
  walk_at "rz"
  refine ite2 (fun c2 => ?_) fun c2 => ?_
  · clear c1 c2
    walk_at "rz"
    intro p8 H8 hp8 g8 h8
    obtain ⟨A, hA, mA, rA⟩ := cutH h8
    have a8 := g8 _ _ ha
    clear h8 ha
    walk_at "rz"
    intro p9 H9 hp9 g9 h9
    have A9 := g9 _ _ hA
    have a9 := g9 _ _ a8
    have lA := room_len A
    clear hA a8
    walk_at "rz"
    refine ⟨by first | omega | (rw [List.length_map]; omega), fun p10 H10 hp10 g10 h10 => ?_⟩
    rw [show A.map V.str ++ [V.str y] = (A ++ [y]).map V.str by rw [List.map_append]; rfl] at h10
    have a10 := g10 _ _ a9
    clear A9 h9 a9
    walk_at "rz"
    intro p11 H11 hp11 g11 h11
    obtain ⟨C, hC, mC, rC⟩ := cutH h11
    have k11 := g11 _ _ h10
    have lC := room_len C
    clear h10 h11 a10
    walk_at "rz"
    exact ⟨by rw [List.length_map, List.length_map, List.length_append]; simp only [List.length_cons, List.length_nil]; omega, fun p12 H12 hp12 g12 h12 => fin3 A C y p12 H11 ya (by omega) (g8.trans (g9.trans (g10.trans g11))) (fun x hx => wa x (mA x hx)) (fun x hx => wa x (mC x hx)) (by omega) H12 hp12 g12 h12⟩
  walk_at "rz"
  refine ite2 (fun c3 => ?_) fun c3 => ?_
  · clear c1 c2 c3
    walk_at "rz"
    intro p8 H8 hp8 g8 h8
    obtain ⟨A, hA, mA, rA⟩ := cutH h8
    have a8 := g8 _ _ ha
    clear h8 ha
    walk_at "rz"
    intro p9 H9 hp9 g9 h9
    obtain ⟨B, hB, mB, rB⟩ := cutH h9
    have A9 := g9 _ _ hA
    have a9 := g9 _ _ a8
    have lA := room_len A
    have lB := room_len B
    clear h9 hA a8
    walk_at "rz"
    refine ⟨by rw [List.length_map, List.length_map]; omega, fun p10 H10 hp10 g10 h10 => ?_⟩
    rw [mapA] at h10
    have a10 := g10 _ _ a9
    have mAB : ∀ x ∈ A ++ B, x ∈ W := all_app mA mB
    have rAB : room (A ++ B) ≤ 2 * room W := by rw [room_app]; omega
    generalize A ++ B = R at h10 mAB rAB
    clear A9 hB a9
    walk_at "rz"
    intro p11 H11 hp11 g11 h11
    obtain ⟨A1, hA1, mA1, rA1⟩ := cutH h11
    have k11 := g11 _ _ h10
    have a11 := g11 _ _ a10
    have lA1 := room_len A1
    clear h10 h11 a10
    walk_at "rz"
    intro p12 H12 hp12 g12 h12
    have k12 := g12 _ _ k11
    have A12 := g12 _ _ hA1
    clear k11 hA1 a11
    walk_at "rz"
    refine ⟨by first | omega | (rw [List.length_map]; omega), fun p13 H13 hp13 g13 h13 => ?_⟩
    rw [show A1.map V.str ++ [V.str y] = (A1 ++ [y]).map V.str by rw [List.map_append]; rfl] at h13
    have k13 := g13 _ _ k12
    clear k12 A12 h12
    walk_at "rz"
    intro p14 H14 hp14 g14 h14
    obtain ⟨C, hC, mC, rC⟩ := cutH h14
    have h134 := g14 _ _ h13
    have lC := room_len C
    clear h13 h14 k13
    walk_at "rz"
    exact ⟨by rw [List.length_map, List.length_map, List.length_append]; simp only [List.length_cons, List.length_nil]; omega, fun p15 H15 hp15 g15 h15 => fin3 A1 C y p15 H14 ya (by omega) (g8.trans (g9.trans (g10.trans (g11.trans (g12.trans (g13.trans g14)))))) (fun x hx => wa x (mAB x (mA1 x hx))) (fun x hx => wa x (mAB x (mC x hx))) (by omega) H15 hp15 g15 h15⟩
  · clear c1 c2 c3
    walk_at "rz"
    intro p8 H8 hp8 g8 h8
    obtain ⟨A, hA, mA, rA⟩ := cutH h8
    have a8 := g8 _ _ ha
    clear h8 ha ey
    walk_at "rz"
    intro p9 H9 hp9 g9 h9
    have A9 := g9 _ _ hA
    have a9 := g9 _ _ a8
    have lA := room_len A
    clear hA a8
    walk_at "rz"
    refine ⟨by first | omega | (rw [List.length_map]; omega), fun p10 H10 hp10 g10 h10 => ?_⟩
    rw [show A.map V.str ++ [V.str (Str.ofString "")] = (A ++ [Str.ofString ""]).map V.str by rw [List.map_append]; rfl] at h10
    have a10 := g10 _ _ a9
    clear A9 h9 a9
    walk_at "rz"
    intro p11 H11 hp11 g11 h11
    obtain ⟨C, hC, mC, rC⟩ := cutH h11
    have k11 := g11 _ _ h10
    have lC := room_len C
    clear h10 h11 a10
    walk_at "rz"
    exact ⟨by rw [List.length_map, List.length_map, List.length_append]; simp only [List.length_cons, List.length_nil]; omega, fun p12 H12 hp12 g12 h12 => fin3 A C _ p12 H11 asc_em (Nat.zero_le _) (g8.trans (g9.trans (g10.trans g11))) (fun x hx => wa x (mA x hx)) (fun x hx => wa x (mC x hx)) (by omega) H12 hp12 g12 h12⟩
end
end K71

set_option Elab.async false
set_option linter.all false
set_option maxRecDepth 100000
set_option maxHeartbeats 4000000
namespace K71
open PySem L2
section
variable {P : Program} {w : World} {K : PySem.W.Frag} {mg : Str → Option Value} {base : Heap}
def flags : List V := (List.replicate 7 false ++ true :: List.replicate 4 false).map V.bl
def spRef : Sp := fun vs H Q _ => ∃ t : Str, vs = [.str t] ∧ t.length ≤ 1000000 ∧ asc t ∧ logV t = none ∧ ∀ p H', Same H H' → H' p = some (.lst flags) → Q (.ref p) H'
structure Errs (K : PySem.W.Frag) (mg : Str → Option Value) (C : Addr) (x : Str) (b : Bool) (D : Addr) : Prop where
  gl : mg x = some (.ref D)
  is : PySem.W.kitOne K (.ref C) (.ref D) = some b
theorem ok_refused (D : DefAt K mg "_law_refused" s__law_refused ["text"]) {C_NoRow C_NoPlace C_TooLong C_TooDeep C_NoMeasure C_Twice C_Open C_NoLog C_NoForm C_NoneYet C_NoThing B : Addr} (hisinstance : mg "isinstance" = none) (hValueError : mg "ValueError" = none)
    (pl : PlainX K C_NoLog) (O_RunError : Errs K mg C_NoLog "RunError" true B) (hex : PySem.W.exmOne K (.ref C_NoLog) (.ref B) = some true) (hve : PySem.W.kitOne K (.ref C_NoLog) (.type "ValueError") = some true)
    (O_NoRow : Errs K mg C_NoLog "NoRow" false C_NoRow) (O_NoPlace : Errs K mg C_NoLog "NoPlace" false C_NoPlace) (O_TooLong : Errs K mg C_NoLog "TooLong" false C_TooLong) (O_TooDeep : Errs K mg C_NoLog "TooDeep" false C_TooDeep)
    (O_NoMeasure : Errs K mg C_NoLog "NoMeasure" false C_NoMeasure) (O_Twice : Errs K mg C_NoLog "Twice" false C_Twice) (O_Open : Errs K mg C_NoLog "Open" false C_Open) (O_NoLog : Errs K mg C_NoLog "NoLog" true C_NoLog)
    (O_NoForm : Errs K mg C_NoLog "NoForm" false C_NoForm) (O_NoneYet : Errs K mg C_NoLog "NoneYet" false C_NoneYet) (O_NoThing : Errs K mg C_NoLog "NoThing" false C_NoThing)
    (G_read_log : OkR P w K mg base 6 "read_log" ["text"] (spRL C_NoLog)) : OkD P w K mg base 7 "_law_refused" ["text"] spRef := by
  refine D.ok sc__law_refused (fun vs H Q E h => ?_) (fun f cdv A outer s H vs Q E hr h => ?_)
  · obtain ⟨x, rfl, _⟩ := h; rfl
  obtain ⟨x, rfl, hz, hx, hn, q⟩ := h
  refine ⟨_, (pss_cons (ps_set (i := 1) sc__law_refused.nd rfl (Or.inl rfl) (pe_lstG pa_nil))
  (pss_cons (ps_try1 (i := 2) rfl rfl rfl (pex_def G_read_log hr rfl (pa_c (pv 0) pa_nil)) rfl O_RunError.gl sc__law_refused.nd rfl rfl (fun _ =>
  (pss_cons (ps_set (i := 1) sc__law_refused.nd rfl (Or.inl rfl) (pe_lstG (pa_c (pe_cB (id := "isinstance") (r := rIsiX K) call_isinstX rfl hisinstance (by decide +kernel) (pa_c (pv 2) (pa_c (pe_glob (v := .ref C_NoRow) rfl O_NoRow.gl rfl) pa_nil))) (pa_c (pe_cB (id := "isinstance") (r := rIsiX K) call_isinstX rfl hisinstance (by decide +kernel) (pa_c (pv 2) (pa_c (pe_glob (v := .ref C_NoPlace) rfl O_NoPlace.gl rfl) pa_nil))) (pa_c (pe_cB (id := "isinstance") (r := rIsiX K) call_isinstX rfl hisinstance (by decide +kernel) (pa_c (pv 2) (pa_c (pe_glob (v := .ref C_TooLong) rfl O_TooLong.gl rfl) pa_nil))) (pa_c (pe_cB (id := "isinstance") (r := rIsiX K) call_isinstX rfl hisinstance (by decide +kernel) (pa_c (pv 2) (pa_c (pe_glob (v := .ref C_TooDeep) rfl O_TooDeep.gl rfl) pa_nil))) pa_nil))))))
  (pss_cons (ps_set (i := 1) sc__law_refused.nd rfl (Or.inl rfl) (pe_op op_catG (pv 1) (pe_lstG (pa_c (pe_cB (id := "isinstance") (r := rIsiX K) call_isinstX rfl hisinstance (by decide +kernel) (pa_c (pv 2) (pa_c (pe_glob (v := .ref C_NoMeasure) rfl O_NoMeasure.gl rfl) pa_nil))) (pa_c (pe_cB (id := "isinstance") (r := rIsiX K) call_isinstX rfl hisinstance (by decide +kernel) (pa_c (pv 2) (pa_c (pe_glob (v := .ref C_Twice) rfl O_Twice.gl rfl) pa_nil))) (pa_c (pe_cB (id := "isinstance") (r := rIsiX K) call_isinstX rfl hisinstance (by decide +kernel) (pa_c (pv 2) (pa_c (pe_glob (v := .ref C_Open) rfl O_Open.gl rfl) pa_nil))) (pa_c (pe_cB (id := "isinstance") (r := rIsiX K) call_isinstX rfl hisinstance (by decide +kernel) (pa_c (pv 2) (pa_c (pe_glob (v := .ref C_NoLog) rfl O_NoLog.gl rfl) pa_nil))) pa_nil)))))))
  (pss_cons (ps_set (i := 1) sc__law_refused.nd rfl (Or.inl rfl) (pe_op op_catG (pv 1) (pe_lstG (pa_c (pe_cB (id := "isinstance") (r := rIsiX K) call_isinstX rfl hisinstance (by decide +kernel) (pa_c (pv 2) (pa_c (pe_glob (v := .ref C_NoForm) rfl O_NoForm.gl rfl) pa_nil))) (pa_c (pe_cB (id := "isinstance") (r := rIsiX K) call_isinstX rfl hisinstance (by decide +kernel) (pa_c (pv 2) (pa_c (pe_glob (v := .ref C_NoneYet) rfl O_NoneYet.gl rfl) pa_nil))) (pa_c (pe_cB (id := "isinstance") (r := rIsiX K) call_isinstX rfl hisinstance (by decide +kernel) (pa_c (pv 2) (pa_c (pe_glob (v := .ref C_NoThing) rfl O_NoThing.gl rfl) pa_nil))) pa_nil))))))
  (pss_one (ps_set (i := 1) sc__law_refused.nd rfl (Or.inl rfl) (pe_op op_catG (pv 1) (pe_lstG (pa_c (pe_not (pe_cB (id := "isinstance") (r := rIsiXT K) call_isinstXT rfl hisinstance (by decide +kernel) (pa_c (pv 2) (pa_c (pe_type (n := "ValueError") (T := "ValueError") rfl hValueError (by decide +kernel)) pa_nil)))) pa_nil))))))))))
  (pss_one (ps_ret (pv 1))))), ?_⟩
  walk_at "ro"
  intro p1 H1 hp1 g1 h1
  refine ⟨x, rfl, hz, hx, fun t ht => absurd ht (by rw [hn]; simp), fun _ H2 g2 => ⟨C_NoLog, rfl, hex, fun xe H3 hx3 g3 h3 => ⟨_, h3, pl, _, O_NoRow.is, _, h3, pl, _, O_NoPlace.is, _, h3, pl, _, O_TooLong.is, _, h3, pl, _, O_TooDeep.is, fun p4 H4 hp4 g4 h4 => ?_⟩⟩⟩
  have k4 := g4 _ _ h3
  refine ⟨_, k4, pl, _, O_NoMeasure.is, _, k4, pl, _, O_Twice.is, _, k4, pl, _, O_Open.is, _, k4, pl, _, O_NoLog.is, fun p5 H5 hp5 g5 h5 => ?_⟩
  refine ⟨_, g5 _ _ h4, _, h5, by decide +kernel, fun p6 H6 hp6 g6 h6 => ?_⟩
  have k6 := g6 _ _ (g5 _ _ k4)
  refine ⟨_, k6, pl, _, O_NoForm.is, _, k6, pl, _, O_NoneYet.is, _, k6, pl, _, O_NoThing.is, fun p7 H7 hp7 g7 h7 => ⟨_, g7 _ _ h6, _, h7, by decide +kernel, fun p8 H8 hp8 g8 h8 => ?_⟩⟩
  have k8 := g8 _ _ (g7 _ _ k6)
  refine ⟨_, k8, pl, _, hve, fun p9 H9 hp9 g9 h9 => ⟨_, g9 _ _ h8, _, h9, by decide +kernel, fun p10 H10 hp10 g10 h10 => ?_⟩⟩
  exact q _ _ (g1.trans (g2.trans (g3.trans (g4.trans (g5.trans (g6.trans (g7.trans (g8.trans (g9.trans g10))))))))) h10
def spCell (K : PySem.W.Frag) : Sp := fun vs H Q _ => ∃ (a : Addr) (ns : List Int) (k : Nat), vs = [.ref a, .int (k : Nat)] ∧ SqL K H a (ns.map V.int) ∧ ∀ c : Int, Q (.int c) H
theorem ok_cell (D : DefAt K mg "_law_cell_at" s__law_cell_at ["script", "k"]) (hlen : mg "len" = none) : OkD P w K mg base 1 "_law_cell_at" ["script", "k"] (spCell K) := by
  refine D.ok sc__law_cell_at (fun vs H Q E h => ?_) (fun f cdv A outer s H vs Q E hr h => ?_)
  · obtain ⟨_, _, _, rfl, _⟩ := h; rfl
  obtain ⟨a, ns, k, rfl, hS, q⟩ := h
  refine ⟨_, (pss_cons (ps_if (pt_cmpR op_lt (pv 1) (pe_cB call_len_seq rfl hlen PySem.boot_len (pa_c (pv 0) pa_nil)) (nomark _))
  (pss_one (ps_ret (pe_ix ix_list (pv 0) (pv 1) (fun _ _ => rfl))))
  pss_nil)
  (pss_one (ps_ret pe_int))), ?_⟩
  walk_at "rz"
  refine ⟨_, .inl hS, ?_⟩
  walk_at "rz"
  refine ite2 (fun c => ?_) fun c => ?_
  · rw [List.length_map] at c
    have hk : k < ns.length := by omega
    walk_at "rz"
    exact ⟨_, hS, .int ns[k], atI_nat (j := k) (by rw [List.getElem?_map, List.getElem?_eq_getElem hk]; rfl), q _⟩
  · walk_at "rz"
end
end K71

set_option Elab.async false
set_option linter.all false
set_option maxRecDepth 100000
set_option maxHeartbeats 4000000
namespace K71
open PySem L2
theorem room_set : ∀ (W : List Str) (j : Nat) (z : Str), room (W.set j z) ≤ room W + z.length + 1
  | [], _, _ => Nat.zero_le _
  | y :: W, 0, z => by show z.length + 1 + room W ≤ y.length + 1 + room W + z.length + 1; omega
  | y :: W, j + 1, z => by
    have := room_set W j z
    show y.length + 1 + room (W.set j z) ≤ y.length + 1 + room W + z.length + 1
    omega
def signsT : Str := "\n !\"#$&'()*+,-./0123456789:;<=>?@ABCDEFGHIJKLMNOPQRSTUVWXYZ[\\]^_`abcdefghijklmnopqrstuvwxyz{|}~"
theorem signs_asc : ∀ c ∈ signsT.cps.toList, c < 128 := by decide +kernel
theorem signs_len : signsT.cps.toList.length = 95 := by decide +kernel
section
variable {P : Program} {w : World} {K : PySem.W.Frag} {mg : Str → Option Value} {base : Heap}
def spSp : Sp := fun vs H Q _ => ∃ (t : Str) (c k : Int), vs = [.str t, .int c, .int k] ∧ 0 ≤ k ∧ k ≤ 800 ∧ asc t ∧ t.length ≤ 100000 ∧ ∀ t' H', Same H H' → asc t' → t'.length ≤ 7 * t.length + 50 → Q (.str t') H'
theorem slice_asc {t : Str} (h : asc t) (lo hi : Option Int) : asc (PySem.Txt.slice t lo hi) := fun c hc => h c (slice_in hc)
theorem ok_sp (D : DefAt K mg "_law_spoilt" s__law_spoilt ["text", "cell", "k"]) (G__law_stir : OkD P w K mg base 1 "_law_stir" ["cell", "k"] spStir) (G__law_spoilt_word : OkD P w K mg base 2 "_law_spoilt_word" ["words", "cell", "k"] spSW) (G__law_spoilt_rows : OkD P w K mg base 2 "_law_spoilt_rows" ["rows", "cell", "k"] spSRs) (hlen : mg "len" = none) : OkD P w K mg base 3 "_law_spoilt" ["text", "cell", "k"] spSp := by
  refine D.ok sc__law_spoilt (fun vs H Q E h => ?_) (fun f cdv A outer s H vs Q E hr h => ?_)
  · obtain ⟨_, _, _, rfl, _⟩ := h; rfl
  obtain ⟨t, c, k, rfl, k0, k1, ta, tl, q⟩ := h
  have big : 3000000 ≤ sizeLine := by unfold sizeLine; decide
  refine ⟨_, (pss_cons (ps_set (i := 3) sc__law_spoilt.nd rfl (Or.inl rfl) (pe_op op_mod (pe_def G__law_stir hr rfl (pa_c (pv 1) (pa_c (pv 2) pa_nil))) pe_int))
  (pss_cons (ps_if (pt_cmpR op_eq (pv 3) pe_int (nomark _))
  (pss_one (ps_ret (pe_join pe_str (pe_def G__law_spoilt_rows hr rfl (pa_c (pe_bm PySem.F.plainAttrs_str PySem.F.slot_str_split PySem.F.type_str_split mt_split (pv 0) (pa_c pe_str pa_nil)) (pa_c (pv 1) (pa_c (pv 2) pa_nil)))))))
  pss_nil)
  (pss_cons (ps_if (pt_cmpR op_eq (pv 3) pe_int (nomark _))
  (pss_cons (ps_set (i := 4) sc__law_spoilt.nd rfl (Or.inl rfl) (pe_bm PySem.F.plainAttrs_str PySem.F.slot_str_split PySem.F.type_str_split mt_split (pv 0) (pa_c pe_str pa_nil)))
  (pss_cons (ps_set (i := 5) sc__law_spoilt.nd rfl (Or.inl rfl) (pe_op op_mod (pe_def G__law_stir hr rfl (pa_c (pv 1) (pa_c (pe_op op_add (pv 2) pe_int) pa_nil))) (pe_cB call_len_seq rfl hlen PySem.boot_len (pa_c (pv 4) pa_nil))))
  (pss_cons (ps_asg (pe_join pe_str (pe_def G__law_spoilt_word hr rfl (pa_c (pe_bm PySem.F.plainAttrs_str PySem.F.slot_str_split PySem.F.type_str_split mt_split (pe_ix ix_g (pv 4) (pv 5) (fun _ _ => rfl)) (pa_c pe_str pa_nil)) (pa_c (pv 1) (pa_c (pv 2) pa_nil))))) (pg_sub (pv 4) (pv 5) set_listG))
  (pss_one (ps_ret (pe_join pe_str (pv 4)))))))
  pss_nil)
  (pss_cons (ps_set (i := 6) sc__law_spoilt.nd rfl (Or.inl rfl) pe_str)
  (pss_cons (ps_set (i := 5) sc__law_spoilt.nd rfl (Or.inl rfl) (pe_op op_mod (pe_def G__law_stir hr rfl (pa_c (pv 1) (pa_c (pe_op op_add (pv 2) pe_int) pa_nil))) (pe_op op_add (pe_cB call_len_str rfl hlen PySem.boot_len (pa_c (pv 0) pa_nil)) pe_int)))
  (pss_cons (ps_set (i := 7) sc__law_spoilt.nd rfl (Or.inl rfl) (pe_ix ix_str (pv 6) (pe_op op_mod (pe_def G__law_stir hr rfl (pa_c (pv 1) (pa_c (pe_op op_add (pv 2) pe_int) pa_nil))) pe_int) (fun _ _ => rfl)))
  (pss_one (ps_ret (pe_op op_add_str (pe_op op_add_str (pe_slice sl_str (pv 0) po_none (po_some (pv 5))) (pe_ix ix_g (pe_lstG (pa_c (pv 7) (pa_c pe_str (pa_c (pv 7) pa_nil)))) (pe_op op_mod (pe_def G__law_stir hr rfl (pa_c (pv 1) (pa_c (pe_op op_add (pv 2) pe_int) pa_nil))) pe_int) (fun _ _ => rfl))) (pe_slice sl_str (pv 0) (po_some (pe_op op_add (pv 5) (pe_ix ix_g (pe_lstG (pa_c pe_int (pa_c pe_int (pa_c pe_int pa_nil)))) (pe_op op_mod (pe_def G__law_stir hr rfl (pa_c (pv 1) (pa_c (pe_op op_add (pv 2) pe_int) pa_nil))) pe_int) (fun _ _ => rfl)))) po_none)))))))))), ?_⟩
  walk_at "rz"
  refine ⟨_, _, rfl, by omega, by omega, fun n1 n10 n11 => ?_⟩
  walk_at "rz"
  have sl := split_len t 10
  have sr := split_room t 10
  have sn := split_ne t 10
  have sm := fun x (hx : x ∈ PySem.Txt.split t ⟨#[10]⟩) => (split_mem hx).1
  have sw : ∀ x ∈ PySem.Txt.split t ⟨#[10]⟩, asc x := fun x hx => (ta.rows x hx).1
  refine ite2 (fun c1 => ?_) fun c1 => ?_
  · clear c1
    walk_at "rz"
    rw [nl10]
    refine ⟨_, _, rfl, rfl, by decide, by omega, by omega, fun ws H1 hws g1 h1 => ?_⟩
    refine ⟨ws, _, _, _, rfl, k0, by omega, h1, sn, sw, by omega, fun p W' H2 hp g2 h2 w2 r2 => ?_⟩
    have jl := join_le 10 W'
    refine ⟨p, rfl, W', rfl, h2, joinOk_room (s := ⟨#[10]⟩) (Nat.le_refl 1) (by omega), ?_⟩
    rw [tjoin]
    exact q _ H2 (g1.trans g2) (join_asc 10 (by decide) w2) (by omega)
  walk_at "rz"
  refine ite2 (fun c2 => ?_) fun c2 => ?_
  · clear c1 c2
    walk_at "rz"
    rw [nl10]
    refine ⟨_, _, rfl, rfl, by decide, by omega, by omega, fun ws H1 hws g1 h1 => ?_⟩
    generalize PySem.Txt.split t ⟨#[10]⟩ = W at sl sr sn sm sw h1
    have wp : 0 < W.length := List.length_pos_iff.mpr sn
    have wl := room_len W
    walk_at "rz"
    refine ⟨_, _, rfl, by omega, by omega, fun n2 n20 n21 => ?_⟩
    walk_at "rz"
    refine ⟨_, .inl (SqL.of h1), ?_⟩
    walk_at "rz"
    refine ⟨by rw [List.length_map]; omega, ?_⟩
    rw [List.length_map]
    have q0 : 0 ≤ n2 % (W.length : Int) := Int.emod_nonneg _ (by omega)
    have q1 : n2 % (W.length : Int) < W.length := Int.emod_lt_of_pos _ (by omega)
    obtain ⟨y, hy, hym, gy⟩ := atI_in (xs := W) (i := n2 % (W.length : Int)) q0 q1
    have ey : atI (W.map V.str) (n2 % (W.length : Int)) = some (.str y) := by
      obtain ⟨y', hy', _, gy'⟩ := atI_in (xs := W.map V.str) (i := n2 % (W.length : Int)) q0 (by rw [List.length_map]; exact q1)
      rw [List.getElem?_map, gy] at gy'
      cases gy'
      exact hy'
    have yr := sm y hym
    have ya := sw y hym
    have s2 := split_len y 32
    have r2 := split_room y 32
    have e2 := split_ne y 32
    have w2 : ∀ x ∈ PySem.Txt.split y ⟨#[32]⟩, asc x := fun x hx => fun d hd => ya d ((split_mem hx).2.1 d hd)
    clear hy gy
    walk_at "rz"
    rw [sp32]
    refine ⟨_, _, rfl, rfl, by decide, by omega, by omega, fun wd H2 hwd g2 h2 => ?_⟩
    refine ⟨wd, _, _, _, rfl, k0, by omega, h2, e2, w2, by omega, fun p W' H3 hp g3 h3 w3 r3 => ?_⟩
    have jl := join_le 32 W'
    refine ⟨p, rfl, W', rfl, h3, joinOk_room (s := ⟨#[32]⟩) (Nat.le_refl 1) (by omega), ?_⟩
    rw [tjoin]
    have h13 := g3 _ _ (g2 _ _ h1)
    have ja := join_asc 32 (by decide) w3
    generalize Str.join ⟨#[32]⟩ W' = z at jl ja
    clear h1 h2 h3
    walk_at "rz"
    refine ⟨(n2 % (W.length : Int)).toNat, by unfold ixN; rw [List.length_map, if_pos q0, if_pos q1], fun H4 m4 => ?_⟩
    rw [← List.map_set] at m4
    have h4 := m4.at_
    have rs := room_set W (n2 % (W.length : Int)).toNat z
    have ws4 : ∀ x ∈ W.set (n2 % (W.length : Int)).toNat z, asc x := fun x hx => by
      rcases List.mem_or_eq_of_mem_set hx with hx | rfl
      · exact sw x hx
      · exact ja
    have g4 : Same H H4 := fun b u hb => m4.old (g3 _ _ (g2 _ _ (g1 _ _ hb))) (ne_of_none hb hws)
    have fin := q (Str.join ⟨#[10]⟩ (W.set (n2 % (W.length : Int)).toNat z)) H4 g4 (join_asc 10 (by decide) ws4) (by have := join_le 10 (W.set (n2 % (W.length : Int)).toNat z); omega)
    rw [← tjoin] at fin
    clear h13 m4 ey q
    generalize W.set (n2 % (W.length : Int)).toNat z = Y at rs h4 fin
    have jo : JoinOk ⟨#[10]⟩ Y = true := joinOk_room (s := ⟨#[10]⟩) (Nat.le_refl 1) (by omega)
    walk_at "rz"
    try exact ⟨Y, rfl, jo, fin⟩
  · clear c1 c2 sl sr sn sm sw
    walk_at "rz"
    refine ⟨_, _, rfl, by omega, by omega, fun n2 n20 n21 => ⟨by omega, ?_⟩⟩
    walk_at "rz"
    refine ⟨by omega, ?_⟩
    walk_at "rz"
    refine ⟨_, _, rfl, by omega, by omega, fun n3 n30 n31 => ?_⟩
    walk_at "rz"
    obtain ⟨sc, hsc, hscm, _⟩ := atI_in (xs := signsT.cps.toList) (i := n3 % 95) (by omega) (by rw [signs_len]; show n3 % 95 < 95; omega)
    have sa : asc ⟨#[sc]⟩ := fun d hd => by
      have hd : d ∈ [sc] := hd
      rw [List.mem_singleton.mp hd]
      exact signs_asc sc hscm
    refine ⟨by unfold sizeLine; decide +kernel, sc, hsc, ?_⟩
    clear hsc hscm
    walk_at "rz"
    refine ⟨by omega, ?_⟩
    walk_at "rz"
    intro p5 H5 hp5 g5 h5
    walk_at "rz"
    refine ⟨_, _, rfl, by omega, by omega, fun n4 n40 n41 => ?_⟩
    walk_at "rz"
    obtain ⟨v, hv, hvm, _⟩ := atI_in (xs := [V.str ⟨#[sc]⟩, V.str (Str.ofString ""), V.str ⟨#[sc]⟩]) (i := n4 % 3) (by omega) (by show n4 % 3 < 3; omega)
    obtain ⟨y, rfl, ya, yl⟩ : ∃ y : Str, v = .str y ∧ asc y ∧ y.length ≤ 1 := by
      simp only [List.mem_cons, List.not_mem_nil, or_false] at hvm
      rcases hvm with rfl | rfl | rfl
      · exact ⟨_, rfl, sa, Nat.le_refl 1⟩
      · exact ⟨_, rfl, asc_em, Nat.zero_le 1⟩
      · exact ⟨_, rfl, sa, Nat.le_refl 1⟩
    refine ⟨_, hv, ?_⟩
    clear hv hvm h5
    walk_at "rz"
    have s1 := PySem.Txt.slice_le t none (some (n2 % (t.length + 1)))
    refine ⟨by omega, ?_⟩
    have fa := slice_asc ta none (some (n2 % (t.length + 1)))
    generalize PySem.Txt.slice t none (some (n2 % (t.length + 1))) = u at s1 fa
    walk_at "rz"
    intro p6 H6 hp6 g6 h6
    walk_at "rz"
    refine ⟨_, _, rfl, by omega, by omega, fun n5 n50 n51 => ?_⟩
    walk_at "rz"
    obtain ⟨v, hv, hvm, _⟩ := atI_in (xs := [V.int 0, V.int 1, V.int 1]) (i := n5 % 3) (by omega) (by show n5 % 3 < 3; omega)
    obtain ⟨j, rfl⟩ : ∃ j : Int, v = .int j := by
      simp only [List.mem_cons, List.not_mem_nil, or_false] at hvm
      rcases hvm with rfl | rfl | rfl <;> exact ⟨_, rfl⟩
    refine ⟨_, hv, ?_⟩
    clear hv hvm h6
    walk_at "rz"
    refine ⟨by omega, ?_⟩
    walk_at "rz"
    have s2 := PySem.Txt.slice_le t (some (n2 % (t.length + 1) + j)) none
    have fb := slice_asc ta (some (n2 % (t.length + 1) + j)) none
    refine ⟨by rw [cat_len]; omega, ?_⟩
    exact q _ H6 (g5.trans g6) (asc_app (asc_app fa ya) fb) (by rw [cat_len, cat_len]; omega)
end
end K71

set_option Elab.async false
set_option linter.all false
set_option maxRecDepth 100000
set_option maxHeartbeats 4000000
namespace K71
open PySem L2
section
variable {P : Program} {w : World} {K : PySem.W.Frag} {mg : Str → Option Value} {base : Heap}
def spLaw (K : PySem.W.Frag) : Sp := fun vs H Q _ => ∃ (a : Addr) (ns : List Int), vs = [.ref a] ∧ SqL K H a (ns.map V.int) ∧ ns.length ≤ 63 ∧ ∀ H', Q (.bl true) H'
def LwI (K : PySem.W.Frag) (a : Addr) (ns : List Int) (tx : Str) (H1 : Hp) (i : Nat) (σ : St) (H' : Hp) : Prop := ∃ v2 v3 v4 v5, σ = [some (.ref a), some (.str tx), v2, v3, v4, v5] ∧ Same H1 H' ∧ SqL K H' a (ns.map V.int)
def LvI (a : Addr) (tx : Str) (i : Nat) (c : Int) (v5 : Option V) (H5 : Hp) (σ : St) (H' : Hp) : Prop := ∃ t2 : Str, σ = [some (.ref a), some (.str tx), some (.int (0 + i)), some (.int c), some (.str t2), v5] ∧ Same H5 H' ∧ asc t2 ∧ t2.length ≤ 600000
theorem iteT' {c : Prop} [Decidable c] {p q : Prop} (h : c) (hq : p) : if c then p else q := by rw [if_pos h]; exact hq
theorem iteF' {c : Prop} [Decidable c] {p q : Prop} (h : ¬ c) (hq : q) : if c then p else q := by rw [if_neg h]; exact hq
theorem SqL.keep {K : PySem.W.Frag} {H H' : Hp} {a : Addr} {xs : List V} (hS : SqL K H a xs) (g : Same H H') : SqL K H' a xs := by
  rcases hS with (h | ⟨o, h⟩) | h
  · exact .inl (.inl (g _ _ h))
  · exact .inl (.inr ⟨o, g _ _ h⟩)
  · exact .inr h
theorem cut2 (xs : List V) : cutV xs (some 2) none = xs.drop 2 := by
  unfold cutV
  rw [show HT.sIx xs.length 0 (some 2) = min 2 xs.length from HT.sIx_nat _ _ 2, HT.sIx_none]
  by_cases h : 2 ≤ xs.length
  · rw [Nat.min_eq_left h]
    exact List.take_of_length_le (by rw [List.length_drop]; exact Nat.le_refl _)
  · rw [List.drop_of_length_le (by omega), List.drop_of_length_le (by omega), List.take_nil]
theorem flags_sh : SeqAt.shaped (.list ((List.replicate 7 false ++ true :: List.replicate 4 false).map PyData.bool)) = true := by decide +kernel
theorem ok_law {fa : Addr} {fd : FuncData} {C_NoLog : Addr} (F : Fun K "law" "law" s_law fa fd) (G__law_log : OkD P w K mg base 3 "_law_log" ["script"] (spLg K)) (G__law_text : OkD P w K mg base 1 "_law_text" ["log"] spTx) (G__law_cell_at : OkD P w K mg base 1 "_law_cell_at" ["script", "k"] (spCell K)) (G__law_spoilt : OkD P w K mg base 3 "_law_spoilt" ["text", "cell", "k"] spSp)
    (G__law_stir : OkD P w K mg base 1 "_law_stir" ["cell", "k"] spStir) (G__law_due : OkD P w K mg base 4 "_law_due" ["text"] spDue) (G__law_refused : OkD P w K mg base 7 "_law_refused" ["text"] spRef) (G_read_log : OkR P w K mg base 6 "read_log" ["text"] (spRL C_NoLog)) (G_shown_log : OkD P w K mg base 2 "shown_log" ["log"] spSL) (hrange : mg "range" = none) : FnOk P w K mg base CX0 8 fa fd ["script"] (spLaw K) := by
  refine F.ok sc_law (fun vs H Q E h => ?_) (fun cdv A outer s H vs Q E hr h => ?_)
  · obtain ⟨a, ns, rfl, _⟩ := h; rfl
  obtain ⟨a, ns, rfl, hS, h63, q⟩ := h
  have big : 3000000 ≤ sizeLine := by unfold sizeLine; decide
  have hu64 := hr.units
  refine ⟨_, (pss_cons (ps_set (i := 1) sc_law.nd rfl (Or.inl rfl) (pe_def G__law_text hr rfl (pa_c (pe_def G__law_log hr rfl (pa_c (pe_slice sl_k (pv 0) (po_some pe_int) po_none) pa_nil)) pa_nil)))
  (pss_cons (ps_for PassesOwn.never rfl (pi_range1 rfl hrange (pa_c pe_int pa_nil)) (pg_name (i := 2) sc_law.nd rfl (Or.inl rfl))
  (pss_cons (ps_set (i := 3) sc_law.nd rfl (Or.inl rfl) (pe_def G__law_cell_at hr rfl (pa_c (pv 0) (pa_c (pv 2) pa_nil))))
  (pss_cons (ps_set (i := 4) sc_law.nd rfl (Or.inl rfl) (pe_def G__law_spoilt hr rfl (pa_c (pv 1) (pa_c (pv 3) (pa_c pe_int pa_nil)))))
  (pss_cons (ps_up (ps_if (pt_cmpR op_eq (pe_op op_mod (pe_def G__law_stir hr rfl (pa_c (pv 3) (pa_c pe_int pa_nil))) pe_int) pe_int (nomark _))
  (pss_one (ps_set (i := 4) sc_law.nd rfl (Or.inl rfl) (pe_def G__law_spoilt hr rfl (pa_c (pv 4) (pa_c (pv 3) (pa_c pe_int pa_nil))))))
  pss_nil))
  (pss_cons (ps_set (i := 5) sc_law.nd rfl (Or.inl rfl) (pe_def G__law_due hr rfl (pa_c (pv 4) pa_nil)))
  (pss_one (ps_if (pt_cmpR op_isN (pv 5) pe_non (nomark _))
  (pss_one (ps_if (pt_cmpR (op_neD hu64) (pe_def G__law_refused hr rfl (pa_c (pv 4) pa_nil)) (pe_compN (comp_scopeN 1 (N := ["j"]) (cap := []) rfl rfl rfl rfl (by decide +kernel) rfl rfl rfl) rfl (pi_range1 rfl hrange (pa_c pe_int pa_nil)) (fun _ _ _ _ => (pg_name (i := 0) (show List.Nodup (α := Str) ["j"] by decide +kernel) rfl (Or.inl (lookup_relabel_local rfl)) (Or.inr (lookup_relabel_local rfl)))) (fun _ _ _ _ => pts_nil) (fun _ _ _ _ => (pe_cmpR op_eq (pv 0) pe_int (nomark _)))) (nomark _))
  (pss_one (ps_ret pe_bl))
  pss_nil))
  (pss_one (ps_if (PW.pt (pw_or (pt_cmpR (op_neD hu64) (pe_defR G_read_log passX0 hr rfl (pa_c (pv 4) pa_nil)) (pv 5) (nomark _)) (pw_or1 (pt_cmpR op_ne (pe_def G_shown_log hr rfl (pa_c (pv 5) pa_nil)) (pv 4) (nomark _)))))
  (pss_one (ps_ret pe_bl))
  pss_nil)))))))))
  (pss_one (ps_ret pe_bl)))), ?_⟩
  walk_at "rz"
  refine ⟨a, _, rfl, hS, fun sc H1 hsc g1 h1 => ?_⟩
  rw [cut2, ← List.map_drop] at h1
  refine ⟨sc, ns.drop 2, rfl, SqL.of h1, by rw [List.length_drop]; omega, fun l as H2 hl g2 hg2 rf2 l2 => ?_⟩
  refine ⟨l, as, rfl, hg2, rf2, l2, fun tx H3 g3 ta tl => ?_⟩
  have gS : SqL K H3 a (ns.map V.int) := SqL.keep hS (g1.trans (g2.trans g3))
  clear h1 hS
  walk_at "rz"
  refine tfor_in ?_
  simp only [iRng1]
  walk_at "rz"
  refine for_range (n := 2) (LwI K a ns tx H3) ?_ ?_ ?_
  · unfold LwI
    exact ⟨_, _, _, _, rfl, Same.refl _, gS⟩
  · intro i σ H4 hi z
    unfold LwI at z
    obtain ⟨v2, v3, v4, v5, rfl, g4, s4⟩ := z
    clear gS
    walk_at "rz"
    refine ⟨a, ns, i, by rw [Int.zero_add], s4, fun c => ?_⟩
    refine ⟨tx, c, 100, rfl, by omega, by omega, ta, by omega, fun t1 H5 g5 ta1 tl1 => ?_⟩
    have s5 := SqL.keep s4 g5
    refine ⟨LvI a tx i c v5 H5, ?_, ?_⟩
    · clear s4 s5
      refine ⟨c, 120, rfl, by omega, by omega, fun n n0 n1 => ?_⟩
      walk_at "rz"
      refine ite2 (fun c1 => ?_) fun c1 => ?_
      · clear c1
        walk_at "rz"
        refine ⟨t1, c, 130, rfl, by omega, by omega, ta1, by omega, fun t2 H6 g6 ta2 tl2 => ?_⟩
        unfold LvI
        exact ⟨t2, rfl, g6, ta2, by omega⟩
      · clear c1
        walk_at "rz"
        unfold LvI
        exact ⟨t1, rfl, Same.refl _, ta1, by omega⟩
    intro σ H6 z
    unfold LvI at z
    obtain ⟨t2, rfl, g6, a2, l2⟩ := z
    have s6 := SqL.keep s5 g6
    have fin : ∀ v5 H', Same H6 H' → LwI K a ns tx H3 (i + 1) [some (.ref a), some (.str tx), some (.int (0 + i)), some (.int c), some (.str t2), v5] H' := fun v5 H' g' => by
      unfold LwI
      exact ⟨_, _, _, _, rfl, g4.trans (g5.trans (g6.trans g')), SqL.keep s6 g'⟩
    clear s4 s5 s6
    walk_at "rz"
    refine ⟨t2, rfl, by omega, a2, fun rs hrs l' as' H7 hl' g7 hg7 e7 => ?_, fun hn H7 g7 => ?_⟩
    · obtain ⟨lt, rS, rr⟩ := log_fine hrs a2
      have sh := sh_rows rS
      subst e7
      refine iteF' (by simp) ?_
      have nn : logV t2 ≠ none := by rw [hrs]; simp
      have un : ∀ rs', logV t2 = some rs' → rs' = as'.map (·.2) := fun rs' h => by rw [hrs] at h; injection h with h; exact h.symm
      clear hrs
      walk_at "rz"
      refine ⟨t2, rfl, by omega, a2, fun rs' hrs' l8 as8 H8 hl8 g8 hg8 e8 => ?_, fun hn => absurd hn nn⟩
      have e8 : as8.map (·.2) = as'.map (·.2) := by rw [e8]; exact un _ hrs'
      clear hrs' un nn
      walk_at "rz"
      refine ⟨_, _, hg8.rp e8, (hg7.same g8).rp rfl, sh, sh, ?_⟩
      rw [eqv_sh sh]
      walk_at "rz"
      refine ⟨l', as', rfl, hg7.same g8, fun q hq => rS _ (List.mem_map_of_mem hq), by rw [List.map_map] at rr; show room (as'.map fun q => rowT q.2) ≤ 1000000; exact Nat.le_trans rr (by omega), fun H9 g9 => ?_⟩
      rw [lt]
      have f9 := fin (some (.ref l')) H9 (g7.trans (g8.trans g9))
      clear fin
      walk_at "rz"
    · refine iteT' rfl ?_
      have f7 := fin (some .non)
      clear fin
      walk_at "rz"
      refine ⟨t2, rfl, by omega, a2, hn, fun p H8 g8 h8 => ?_⟩
      clear hn
      walk_at "rz"
      refine tcomp_in ?_
      simp only [iRng1]
      walk_at "rz"
      refine compJ_range (n := 12) (by omega) (fun i zs σ1 _ => σ1.length = 1 ∧ zs = ((List.range i).map fun j => V.bl (decide (((j : Nat) : Int) = 7)))) (fun _ _ => ⟨rfl, rfl⟩) ?_ ?_
      · rintro C i zs σ1 H' hi at1 ⟨s1, rfl⟩
        obtain ⟨v0, rfl⟩ : ∃ v0, σ1 = [v0] := by
          match σ1, s1 with
          | [v0], _ => exact ⟨v0, rfl⟩
        clear h8
        walk_at "rz"
        refine at1.put (Same.refl _) fun H5 mu => ⟨rfl, ?_⟩
        rw [List.range_succ, List.map_append]
        first | rfl | (simp)
      · rintro C zs σ1 H' hC g9 hy hle ⟨_, rfl⟩
        have h8' := g9 _ _ h8
        clear h8
        have e : ((List.range 12).map fun j => V.bl (decide (((j : Nat) : Int) = 7))) = flags := by decide +kernel
        rw [e] at hy
        have bl : ∀ l : List Bool, RpL K H' (l.map V.bl) (l.map PyData.bool) := fun l => by
          induction l with
          | nil => exact .nil
          | cons b l ih => exact .cons (.bl b) ih
        unfold flags at hy h8'
        refine ⟨_, _, .lst h8' (bl _), .lst hy (bl _), flags_sh, flags_sh, ?_⟩
        rw [eqv_sh flags_sh]
        have f9 := f7 H' (g7.trans (g8.trans g9))
        clear f7 bl hy h8'
        walk_at "rz"
  · intro σ H4 z
    unfold LwI at z
    obtain ⟨v2, v3, v4, v5, rfl, g4, s4⟩ := z
    clear gS s4
    walk_at "rz"
end
end K71

set_option Elab.async false
set_option linter.all false
set_option maxRecDepth 100000
set_option maxHeartbeats 4000000
namespace K71
open PySem L2
inductive FEs (w : World) : List DictEntry → List (Str × Addr) → Prop
  | nil : FEs w [] []
  | cons {x : Str} {t : Addr} {u : Tok} {es : List DictEntry} {l : List (Str × Addr)} : FEs w es l → FEs w (⟨keyH w (.inr x), .str x u, .ref t⟩ :: es) ((x, t) :: l)
inductive FTs (K : PySem.W.Frag) : List (Str × List Str) → List (Str × Addr) → Prop
  | nil : FTs K [] []
  | cons {x : Str} {t : Addr} {fs : List Str} {F : List (Str × List Str)} {l : List (Str × Addr)} : (∀ H : Hp, SqT K H t (fs.map V.str)) → FTs K F l → FTs K ((x, fs) :: F) ((x, t) :: l)
theorem FTs.get {K : PySem.W.Frag} : ∀ {F : List (Str × List Str)} {l : List (Str × Addr)}, FTs K F l → ∀ {x : Str} {fs : List Str}, F.lookup x = some fs → ∃ t, valV (l.map fun p => ((.inr p.1 : Key), V.ref p.2)) (.inr x) = some (.ref t) ∧ ∀ H : Hp, SqT K H t (fs.map V.str)
  | _, _, .nil, _, _, e => by cases e
  | _, _, .cons (x := y) (t := t) (fs := gs) (F := F) (l := l) h r, x, fs, e => by
    rw [List.lookup_cons] at e
    by_cases z : x = y
    · subst z
      rw [show (x == x) = true from by simp] at e
      cases e
      refine ⟨t, ?_, h⟩
      unfold valV
      rw [List.map_cons, List.find?_cons_of_pos (by simp)]
      rfl
    · rw [show (x == y) = false from by simpa using z] at e
      obtain ⟨t', h1, h2⟩ := r.get e
      refine ⟨t', ?_, h2⟩
      rw [← h1]
      unfold valV
      rw [List.map_cons, List.find?_cons_of_neg (by simp only [decide_eq_true_eq]; intro q; injection q with q; exact z q.symm)]
theorem FTs.no {K : PySem.W.Frag} : ∀ {F : List (Str × List Str)} {l : List (Str × Addr)}, FTs K F l → ∀ {x : Str}, F.lookup x = none → valV (l.map fun p => ((.inr p.1 : Key), V.ref p.2)) (.inr x) = none
  | _, _, .nil, _, _ => rfl
  | _, _, .cons (x := y) (t := t) (fs := gs) (F := F) (l := l) h r, x, e => by
    rw [List.lookup_cons] at e
    by_cases z : x = y
    · rw [show (x == y) = true from by simpa using z] at e
      cases e
    · rw [show (x == y) = false from by simpa using z] at e
      rw [List.map_cons, valV_neg (fun q => z (Sum.inr.inj q).symm)]
      exact r.no e
theorem FTs.keys {K : PySem.W.Frag} : ∀ {F : List (Str × List Str)} {l : List (Str × Addr)}, FTs K F l → l.map (·.1) = F.map (·.1)
  | _, _, .nil => rfl
  | _, _, .cons h r => by rw [List.map_cons, List.map_cons, r.keys]
theorem FEs.dict {w : World} (P : Program) : ∀ {es : List DictEntry} {l : List (Str × Addr)}, FEs w es l → (∀ e ∈ es, ∃ k, (mixKind P w).is k e.key = true ∧ e.hash = (mixKind P w).hash k) ∧ Pairs (mixKind P w) es (l.map fun p => ((.inr p.1 : Key), Value.ref p.2))
  | _, _, .nil => ⟨fun e he => absurd he List.not_mem_nil, .nil⟩
  | _, _, .cons (x := x) (t := t) (u := u) r => by
    obtain ⟨h1, h2⟩ := r.dict P
    have ki : (mixKind P w).is (.inr x) (.str x u) = true := by
      show Value.isStrOf x (.str x u) = true
      simp [Value.isStrOf]
    refine ⟨fun e he => ?_, .cons ki rfl h2⟩
    rcases List.mem_cons.mp he with rfl | he
    · exact ⟨.inr x, ki, rfl⟩
    · exact h1 e he
theorem fo_of {P : Program} {w : World} {K : PySem.W.Frag} {a : Addr} {es : Array DictEntry} {ep : Nat} {l : List (Str × Addr)} (lk : K.lookup a = some ⟨.type "dict", none, .dict es ep, #[]⟩) (ns : (a == sysModules) = false) (fe : FEs w es.toList l) (ft : FTs K formsL l) : Fo P w K a := by
  obtain ⟨h1, h2⟩ := fe.dict P
  refine ⟨l.map fun p => ((.inr p.1 : Key), V.ref p.2), ⟨_, l.map fun p => ((.inr p.1 : Key), Value.ref p.2), lk, ns, ?_, fun h hh => ⟨_, es, ep, hh, ⟨rfl, rfl, rfl⟩, rfl, fun e he => h1 e (Array.mem_toList_iff.mpr he), h2, ?_⟩⟩, fun x fs e => ft.get e, fun x e => ft.no e⟩
  · clear h1 h2 fe ft lk ns
    induction l with
    | nil => exact .nil
    | cons p l ih => exact .cons ⟨rfl, rfl⟩ ih
  · have e : ((l.map fun p => ((.inr p.1 : Key), Value.ref p.2)).map (·.1)) = (l.map (·.1)).map (Sum.inr : Str → Key) := by rw [List.map_map, List.map_map]; rfl
    rw [e, ft.keys]
    decide +kernel
end K71

set_option Elab.async false
set_option linter.all false
set_option maxRecDepth 100000
set_option maxHeartbeats 4000000
namespace K71
open PySem L2
theorem forms_see {w : World} {K : PySem.W.Frag} : ∀ {es : List DictEntry} {F : List (Str × List Str)},
    (es.map fun (e : DictEntry) => (e.hash, (match e.key with | Value.str x _ => some x | _ => none), (match e.val with | Value.ref t => HD.tupLook K t | _ => none))) = (F.map fun p => (keyH w (.inr p.1), some p.1, some (Value.type "tuple", (p.2.map V.str).map some))) →
    (∀ p ∈ F, p.2.length ≤ 1000) → ∃ l, FEs w es l ∧ FTs K F l
  | [], [], _, _ => ⟨[], .nil, .nil⟩
  | [], _ :: _, h, _ => by cases h
  | _ :: _, [], h, _ => by cases h
  | e :: es, (x, fs) :: F, h, hl => by
    rw [List.map_cons, List.map_cons] at h
    obtain ⟨h1, h2⟩ := List.cons.inj h
    obtain ⟨l, a, b⟩ := forms_see h2 fun p hp => hl p (List.mem_cons_of_mem _ hp)
    obtain ⟨hs, ky, vl⟩ := e
    simp only [Prod.mk.injEq] at h1
    obtain ⟨rfl, hk, hv⟩ := h1
    cases ky <;> simp only [reduceCtorEq, Option.some.injEq] at hk
    subst hk
    cases vl <;> simp only [reduceCtorEq] at hv
    rename_i t
    exact ⟨(_, t) :: l, .cons a, .cons (fun H => HD.sqT_of hv (by rw [List.length_map]; exact Nat.le_trans (hl _ List.mem_cons_self) (by decide)) H) b⟩
theorem fo_see {P : Program} {w : World} {K : PySem.W.Frag} {a : Addr} (e : HD.dctLook K a = some (Value.type "dict", none, #[], formsL.map fun p => (keyH w (.inr p.1), some p.1, some (Value.type "tuple", (p.2.map V.str).map some)))) (ns : (a == sysModules) = false) : Fo P w K a := by
  unfold HD.dctLook at e
  split at e
  · rename_i c d es n sl hk
    simp only [Option.some.injEq, Prod.mk.injEq] at e
    obtain ⟨rfl, rfl, rfl, e⟩ := e
    obtain ⟨l, fe, ft⟩ := forms_see e (by decide)
    exact fo_of hk ns fe ft
  · cases e
end K71

set_option Elab.async false
set_option linter.all false
set_option maxRecDepth 100000
set_option maxHeartbeats 4000000
namespace K71
open PySem L2
def sees : List Nat := [19, 20, 21, 25, 26, 27, 28, 29, 30, 32, 33, 34, 35, 36, 37, 38, 39, 40, 41, 42, 43, 44, 45, 46, 47]
noncomputable def see (p : Program) (K : PySem.W.Frag) := (sees.map fun i => HD.defLook K (p.main.body.getD i (.Pass ⟨0, 0, 0, 0⟩)), HD.All [HD.isNo K "len",
    HD.isNo K "all",
    HD.isNo K "int",
    HD.isNo K "range",
    HD.isNo K "str",
    HD.isNo K "isinstance",
    HD.isNo K "bool",
    HD.isNo K "tuple",
    HD.isNo K "list",
    HD.isNo K "zip",
    HD.isNo K "min",
    HD.isNo K "ValueError",
    HD.isInt K "MOST_LETTERS" (8),
    HD.isInt K "MOST_FIGURES_words" (6),
    HD.isInt K "MOST_FIGURES_logs" (7),
    HD.isTxt K "LETTERS" "abcdefghijklmnopqrstuvwxyz",
    HD.isTxt K "FIGURES" "0123456789",
    HD.isRef K "NO_NAMES",
    HD.isRef K "FORMS",
    !(HD.adr K "FORMS" == sysModules),
    HD.isRef K "NoRow",
    HD.isRef K "NoPlace",
    HD.isRef K "TooLong",
    HD.isRef K "TooDeep",
    HD.isRef K "NoMeasure",
    HD.isRef K "Twice",
    HD.isRef K "Open",
    HD.isRef K "NoLog",
    HD.isRef K "NoForm",
    HD.isRef K "NoneYet",
    HD.isRef K "NoThing",
    HD.isRef K "RunError",
    PySem.W.excIn K (HD.adr K "NoLog") veM "ValueError.__new__",
    HD.excLook K (HD.adr K "NoLog"),
    PySem.W.exmOne K (.ref (HD.adr K "NoLog")) (.ref (HD.adr K "RunError")) == some true,
    PySem.W.kitOne K (.ref (HD.adr K "NoLog")) (.type "ValueError") == some true,
    PySem.W.kitOne K (.ref (HD.adr K "NoLog")) (.ref (HD.adr K "NoRow")) == some false,
    PySem.W.kitOne K (.ref (HD.adr K "NoLog")) (.ref (HD.adr K "NoPlace")) == some false,
    PySem.W.kitOne K (.ref (HD.adr K "NoLog")) (.ref (HD.adr K "TooLong")) == some false,
    PySem.W.kitOne K (.ref (HD.adr K "NoLog")) (.ref (HD.adr K "TooDeep")) == some false,
    PySem.W.kitOne K (.ref (HD.adr K "NoLog")) (.ref (HD.adr K "NoMeasure")) == some false,
    PySem.W.kitOne K (.ref (HD.adr K "NoLog")) (.ref (HD.adr K "Twice")) == some false,
    PySem.W.kitOne K (.ref (HD.adr K "NoLog")) (.ref (HD.adr K "Open")) == some false,
    PySem.W.kitOne K (.ref (HD.adr K "NoLog")) (.ref (HD.adr K "NoLog")) == some true,
    PySem.W.kitOne K (.ref (HD.adr K "NoLog")) (.ref (HD.adr K "NoForm")) == some false,
    PySem.W.kitOne K (.ref (HD.adr K "NoLog")) (.ref (HD.adr K "NoneYet")) == some false,
    PySem.W.kitOne K (.ref (HD.adr K "NoLog")) (.ref (HD.adr K "NoThing")) == some false,
    PySem.W.kitOne K (.ref (HD.adr K "NoLog")) (.ref (HD.adr K "RunError")) == some true],
    HD.tupLook K (HD.adr K "NO_NAMES"),
    HD.dctLook K (HD.adr K "FORMS"))
noncomputable def saw (p : Program) (w : World) := (sees.map fun i => HD.fnSaw (HD.defName (p.main.body.getD i (.Pass ⟨0, 0, 0, 0⟩))) (HD.defName (p.main.body.getD i (.Pass ⟨0, 0, 0, 0⟩))) (p.main.body.getD i (.Pass ⟨0, 0, 0, 0⟩)), true,
    (some (Value.type "tuple", noN.map some) : Option (Value × List (Option V))),
    (some (Value.type "dict", none, #[], formsL.map fun p => (keyH w (.inr p.1), some p.1, some (Value.type "tuple", (p.2.map V.str).map some))) : Option (Value × Option Addr × Array (Option Value) × List (Int × Option Str × Option (Value × List (Option V))))))
theorem all_mk {l : PySem.W.OpenLaw} {w : World} {K : PySem.W.Frag} {h : Heap} {mg : Str → Option Value} {fa : Addr} (S : see PySem.Challenge.pw_rerunyard_k71_texts_of_no_log K = saw PySem.Challenge.pw_rerunyard_k71_texts_of_no_log w) (X : K.In h) (G : h.Ns mainGlobals mg) (hfa : mg "law" = some (.ref fa)) :
    ∃ fd : FuncData, (∀ (s : Shared) (v : Value), BindsTo s fd ⟨[v], []⟩ [("script", v)]) ∧ ∀ base : Heap, K.In base → base.Ns mainGlobals mg → FnOk l.prog w K mg base CX0 8 fa fd ["script"] (spLaw K) := by
  have E := congrArg Prod.fst S
  have B := congrArg (fun x => x.2.1) S
  have C0 := congrArg (fun x => x.2.2.1) S
  have C1 := congrArg (fun x => x.2.2.2) S
  clear S
  obtain ⟨e, E⟩ := HD.fst_of E
  have A_is_name : DefAt K mg "is_name" s_is_name ["word"] := HD.defAt_of X G e rfl fun _ _ _ _ _ _ us hl => match us, hl with | [_], _ => rfl
  clear e
  obtain ⟨e, E⟩ := HD.fst_of E
  have A_is_number : DefAt K mg "is_number" s_is_number ["word"] := HD.defAt_of X G e rfl fun _ _ _ _ _ _ us hl => match us, hl with | [_], _ => rfl
  clear e
  obtain ⟨e, E⟩ := HD.fst_of E
  have A_is_whole : DefAt K mg "is_whole" s_is_whole ["word", "most"] := HD.defAt_of X G e rfl fun _ _ _ _ _ _ us hl => match us, hl with | [_, _], _ => rfl
  clear e
  obtain ⟨e, E⟩ := HD.fst_of E
  have A_shown_log : DefAt K mg "shown_log" s_shown_log ["log"] := HD.defAt_of X G e rfl fun _ _ _ _ _ _ us hl => match us, hl with | [_], _ => rfl
  clear e
  obtain ⟨e, E⟩ := HD.fst_of E
  have A_shown_row : DefAt K mg "shown_row" s_shown_row ["row"] := HD.defAt_of X G e rfl fun _ _ _ _ _ _ us hl => match us, hl with | [_], _ => rfl
  clear e
  obtain ⟨e, E⟩ := HD.fst_of E
  have A_read_log : DefAt K mg "read_log" s_read_log ["text"] := HD.defAt_of X G e rfl fun _ _ _ _ _ _ us hl => match us, hl with | [_], _ => rfl
  clear e
  obtain ⟨e, E⟩ := HD.fst_of E
  have A_read_row : DefAt K mg "read_row" s_read_row ["row"] := HD.defAt_of X G e rfl fun _ _ _ _ _ _ us hl => match us, hl with | [_], _ => rfl
  clear e
  obtain ⟨e, E⟩ := HD.fst_of E
  have A_part : DefAt K mg "part" s_part ["kind", "word"] := HD.defAt_of X G e rfl fun _ _ _ _ _ _ us hl => match us, hl with | [_, _], _ => rfl
  clear e
  obtain ⟨e, E⟩ := HD.fst_of E
  have A_fits : DefAt K mg "fits" s_fits ["kind", "word"] := HD.defAt_of X G e rfl fun _ _ _ _ _ _ us hl => match us, hl with | [_, _], _ => rfl
  clear e
  obtain ⟨e, E⟩ := HD.fst_of E
  have A__law_stir : DefAt K mg "_law_stir" s__law_stir ["cell", "k"] := HD.defAt_of X G e rfl fun _ _ _ _ _ _ us hl => match us, hl with | [_, _], _ => rfl
  clear e
  obtain ⟨e, E⟩ := HD.fst_of E
  have A__law_name : DefAt K mg "_law_name" s__law_name ["number"] := HD.defAt_of X G e rfl fun _ _ _ _ _ _ us hl => match us, hl with | [_], _ => rfl
  clear e
  obtain ⟨e, E⟩ := HD.fst_of E
  have A__law_row : DefAt K mg "_law_row" s__law_row ["cell", "moment"] := HD.defAt_of X G e rfl fun _ _ _ _ _ _ us hl => match us, hl with | [_, _], _ => rfl
  clear e
  obtain ⟨e, E⟩ := HD.fst_of E
  have A__law_log : DefAt K mg "_law_log" s__law_log ["script"] := HD.defAt_of X G e rfl fun _ _ _ _ _ _ us hl => match us, hl with | [_], _ => rfl
  clear e
  obtain ⟨e, E⟩ := HD.fst_of E
  have A__law_text : DefAt K mg "_law_text" s__law_text ["log"] := HD.defAt_of X G e rfl fun _ _ _ _ _ _ us hl => match us, hl with | [_], _ => rfl
  clear e
  obtain ⟨e, E⟩ := HD.fst_of E
  have A__law_refused : DefAt K mg "_law_refused" s__law_refused ["text"] := HD.defAt_of X G e rfl fun _ _ _ _ _ _ us hl => match us, hl with | [_], _ => rfl
  clear e
  obtain ⟨e, E⟩ := HD.fst_of E
  have A__law_spoilt_word : DefAt K mg "_law_spoilt_word" s__law_spoilt_word ["words", "cell", "k"] := HD.defAt_of X G e rfl fun _ _ _ _ _ _ us hl => match us, hl with | [_, _, _], _ => rfl
  clear e
  obtain ⟨e, E⟩ := HD.fst_of E
  have A__law_spoilt_rows : DefAt K mg "_law_spoilt_rows" s__law_spoilt_rows ["rows", "cell", "k"] := HD.defAt_of X G e rfl fun _ _ _ _ _ _ us hl => match us, hl with | [_, _, _], _ => rfl
  clear e
  obtain ⟨e, E⟩ := HD.fst_of E
  have A__law_spoilt : DefAt K mg "_law_spoilt" s__law_spoilt ["text", "cell", "k"] := HD.defAt_of X G e rfl fun _ _ _ _ _ _ us hl => match us, hl with | [_, _, _], _ => rfl
  clear e
  obtain ⟨e, E⟩ := HD.fst_of E
  have A__law_number : DefAt K mg "_law_number" s__law_number ["word", "below"] := HD.defAt_of X G e rfl fun _ _ _ _ _ _ us hl => match us, hl with | [_, _], _ => rfl
  clear e
  obtain ⟨e, E⟩ := HD.fst_of E
  have A__law_is_name : DefAt K mg "_law_is_name" s__law_is_name ["word"] := HD.defAt_of X G e rfl fun _ _ _ _ _ _ us hl => match us, hl with | [_], _ => rfl
  clear e
  obtain ⟨e, E⟩ := HD.fst_of E
  have A__law_part : DefAt K mg "_law_part" s__law_part ["kind", "word"] := HD.defAt_of X G e rfl fun _ _ _ _ _ _ us hl => match us, hl with | [_, _], _ => rfl
  clear e
  obtain ⟨e, E⟩ := HD.fst_of E
  have A__law_row_in : DefAt K mg "_law_row_in" s__law_row_in ["words"] := HD.defAt_of X G e rfl fun _ _ _ _ _ _ us hl => match us, hl with | [_], _ => rfl
  clear e
  obtain ⟨e, E⟩ := HD.fst_of E
  have A__law_due : DefAt K mg "_law_due" s__law_due ["text"] := HD.defAt_of X G e rfl fun _ _ _ _ _ _ us hl => match us, hl with | [_], _ => rfl
  clear e
  obtain ⟨e, E⟩ := HD.fst_of E
  have A__law_cell_at : DefAt K mg "_law_cell_at" s__law_cell_at ["script", "k"] := HD.defAt_of X G e rfl fun _ _ _ _ _ _ us hl => match us, hl with | [_, _], _ => rfl
  clear e
  obtain ⟨e, E⟩ := HD.fst_of E
  obtain ⟨fd, FL, hbi⟩ := HD.law_fun (st := s_law) (x := "law") (y := "script") X G e rfl hfa fun _ _ _ _ _ _ s v => .of_eq rfl
  clear e
  clear E
  obtain ⟨b, B⟩ := HD.all_cons B
  have hlen := HD.no_of X G b
  clear b
  obtain ⟨b, B⟩ := HD.all_cons B
  have hall := HD.no_of X G b
  clear b
  obtain ⟨b, B⟩ := HD.all_cons B
  have hint := HD.no_of X G b
  clear b
  obtain ⟨b, B⟩ := HD.all_cons B
  have hrange := HD.no_of X G b
  clear b
  obtain ⟨b, B⟩ := HD.all_cons B
  have hstr := HD.no_of X G b
  clear b
  obtain ⟨b, B⟩ := HD.all_cons B
  have hisinstance := HD.no_of X G b
  clear b
  obtain ⟨b, B⟩ := HD.all_cons B
  have hbool := HD.no_of X G b
  clear b
  obtain ⟨b, B⟩ := HD.all_cons B
  have htuple := HD.no_of X G b
  clear b
  obtain ⟨b, B⟩ := HD.all_cons B
  have hlist := HD.no_of X G b
  clear b
  obtain ⟨b, B⟩ := HD.all_cons B
  have hzip := HD.no_of X G b
  clear b
  obtain ⟨b, B⟩ := HD.all_cons B
  have hmin := HD.no_of X G b
  clear b
  obtain ⟨b, B⟩ := HD.all_cons B
  have hValueError := HD.no_of X G b
  clear b
  obtain ⟨b, B⟩ := HD.all_cons B
  obtain ⟨tk_MOST_LETTERS, g_MOST_LETTERS⟩ := HD.int_of X G b
  clear b
  obtain ⟨b, B⟩ := HD.all_cons B
  obtain ⟨tk_MOST_FIGURES_words, g_MOST_FIGURES_words⟩ := HD.int_of X G b
  clear b
  obtain ⟨b, B⟩ := HD.all_cons B
  obtain ⟨tk_MOST_FIGURES_logs, g_MOST_FIGURES_logs⟩ := HD.int_of X G b
  clear b
  obtain ⟨b, B⟩ := HD.all_cons B
  obtain ⟨tk_LETTERS, g_LETTERS⟩ := HD.txt_of X G b
  clear b
  obtain ⟨b, B⟩ := HD.all_cons B
  obtain ⟨tk_FIGURES, g_FIGURES⟩ := HD.txt_of X G b
  clear b
  obtain ⟨b, B⟩ := HD.all_cons B
  have gl_NN := PySem.W.mg_of X G (HD.ref_of b)
  clear b
  obtain ⟨b, B⟩ := HD.all_cons B
  have gl_Fo := PySem.W.mg_of X G (HD.ref_of b)
  clear b
  obtain ⟨b, B⟩ := HD.all_cons B
  have ns_Fo : (HD.adr K "FORMS" == sysModules) = false := by simpa using b
  clear b
  obtain ⟨b, B⟩ := HD.all_cons B
  have gl_NoRow := PySem.W.mg_of X G (HD.ref_of b)
  clear b
  obtain ⟨b, B⟩ := HD.all_cons B
  have gl_NoPlace := PySem.W.mg_of X G (HD.ref_of b)
  clear b
  obtain ⟨b, B⟩ := HD.all_cons B
  have gl_TooLong := PySem.W.mg_of X G (HD.ref_of b)
  clear b
  obtain ⟨b, B⟩ := HD.all_cons B
  have gl_TooDeep := PySem.W.mg_of X G (HD.ref_of b)
  clear b
  obtain ⟨b, B⟩ := HD.all_cons B
  have gl_NoMeasure := PySem.W.mg_of X G (HD.ref_of b)
  clear b
  obtain ⟨b, B⟩ := HD.all_cons B
  have gl_Twice := PySem.W.mg_of X G (HD.ref_of b)
  clear b
  obtain ⟨b, B⟩ := HD.all_cons B
  have gl_Open := PySem.W.mg_of X G (HD.ref_of b)
  clear b
  obtain ⟨b, B⟩ := HD.all_cons B
  have gl_NoLog := PySem.W.mg_of X G (HD.ref_of b)
  clear b
  obtain ⟨b, B⟩ := HD.all_cons B
  have gl_NoForm := PySem.W.mg_of X G (HD.ref_of b)
  clear b
  obtain ⟨b, B⟩ := HD.all_cons B
  have gl_NoneYet := PySem.W.mg_of X G (HD.ref_of b)
  clear b
  obtain ⟨b, B⟩ := HD.all_cons B
  have gl_NoThing := PySem.W.mg_of X G (HD.ref_of b)
  clear b
  obtain ⟨b, B⟩ := HD.all_cons B
  have gl_RunError := PySem.W.mg_of X G (HD.ref_of b)
  clear b
  obtain ⟨b, B⟩ := HD.all_cons B
  have ex0 := b
  clear b
  obtain ⟨b, B⟩ := HD.all_cons B
  have pl := HD.plainX_of b
  clear b
  obtain ⟨b, B⟩ := HD.all_cons B
  have hex := beq_iff_eq.mp b
  clear b
  obtain ⟨b, B⟩ := HD.all_cons B
  have hve := beq_iff_eq.mp b
  clear b
  obtain ⟨b, B⟩ := HD.all_cons B
  have E_NoRow : Errs K mg (HD.adr K "NoLog") "NoRow" false (HD.adr K "NoRow") := ⟨gl_NoRow, beq_iff_eq.mp b⟩
  clear b
  obtain ⟨b, B⟩ := HD.all_cons B
  have E_NoPlace : Errs K mg (HD.adr K "NoLog") "NoPlace" false (HD.adr K "NoPlace") := ⟨gl_NoPlace, beq_iff_eq.mp b⟩
  clear b
  obtain ⟨b, B⟩ := HD.all_cons B
  have E_TooLong : Errs K mg (HD.adr K "NoLog") "TooLong" false (HD.adr K "TooLong") := ⟨gl_TooLong, beq_iff_eq.mp b⟩
  clear b
  obtain ⟨b, B⟩ := HD.all_cons B
  have E_TooDeep : Errs K mg (HD.adr K "NoLog") "TooDeep" false (HD.adr K "TooDeep") := ⟨gl_TooDeep, beq_iff_eq.mp b⟩
  clear b
  obtain ⟨b, B⟩ := HD.all_cons B
  have E_NoMeasure : Errs K mg (HD.adr K "NoLog") "NoMeasure" false (HD.adr K "NoMeasure") := ⟨gl_NoMeasure, beq_iff_eq.mp b⟩
  clear b
  obtain ⟨b, B⟩ := HD.all_cons B
  have E_Twice : Errs K mg (HD.adr K "NoLog") "Twice" false (HD.adr K "Twice") := ⟨gl_Twice, beq_iff_eq.mp b⟩
  clear b
  obtain ⟨b, B⟩ := HD.all_cons B
  have E_Open : Errs K mg (HD.adr K "NoLog") "Open" false (HD.adr K "Open") := ⟨gl_Open, beq_iff_eq.mp b⟩
  clear b
  obtain ⟨b, B⟩ := HD.all_cons B
  have E_NoLog : Errs K mg (HD.adr K "NoLog") "NoLog" true (HD.adr K "NoLog") := ⟨gl_NoLog, beq_iff_eq.mp b⟩
  clear b
  obtain ⟨b, B⟩ := HD.all_cons B
  have E_NoForm : Errs K mg (HD.adr K "NoLog") "NoForm" false (HD.adr K "NoForm") := ⟨gl_NoForm, beq_iff_eq.mp b⟩
  clear b
  obtain ⟨b, B⟩ := HD.all_cons B
  have E_NoneYet : Errs K mg (HD.adr K "NoLog") "NoneYet" false (HD.adr K "NoneYet") := ⟨gl_NoneYet, beq_iff_eq.mp b⟩
  clear b
  obtain ⟨b, B⟩ := HD.all_cons B
  have E_NoThing : Errs K mg (HD.adr K "NoLog") "NoThing" false (HD.adr K "NoThing") := ⟨gl_NoThing, beq_iff_eq.mp b⟩
  clear b
  obtain ⟨b, B⟩ := HD.all_cons B
  have E_RunError : Errs K mg (HD.adr K "NoLog") "RunError" true (HD.adr K "RunError") := ⟨gl_RunError, beq_iff_eq.mp b⟩
  clear b
  clear B
  have qNN : ∀ H : Hp, SqT K H (HD.adr K "NO_NAMES") noN := HD.sqT_of C0 (by decide)
  have fo : Fo l.prog w K (HD.adr K "FORMS") := fo_see C1 ns_Fo
  refine ⟨fd, hbi, fun base _ _ => ?_⟩
  exact by
    have O_NoLog : ExcAt K mg "NoLog" (HD.adr K "NoLog") := ⟨gl_NoLog, ex0⟩
    have Gname := ok_is_name (P := l.prog) (w := w) (base := base) A_is_name g_MOST_LETTERS g_LETTERS gl_NN qNN hlen hall
    have Gwh := ok_is_whole (P := l.prog) (w := w) (base := base) A_is_whole g_FIGURES hlen hall
    have Gnum := ok_is_number A_is_number g_MOST_FIGURES_words Gwh
    have Gfits := ok_fits A_fits g_MOST_FIGURES_logs Gname Gnum Gwh
    have Gpart := ok_part A_part Gfits hint O_NoLog
    have Grow := ok_row A_read_row Gpart gl_Fo fo hlen hzip htuple O_NoLog
    have Grl := ok_rl A_read_log Grow O_NoLog
    have Gsr := ok_sr (P := l.prog) (w := w) (base := base) A_shown_row hstr
    have Gsl := ok_sl A_shown_log Gsr
    have Gstir := ok_stir (P := l.prog) (w := w) (base := base) A__law_stir
    have Gnm := ok_nm (P := l.prog) (w := w) (base := base) A__law_name hrange
    have Grw := ok_rw A__law_row Gstir Gnm
    have Glg := ok_lg A__law_log Gstir Grw hmin
    have Gtx := ok_tx (P := l.prog) (w := w) (base := base) A__law_text hstr hint
    have Gno := ok_number (P := l.prog) (w := w) (base := base) A__law_number hlen hint
    have Gin := ok_isname (P := l.prog) (w := w) (base := base) A__law_is_name hlen
    have Gpt := ok_lpart A__law_part Gno Gin hint
    have Gri := ok_rowin A__law_row_in Gno Gpt hlen hzip htuple
    have Gdue := ok_due A__law_due Gri
    have Gsw := ok_sw A__law_spoilt_word Gstir hlen
    have Gss := ok_srs A__law_spoilt_rows Gstir hlen
    have Gsp := ok_sp A__law_spoilt Gstir Gsw Gss hlen
    have Gca := ok_cell (P := l.prog) (w := w) (base := base) A__law_cell_at hlen
    have Gref := ok_refused A__law_refused hisinstance hValueError pl E_RunError hex hve E_NoRow E_NoPlace E_TooLong E_TooDeep E_NoMeasure E_Twice E_Open E_NoLog E_NoForm E_NoneYet E_NoThing Grl
    exact ok_law FL Glg Gtx Gca Gsp Gstir Gdue Gref Grl Gsl hrange
/-- the law is well said (the twin of its text is laid here) -/
theorem said_of (h : PySem.Challenge.rw_rerunyard_k71_texts_of_no_log.row.wellSaid = true → PySem.Challenge.rw_rerunyard_k71_texts_of_no_log.row.Holds) : PySem.Challenge.rw_rerunyard_k71_texts_of_no_log.Holds := by
  open PySem.W in o_law
  exact h (by assumption)
abbrev Runs (p : Program) (w : World) : Prop := ∀ os : OsState, HD.runQ p w 200 (HD.lookK p (PySem.W.view p [47]) (HD.ofOthers p "law") (fun _ => true) (see p) w) 40 (HD.begin0 w os) (PySem.W.topStub p) = some (true, PySem.W.openGood (PySem.W.view p [47]) (HD.ofOthers p "law"), saw p w)
theorem run_f (w : World) : Runs PySem.W.Fast.tw12334956088154256467 (w.withFollow "special-get-raises" false) := fun os => by kernel_rfl
theorem run_t (w : World) : Runs PySem.W.Fast.tw12334956088154256467 (w.withFollow "special-get-raises" true) := fun os => by kernel_rfl
theorem runs (w : World) : Runs PySem.Challenge.pw_rerunyard_k71_texts_of_no_log w := HD.turn_of (P := fun p => Runs p w) PySem.W.Fast.te12334956088154256467 ((PySem.W.byRow2 "special-get-raises" (P := fun w => Runs PySem.W.Fast.tw12334956088154256467 w) run_f run_t) w)
end K71
open PySem PySem.W PyProof.Rows
set_option maxRecDepth 100000 in
set_option maxHeartbeats 0 in
theorem PySem.Challenge.cw_rerunyard_k71_texts_of_no_log_holds : PySem.Challenge.rw_rerunyard_k71_texts_of_no_log.Holds := by
  refine K71.said_of fun said => ?_
  refine HD.holds_see (l := PySem.Challenge.rw_rerunyard_k71_texts_of_no_log) (i := 47) (N := 8000) (m := 200) (n := 40) (see := K71.see PySem.Challenge.pw_rerunyard_k71_texts_of_no_log) (saw := K71.saw PySem.Challenge.pw_rerunyard_k71_texts_of_no_log) said rfl (fun _ => rfl) rfl rfl K71.runs (by rfl) (by rfl) (by rfl) (by decide +kernel) ⟨rfl, rfl, rfl, rfl, rfl, by decide +kernel⟩ ?hw ?hc
  case hw => w_witness2
  case hc => exact HD.walk_see (l := PySem.Challenge.rw_rerunyard_k71_texts_of_no_log) (n := 63) (k := 8) (x := "script") (CX := L2.CX0) (sp := K71.spLaw) rfl (by decide) rfl ⟨rfl, by decide, by decide⟩ (fun w K mg fa h S X G hfa => K71.all_mk S X G hfa) (fun _ _ a ns hl _ hS => ⟨a, ns, rfl, hS, hl, fun _ => rfl⟩) fun _ _ _ _ z => z
#print axioms PySem.Challenge.cw_rerunyard_k71_texts_of_no_log_holds
