import PyProof.Rows.All
import Wide.All
import OpenK.AllK
import Wide.FinOn
import Lean
import PyProof.EqAt
import PyProof.EqKinds
import PyProof.TupleCall
import PyProof.ExcAttrAll.ValueError
import PySem.Challenge.RW_rerunyard_k05_whole_words_worth
set_option Elab.async false
set_option linter.all false
set_option maxRecDepth 100000
/-! THE HAND LAYER, for ints, bools, texts, own classes, LISTS and tuples (index, slices, in, append, pop ..), calls, loops. Paste it whole ahead of your own text; what your proof does not reach may be deleted. -/
namespace L2
open PySem PySem.Spec PyProof.Rows

abbrev Key := Sum Int Str
def keyIs : Key → Value → Bool
  | .inl k, v => Value.isInt k v
  | .inr x, v => Value.isStrOf x v
def keyH (w : World) : Key → Int
  | .inl k => hashInt k
  | .inr x => hashStr w x
theorem keyIs_shape : ∀ {k : Key} {v : Value}, keyIs k v = true → (∃ i t, k = Sum.inl i ∧ v = Value.int i t) ∨ (∃ x t, k = Sum.inr x ∧ v = Value.str x t)
  | .inl i, v, h => by
    obtain ⟨t, e⟩ := Value.isInt_shape (k := i) (v := v) h
    exact .inl ⟨i, t, rfl, e⟩
  | .inr x, v, h => by
    obtain ⟨t, e⟩ := Value.isStrOf_shape (x := x) (v := v) h
    exact .inr ⟨x, t, rfl, e⟩
theorem keyIs_int (i : Int) (t : Tok) : keyIs (.inl i) (.int i t) = true := by simp [keyIs, Value.isInt]
theorem keyIs_str (x : Str) (t : Tok) : keyIs (.inr x) (.str x t) = true := by simp [keyIs, Value.isStrOf]
theorem key_ll (a b : Int) : decide ((Sum.inl a : Key) = Sum.inl b) = (a == b) := by
  by_cases e : a = b
  · subst e; simp
  · have h : ¬ (Sum.inl a : Key) = Sum.inl b := fun q => e (Sum.inl.inj q)
    rw [decide_eq_false h]
    exact (beq_eq_false_iff_ne.mpr e).symm
theorem key_rr (a b : Str) : decide ((Sum.inr a : Key) = Sum.inr b) = decide (a = b) := by
  by_cases e : a = b
  · subst e; simp
  · have h : ¬ (Sum.inr a : Key) = Sum.inr b := fun q => e (Sum.inr.inj q)
    rw [decide_eq_false h, decide_eq_false e]
theorem key_lr (a : Int) (b : Str) : decide ((Sum.inl a : Key) = Sum.inr b) = false := decide_eq_false (fun q => nomatch q)
theorem key_rl (a : Str) (b : Int) : decide ((Sum.inr a : Key) = Sum.inl b) = false := decide_eq_false (fun q => nomatch q)

def mixKind (prog : Program) (w : World) : PySem.KeyKind prog w Key where
  is := keyIs
  hash := keyH w
  inj := fun v a b ha hb => by
    rcases keyIs_shape ha with ⟨i, t, rfl, rfl⟩ | ⟨x, t, rfl, rfl⟩
    · rcases keyIs_shape hb with ⟨j, u, rfl, e⟩ | ⟨y, u, rfl, e⟩
      · injection e with e1 _; rw [e1]
      · exact nomatch e
    · rcases keyIs_shape hb with ⟨j, u, rfl, e⟩ | ⟨y, u, rfl, e⟩
      · exact nomatch e
      · injection e with e1 _; rw [e1]
  byValue := fun k v h => by
    rcases keyIs_shape h with ⟨i, t, rfl, rfl⟩ | ⟨x, t, rfl, rfl⟩ <;> rfl
  pyHash := fun hv h => by
    rcases keyIs_shape hv with ⟨i, t, rfl, rfl⟩ | ⟨x, t, rfl, rfl⟩
    · exact wpAny_pyHash_int h
    · exact wpAny_pyHash_str h
  eqBool := fun hu hv h => by
    rcases keyIs_shape hu with ⟨i, t, rfl, rfl⟩ | ⟨x, t, rfl, rfl⟩
    · rcases keyIs_shape hv with ⟨j, u, rfl, rfl⟩ | ⟨y, u, rfl, rfl⟩
      · rw [key_ll] at h; exact wpAny_eqBool_int h
      · rw [key_lr] at h; exact SeqAt.EqAt.int_str i t y u _ _ _ _ h
    · rcases keyIs_shape hv with ⟨j, u, rfl, rfl⟩ | ⟨y, u, rfl, rfl⟩
      · rw [key_rl] at h; exact SeqAt.EqAt.str_int x t j u _ _ _ _ h
      · rw [key_rr] at h; exact wpAny_eqBool_str h
  «strs» := fun k x t v h => by
    rcases keyIs_shape h with ⟨i, u, rfl, e⟩ | ⟨y, u, rfl, e⟩
    · exact nomatch e
    · injection e with e1 _
      subst e1
      cases v <;> rfl

theorem mixKind_int (prog : Program) (w : World) (i : Int) (t : Tok) : (mixKind prog w).is (.inl i) (.int i t) = true := keyIs_int i t
theorem mixKind_str (prog : Program) (w : World) (x : Str) (t : Tok) : (mixKind prog w).is (.inr x) (.str x t) = true := keyIs_str x t
end L2

namespace L2
open PySem PySem.Spec PyProof.Rows

inductive V where
  | non | bl (b : Bool) | int (i : Int) | str (x : Str) | byt (b : Array UInt8) | flt (b : UInt64) | ref (a : Addr) | ty (n : String)
  deriving DecidableEq

def RelV : V → Value → Prop
  | .non, u => u = Value.none
  | .bl b, u => u = Value.bool b
  | .int i, u => ∃ t, u = Value.int i t
  | .str x, u => ∃ t, u = Value.str x t
  | .byt b, u => ∃ t, u = Value.bytes b t
  | .flt b, u => ∃ t, u = Value.float b t
  | .ref a, u => u = Value.ref a
  | .ty n, u => u = Value.type n

abbrev Vals : List V → List Value → Prop := Paired RelV
theorem Vals.length {xs : List V} {us : List Value} (r : Vals xs us) : xs.length = us.length := Paired.length r
theorem Vals.get : ∀ {xs : List V} {us : List Value} {i : Nat} {x : V}, Vals xs us → xs[i]? = some x → ∃ u, us[i]? = some u ∧ RelV x u
  | _, _, _, _, .nil, e => by simp at e
  | _, _, 0, _, .cons r _, e => by simp at e; subst e; exact ⟨_, rfl, r⟩
  | _, _, i + 1, x, .cons _ t, e => by
    obtain ⟨u, h1, h2⟩ := Vals.get (i := i) (x := x) t (by simpa using e)
    exact ⟨u, by simpa using h1, h2⟩
theorem Vals.set {x : V} {u : Value} (r : RelV x u) : ∀ {xs : List V} {us : List Value} (i : Nat), Vals xs us → Vals (xs.set i x) (us.set i u)
  | _, _, _, .nil => .nil
  | _, _, 0, .cons _ t => .cons r t
  | _, _, i + 1, .cons q t => .cons q (Vals.set r i t)
theorem Vals.append : ∀ {xs ys : List V} {us ws : List Value}, Vals xs us → Vals ys ws → Vals (xs ++ ys) (us ++ ws)
  | _, _, _, _, .nil, s => s
  | _, _, _, _, .cons r t, s => .cons r (Vals.append t s)
theorem Vals.take : ∀ {xs : List V} {us : List Value} (n : Nat), Vals xs us → Vals (xs.take n) (us.take n)
  | _, _, 0, _ => .nil
  | _, _, _ + 1, .nil => .nil
  | _, _, n + 1, .cons r t => .cons r (Vals.take n t)
theorem Vals.drop : ∀ {xs : List V} {us : List Value} (n : Nat), Vals xs us → Vals (xs.drop n) (us.drop n)
  | _, _, 0, r => r
  | _, _, _ + 1, .nil => .nil
  | _, _, n + 1, .cons _ t => Vals.drop n t
def RelO : Option V → Option Value → Prop
  | some v, some u => RelV v u
  | none, none => True
  | _, _ => False
def KV {κ : Type} : List (κ × V) → List (κ × Value) → Prop := Paired fun (p : κ × V) (q : κ × Value) => p.1 = q.1 ∧ RelV p.2 q.2

def kV : Key → V
  | .inl i => .int i
  | .inr x => .str x

inductive HO where
  /-- a list -/
  | lst (xs : List V)
  /-- a tuple (never changes) -/
  | tup (xs : List V)
  /-- a dict whose keys are ints and texts; one whose keys are tuples of ints and texts (the empty one is both) -/
  | dK (kvs : List (Key × V)) | dT (kvs : List (List Key × V))
  /-- a set of ints: its members, its size -/
  | set (S : Int → Bool) (n : Nat)
  /-- an instance of the class at C, its dict at dx, its attributes -/
  | ins (C dx : Addr) (fs : List (Str × V))
  /-- the dict of the instance at x -/
  | own (x : Addr)
  /-- the dict of an exception -/
  | xd (fs : List (Str × V))
  /-- a bound method, f of x -/
  | met (f x : Addr)
  /-- a range object lo, lo + 1, .. below hi -/
  | rng (lo hi : Int)
  /-- a thing that is known to the object (the script; a dict while a loop walks it): read, never written while it is so -/
  | frz (o : Obj) (u : HO)
  /-- a code object's table -/
  | tbl (ps : Array Value)
  /-- any other thing, by what is true of its one object (a def of one's own: SetO a S n := HO.ext fun h => ..) -/
  | ext (φ : Heap → Prop)

abbrev Hp := Addr → Option HO
def upd (H : Hp) (a : Addr) (o : HO) : Hp := fun b => if b = a then some o else H b
theorem upd_same {H : Hp} {a : Addr} {o : HO} : upd H a o a = some o := by unfold upd; rw [if_pos rfl]
theorem upd_ne {H : Hp} {a b : Addr} {o : HO} (h : b ≠ a) : upd H a o b = H b := by unfold upd; rw [if_neg h]
theorem upd_upd {H : Hp} {a : Addr} {o u : HO} : upd (upd H a o) a u = upd H a u := by
  funext b; unfold upd; split <;> rfl
theorem ne_of {H : Hp} {a b : Addr} {o u : HO} (h : H a = some o) (h' : H b = some u) (d : o ≠ u) : a ≠ b := by
  intro e; subst e; rw [h] at h'; exact d (Option.some.inj h')
theorem ne_of_none {H : Hp} {a b : Addr} {o : HO} (h : H a = some o) (h' : H b = none) : a ≠ b := by
  intro e; subst e; rw [h] at h'; cases h'

section
variable (P : Program) (w : World)
def ObjOk (H : Hp) (h : Heap) (a : Addr) : HO → Prop
  | .lst xs => xs.length ≤ sizeLine ∧ ∃ (its : List Value) (n : Nat), Vals xs its ∧ h.get? a = some { cls := .type "list", data := .seq its.toArray n }
  | .tup xs => xs.length ≤ sizeLine ∧ ∃ its : List Value, Vals xs its ∧ IsTup h a its.toArray
  | .dK kvs => kvs.length ≤ sizeLine ∧ (a == sysModules) = false ∧ ∃ vs, KV kvs vs ∧ h.DictOf (mixKind P w) a vs
  | .dT kvs => kvs.length ≤ sizeLine ∧ (a == sysModules) = false ∧ ∃ xs : List (List Key × Addr × Value),
      Paired (fun (p : List Key × V) (q : List Key × Addr × Value) => p.1 = q.1 ∧ H q.2.1 = some (.tup (p.1.map kV)) ∧ RelV p.2 q.2.2) kvs xs ∧
      ∃ o es ep, h.get? a = some o ∧ o.ExactDict ∧ o.data = .dict es ep ∧ es.toList = xs.map (entryOfKey (tupleKind (mixKind P w))) ∧ (xs.map (·.1)).Nodup
  | .set S n => h.SetOf (intKind P w) a S n
  | .ins C dx fs => H dx = some (.own a) ∧ fs.length ≤ 1000 ∧ dx ≠ a ∧ h.get? a = some (PySem.W.instObj C dx) ∧
      ∃ mA, h.Ns1 dx mA ∧ (∀ f, RelO (fs.lookup f) (mA f)) ∧ PySem.Within mA (fs.map (·.1))
  | .own _ => ∃ o, h.get? a = some o
  | .xd fs => ∃ mA, h.Ns1 a mA ∧ ∀ f, RelO (fs.lookup f) (mA f)
  | .rng lo hi => ∃ t u v, h.get? a = some { cls := .type "range", data := .fields #[.int lo t, .int hi u, .int 1 v] }
  | .frz o u => h.get? a = some o ∧ ObjOk H h a u
  | .tbl ps => h.get? a = some { cls := .none, data := .fields ps }
  | .met f x => h.get? a = some (PySem.W.methodObj (.ref f) (.ref x))
  | .ext φ => φ h ∧ (∃ o, h.get? a = some o) ∧ ∀ h1 h2 : Heap, φ h1 → (∀ o, h1.get? a = some o → h2.get? a = some o) → φ h2
def HOk (H : Hp) (h : Heap) : Prop := ∀ a o, H a = some o → ObjOk P w H h a o
end

section
variable {P : Program} {w : World} {H H' : Hp} {h h' : Heap} {a : Addr} {o : HO}
theorem ObjOk.lt (x : ObjOk P w H h a o) : a < h.objs.size := by
  cases o with
  | lst xs => obtain ⟨_, _, _, _, e⟩ := x; exact Heap.lt_size e
  | tup xs => obtain ⟨_, _, _, p⟩ := x; exact p.lt
  | dK kvs => obtain ⟨_, _, _, _, o, _, _, e, _⟩ := x; exact Heap.lt_size e
  | dT kvs => obtain ⟨_, _, _, _, o, _, _, e, _⟩ := x; exact Heap.lt_size e
  | set S n => obtain ⟨o, _, _, _, e, _⟩ := x; exact Heap.lt_size e
  | ins C dx fs => obtain ⟨_, _, _, e, _⟩ := x; exact Heap.lt_size e
  | own y => obtain ⟨_, e⟩ := x; exact Heap.lt_size e
  | xd fs => obtain ⟨_, ⟨_, _, _, e, _⟩, _⟩ := x; exact Heap.lt_size e
  | rng lo hi => obtain ⟨_, _, _, e⟩ := x; exact Heap.lt_size e
  | frz ob u => obtain ⟨e, _⟩ := x; exact Heap.lt_size e
  | tbl ps => exact Heap.lt_size (show h.get? a = some _ from x)
  | met f y => exact Heap.lt_size (show h.get? a = some _ from x)
  | ext φ => obtain ⟨_, ⟨_, e⟩, _⟩ := x; exact Heap.lt_size e
theorem Paired.mapP {α β : Type} {F G : α → β → Prop} : ∀ {l₁ : List α} {l₂ : List β}, Paired F l₁ l₂ → (∀ a b, F a b → G a b) → Paired G l₁ l₂
  | _, _, .nil, _ => .nil
  | _, _, .cons r t, f => .cons (f _ _ r) (Paired.mapP t f)
theorem ObjOk.stay (x : ObjOk P w H h a o) (k : ∀ b u, (b = a ∨ H b = some (.own a)) → h.get? b = some u → h'.get? b = some u)
    (ho : ∀ b, H b = some (.own a) → H' b = some (.own a)) (ht : ∀ b xs, H b = some (.tup xs) → H' b = some (.tup xs)) : ObjOk P w H' h' a o := by
  induction o with
  | lst xs => obtain ⟨z, its, n, r, e⟩ := x; exact ⟨z, its, n, r, k _ _ (.inl rfl) e⟩
  | tup xs => obtain ⟨z, its, r, ob, e, c⟩ := x; exact ⟨z, its, r, ob, k _ _ (.inl rfl) e, c⟩
  | dK kvs => obtain ⟨z, y, vs, r, ob, es, ep, e, c⟩ := x; exact ⟨z, y, vs, r, ob, es, ep, k _ _ (.inl rfl) e, c⟩
  | dT kvs =>
    obtain ⟨z, y, xs, r, ob, es, ep, e, c⟩ := x
    exact ⟨z, y, xs, Paired.mapP r fun p q z => ⟨z.1, ht _ _ z.2.1, z.2.2⟩, ob, es, ep, k _ _ (.inl rfl) e, c⟩
  | set S n => obtain ⟨ob, es, ep, t, e, c⟩ := x; exact ⟨ob, es, ep, t, k _ _ (.inl rfl) e, c⟩
  | ins C dx fs =>
    obtain ⟨d, z, ne, e, mA, ⟨od, es, ep, e2, c⟩, r⟩ := x
    exact ⟨ho _ d, z, ne, k _ _ (.inl rfl) e, mA, ⟨od, es, ep, k _ _ (.inr d) e2, c⟩, r⟩
  | own y => obtain ⟨ob, e⟩ := x; exact ⟨ob, k _ _ (.inl rfl) e⟩
  | xd fs => obtain ⟨mA, ⟨od, es, ep, e, c⟩, r⟩ := x; exact ⟨mA, ⟨od, es, ep, k _ _ (.inl rfl) e, c⟩, r⟩
  | rng lo hi => obtain ⟨t, u, v, e⟩ := x; exact ⟨t, u, v, k _ _ (.inl rfl) e⟩
  | frz ob u ih => obtain ⟨e, q⟩ := x; exact ⟨k _ _ (.inl rfl) e, ih q⟩
  | tbl ps =>
    have e : h.get? a = some { cls := .none, data := .fields ps } := x
    show h'.get? a = some { cls := .none, data := .fields ps }
    exact k a _ (.inl rfl) e
  | met f y =>
    have e : h.get? a = some (PySem.W.methodObj (.ref f) (.ref y)) := x
    show h'.get? a = some (PySem.W.methodObj (.ref f) (.ref y))
    exact k a _ (.inl rfl) e
  | ext φ => obtain ⟨p, ⟨o, e⟩, st⟩ := x; exact ⟨st _ _ p fun o q => k _ _ (.inl rfl) q, ⟨o, k _ _ (.inl rfl) e⟩, st⟩
theorem HOk.lt (x : HOk P w H h) (e : H a = some o) : a < h.objs.size := (x a o e).lt
theorem HOk.fresh (x : HOk P w H h) (e : h.objs.size ≤ a) : H a = none := by
  cases q : H a with
  | none => rfl
  | some u => exact absurd (Nat.lt_of_lt_of_le (x.lt q) e) (Nat.lt_irrefl _)
theorem HOk.kept (x : HOk P w H h) (k : ∀ b u, h.get? b = some u → h'.get? b = some u) : HOk P w H h' := fun a o e =>
  (x a o e).stay (fun b u _ q => k b u q) (fun _ q => q) fun _ _ q => q
theorem HOk.laid (x : HOk P w H h) (k : ∀ b u, h.get? b = some u → h'.get? b = some u) (hp : h.objs.size ≤ a) (new : ObjOk P w (upd H a o) h' a o) : HOk P w (upd H a o) h' := fun b u e => by
  have hn := x.fresh hp
  by_cases hb : b = a
  · subst hb; rw [upd_same] at e; cases e; exact new
  · rw [upd_ne hb] at e
    exact (x b u e).stay (fun c v _ q => k c v q) (fun c q => by rw [upd_ne (ne_of_none q hn)]; exact q) fun c xs q => by rw [upd_ne (ne_of_none q hn)]; exact q
end

def Rd (H : Hp) (a : Addr) (u : HO) : Prop := H a = some u ∨ ∃ o, H a = some (.frz o u)
theorem Rd.of {H : Hp} {a : Addr} {u : HO} (h : H a = some u) : Rd H a u := .inl h
theorem Rd.ok {P : Program} {w : World} {H : Hp} {h : Heap} {a : Addr} {u : HO} (r : Rd H a u) (x : HOk P w H h) : ObjOk P w H h a u := by
  rcases r with r | ⟨o, r⟩
  · exact x a u r
  · obtain ⟨_, q⟩ := x a _ r
    exact q
def Mut : Option HO → Prop
  | some (.lst _) => True
  | some (.dK _) => True
  | some (.dT _) => True
  | some (.set _ _) => True
  | some (.ins _ _ _) => True
  | some (.ext _) => True
  | _ => False
section
variable {P : Program} {w : World} {H : Hp} {h h' : Heap} {x e : Addr} {o' : HO}
theorem HOk.write (ok : HOk P w H h) (mu : Mut (H x)) (he : e = x ∨ H e = some (.own x)) (k : ∀ b u, b ≠ e → h.get? b = some u → h'.get? b = some u) (heo : ∃ u, h'.get? e = some u)
    (new : ObjOk P w (upd H x o') h' x o') : HOk P w (upd H x o') h' := fun b u q => by
  have nown : ∀ c y, H c = some (.own y) → c ≠ x := fun c y r z => by subst z; rw [r] at mu; exact mu
  have ntup : ∀ c xs, H c = some (.tup xs) → c ≠ x := fun c xs r z => by subst z; rw [r] at mu; exact mu
  by_cases hb : b = x
  · subst hb; rw [upd_same] at q; cases q; exact new
  · rw [upd_ne hb] at q
    by_cases hbe : b = e
    · have q' : H b = some (.own x) := by
        rcases he with z | z
        · exact absurd (hbe.trans z) hb
        · rw [hbe]; exact z
      rw [q] at q'; cases q'
      obtain ⟨v, hv⟩ := heo
      exact ⟨v, by rw [hbe]; exact hv⟩
    · refine (ok b u q).stay (fun c v hc r => k c v ?_ r) (fun c r => by rw [upd_ne (nown c b r)]; exact r) fun c xs r => by rw [upd_ne (ntup c xs r)]; exact r
      rcases hc with rfl | hc
      · exact hbe
      · rintro rfl
        rcases he with z | z
        · exact nown c b hc z
        · rw [hc] at z; cases z; exact hb rfl
end

/-! ### kept unless tracked; of the frames at fs (the callers') the slots may change (an exception that passes writes there); of the records at ex (iterators) nothing is said -/
structure Un (fs ex : List Addr) (H H' : Hp) (h h' : Heap) : Prop where
  keep : ∀ b o, h.get? b = some o → H b = none → b ∉ fs → b ∉ ex → h'.get? b = some o
  slot : ∀ b o, h.get? b = some o → H b = none → b ∈ fs → b ∉ ex → ∃ sl, h'.get? b = some { o with slots := sl }
  free : ∀ b o, h.get? b = some o → H b = none → b ∉ ex → H' b = none
  there : ∀ b o, h.get? b = some o → b ∉ ex → ∃ o', h'.get? b = some o'
  tups : ∀ b xs, H b = some (.tup xs) → H' b = some (.tup xs)
  frzs : ∀ b o u, H b = some (.frz o u) → H' b = some (.frz o u)
  tbls : ∀ b ps, H b = some (.tbl ps) → ∃ more, H' b = some (.tbl (ps ++ more))
section
variable {fs fs' ex ex' : List Addr} {H H1 H2 : Hp} {h h1 h2 h' : Heap} {a x e : Addr} {o : HO}
theorem Un.any (u : Un fs ex H H1 h h1) {b : Addr} {ob : Obj} (q : h.get? b = some ob) (n : H b = none) (hx : b ∉ ex) : ∃ sl, h1.get? b = some { ob with slots := sl } := by
  by_cases hb : b ∈ fs
  · exact u.slot b ob q n hb hx
  · exact ⟨ob.slots, u.keep b ob q n hb hx⟩
theorem Un.trans (a : Un fs ex H H1 h h1) (b : Un fs ex H1 H2 h1 h2) : Un fs ex H H2 h h2 where
  keep := fun c ob q n hc hx => b.keep c ob (a.keep c ob q n hc hx) (a.free c ob q n hx) hc hx
  slot := fun c ob q n hc hx => by
    obtain ⟨sl, e1⟩ := a.slot c ob q n hc hx
    obtain ⟨sl', e2⟩ := b.slot c _ e1 (a.free c ob q n hx) hc hx
    exact ⟨sl', e2⟩
  free := fun c ob q n hx => by
    obtain ⟨o', e1⟩ := a.there c ob q hx
    exact b.free c o' e1 (a.free c ob q n hx) hx
  there := fun c ob q hx => by
    obtain ⟨o', e1⟩ := a.there c ob q hx
    exact b.there c o' e1 hx
  tups := fun c xs q => b.tups c xs (a.tups c xs q)
  frzs := fun c ob xs q => b.frzs c ob xs (a.frzs c ob xs q)
  tbls := fun c ps q => by
    obtain ⟨m1, e1⟩ := a.tbls c ps q
    obtain ⟨m2, e2⟩ := b.tbls c _ e1
    exact ⟨m1 ++ m2, by rw [e2, Array.append_assoc]⟩
theorem Un.kept (k : ∀ b u, h.get? b = some u → h'.get? b = some u) : Un fs ex H H h h' :=
  ⟨fun b ob q _ _ _ => k b ob q, fun b ob q _ _ _ => ⟨ob.slots, k b ob q⟩, fun _ _ _ n _ => n, fun b ob q _ => ⟨ob, k b ob q⟩, fun _ _ q => q, fun _ _ _ q => q, fun _ ps q => ⟨#[], by rw [q]; simp⟩⟩
theorem Un.refl : Un fs ex H H h h := Un.kept fun _ _ q => q
theorem Un.laid (k : ∀ b u, h.get? b = some u → h'.get? b = some u) (hp : h.objs.size ≤ a) (hn : H a = none) : Un fs ex H (upd H a o) h h' where
  keep := fun b u q _ _ _ => k b u q
  slot := fun b u q _ _ _ => ⟨u.slots, k b u q⟩
  free := fun b u q n _ => by rw [upd_ne (Nat.ne_of_lt (Nat.lt_of_lt_of_le (Heap.lt_size q) hp))]; exact n
  there := fun b u q _ => ⟨u, k b u q⟩
  tups := fun b xs q => by rw [upd_ne (ne_of_none q hn)]; exact q
  frzs := fun b u xs q => by rw [upd_ne (ne_of_none q hn)]; exact q
  tbls := fun b ps q => ⟨#[], by rw [upd_ne (ne_of_none q hn), q]; simp⟩
theorem Un.write (mu : Mut (H x)) (he : e = x ∨ H e = some (.own x)) (k : ∀ b u, b ≠ e → h.get? b = some u → h'.get? b = some u) (heo : ∃ u, h'.get? e = some u) : Un fs ex H (upd H x o) h h' := by
  have hx : ∀ b, H b = none → b ≠ x := fun b n z => by subst z; rw [n] at mu; exact mu
  have hb : ∀ b, H b = none → b ≠ e := fun b n z => by
    subst z
    rcases he with r | r
    · exact hx b n r
    · rw [n] at r; cases r
  have hm : ∀ b u, H b = some u → ¬ Mut (some u) → b ≠ x := fun b u q nm z => by subst z; rw [q] at mu; exact nm mu
  refine ⟨fun b u q n _ _ => k b u (hb b n) q, fun b u q n _ _ => ⟨u.slots, k b u (hb b n) q⟩, fun b u q n _ => by rw [upd_ne (hx b n)]; exact n, fun b u q _ => ?_,
    fun b xs q => by rw [upd_ne (hm b _ q fun z => z)]; exact q, fun b u xs q => by rw [upd_ne (hm b _ q fun z => z)]; exact q, fun b ps q => ⟨#[], by rw [upd_ne (hm b _ q fun z => z), q]; simp⟩⟩
  by_cases hbe : b = e
  · subst hbe; exact heo
  · exact ⟨u, k b u hbe q⟩
theorem Un.mono (u : Un fs ex H H1 h h1) (hs : ∀ b ∈ fs, b ∈ fs') (hx : ∀ b ∈ ex, b ∈ ex') : Un fs' ex' H H1 h h1 :=
  ⟨fun b ob q n hb he => u.keep b ob q n (fun z => hb (hs b z)) fun z => he (hx b z), fun _ _ q n _ he => u.any q n fun z => he (hx _ z), fun b ob q n he => u.free b ob q n fun z => he (hx b z), fun b ob q he => u.there b ob q fun z => he (hx b z), u.tups, u.frzs, u.tbls⟩
end

/-! ### the heap without what is tracked -/
def trk (h : Heap) (H : Hp) : List Addr := (List.range h.objs.size).filter fun a => (H a).isSome
def hidT (h : Heap) (H : Hp) : Heap := PySem.W.hideAll h (trk h H)
theorem hidT_size (h : Heap) (H : Hp) : (hidT h H).objs.size = h.objs.size := PySem.W.hideAll_size _ _
theorem hidT_get {h : Heap} {H : Hp} {b : Addr} {o : Obj} (e : h.get? b = some o) (n : H b = none) : (hidT h H).get? b = some o :=
  PySem.W.hideAll_get _ e fun hm => by
    have q : (H b).isSome = true := (List.mem_filter.mp hm).2
    rw [n] at q; simp at q
theorem of_hidT {h : Heap} {H : Hp} {b : Addr} {o : Obj} (e : (hidT h H).get? b = some o) : h.get? b = some o ∧ H b = none := by
  have e' : h.get? b = some o := PySem.W.of_hideAll (trk h H) e
  refine ⟨e', ?_⟩
  cases q : H b with
  | none => rfl
  | some x =>
    have hm : b ∈ trk h H := List.mem_filter.mpr ⟨List.mem_range.mpr (Heap.lt_size e'), by simp [q]⟩
    have z : (hidT h H).get? b = none := PySem.W.hideAll_none (trk h H) hm
    rw [z] at e; cases e

/-! ### OpenK's ledger, filled with every new object but one -/
def allNews (g h : Heap) (L : Addr) : List (Addr × Obj) := (List.range h.objs.size).filterMap fun a => if a = L ∨ (g.get? a).isSome = true then none else (h.get? a).map fun o => (a, o)
def rest (g h : Heap) (L d : Addr) : List (Addr × Obj) := (allNews g h L).filter fun p => decide (p.1 ≠ d)
end L2

namespace L2
open PySem PySem.Spec PyProof.Rows

structure Mod (K : PySem.W.Frag) (mg : Str → Option Value) (base : Heap) : Prop where
  kin : K.In base
  glob : base.Ns mainGlobals mg
  blt : ∃ mb, base.Ns builtinsNs mb ∧ ∀ x : Str, x ≠ "__name__" → mb x = bootBuiltins x
  nolimit : base.NoLimit

structure Cx where
  prog : Program
  w : World
  K : PySem.W.Frag
  mg : Str → Option Value
  base : Heap
  A : Around
  N : List Str
  s₀ : Shared
  H₀ : Hp
  env : Env
  outer : List Env
  stack : List Env
  ex : List Addr
  fn : Str → Bool
  calm : Bool
  pn : List (Addr × Obj)
  xe : Value → Shared → Prop
def frs (l : List Env) : List Addr := l.filterMap (·.frame)
abbrev Cx.fs (X : Cx) : List Addr := frs X.outer

def Vis (sc : Scope) (x : Str) : Prop := sc.names.lookup x = some .local ∨ sc.names.lookup x = some .cell ∨ sc.names.lookup x = some .free
def Loc (sc : Scope) (x : Str) : Prop := sc.names.lookup x = some .local ∨ sc.names.lookup x = some .cell
def Look (env : Env) (h : Heap) (m : Str → Option Value) (x : Str) (u : Value) : Prop :=
  (env.kindOf x = some .local ∧ m x = some u) ∨ ((env.kindOf x = some .cell ∨ env.kindOf x = some .free) ∧ ∃ c, env.cells.lookup x = some c ∧ h.IsCell c (some u))

structure Cx.Ok (X : Cx) : Prop where
  mod : Mod X.K X.mg X.base
  kind : X.env.scope.kind = .function
  glob : X.env.globals = mainGlobals
  blt : X.env.builtins = builtinsNs
  above : X.s₀.heap.objs.size ≤ X.env.locals
  inj : ∀ x y c, X.env.cells.lookup x = some c → X.env.cells.lookup y = some c → x = y
  has : ∀ x, (X.env.kindOf x = some .cell ∨ X.env.kindOf x = some .free) → ∃ c, X.env.cells.lookup x = some c
  cab : ∀ x c, X.fn x = true → X.env.cells.lookup x = some c → X.s₀.heap.objs.size ≤ c
  hd : X.calm = true → X.A.handled = none
  frames : X.A.frames = some X.stack
  stk : X.stack = X.outer ∨ (X.stack = X.env :: X.outer ∧ X.env.frame = some X.env.locals)
  exf : ∀ b ∈ X.ex, b ≠ X.env.locals ∧ ∀ x c, X.env.cells.lookup x = some c → c ≠ b
  bs : ∀ b o, X.base.get? b = some o → X.s₀.heap.get? b = some o ∧ X.H₀ b = none
  bsz : X.base.objs.size ≤ X.s₀.heap.objs.size
  noex : ∀ b o, X.base.get? b = some o → b ∉ X.ex
  exfs : ∀ b ∈ X.ex, b ∉ X.fs
  funs : X.s₀.heap.FunFrames X.base X.outer
  frf : ∀ b ∈ X.fs, X.H₀ b = none

structure Inv (X : Cx) (pins : List (Addr × Obj)) (σ : List (Option V)) (H : Hp) (s : Shared) : Prop where
  ok : X.Ok
  os : s.os = X.s₀.os
  bare : AllBare s.gens
  base : Un X.fs X.ex X.H₀ H X.s₀.heap s.heap
  loc : ∃ m, s.heap.Ns X.env.locals m ∧ ∀ (i : Nat) (x : Str) (v : V), X.N[i]? = some x → σ[i]? = some (some v) → Vis X.env.scope x → ∃ u, RelV v u ∧ Look X.env s.heap m x u
  cell : ∀ x c, X.env.cells.lookup x = some c → ∃ v, s.heap.IsCell c v
  free : H X.env.locals = none
  freeC : ∀ x c, X.env.cells.lookup x = some c → H c = none
  pin : ∀ p ∈ X.pn ++ pins, s.heap.get? p.1 = some p.2 ∧ H p.1 = none ∧ p.1 ≠ X.env.locals ∧ p.1 ∉ X.fs ∧ ∀ v, p.2.data ≠ .cell v
  hok : HOk X.prog X.w H s.heap
  len : σ.length = X.N.length

section
variable {X : Cx} {pins : List (Addr × Obj)} {σ : List (Option V)} {H H' : Hp} {s : Shared} {h' : Heap}

theorem Cx.Ok.nofr (ok : X.Ok) {b : Addr} {o : Obj} (e : X.base.get? b = some o) : b ∉ X.fs := fun hb => by
  have := (ok.funs.mem hb).1
  rw [e] at this; cases this
theorem Inv.bs (I : Inv X pins σ H s) : ∀ b o, X.base.get? b = some o → s.heap.get? b = some o ∧ H b = none := fun b o e =>
  ⟨I.base.keep b o (I.ok.bs b o e).1 (I.ok.bs b o e).2 (I.ok.nofr e) (I.ok.noex b o e), I.base.free b o (I.ok.bs b o e).1 (I.ok.bs b o e).2 (I.ok.noex b o e)⟩
theorem Inv.bk (I : Inv X pins σ H s) : ∀ b o, X.base.get? b = some o → s.heap.get? b = some o := fun b o e => (I.bs b o e).1
theorem Inv.mod (I : Inv X pins σ H s) : Mod X.K X.mg X.base := I.ok.mod
theorem Inv.kIn (I : Inv X pins σ H s) : X.K.In s.heap := I.ok.mod.kin.keeps I.bk
theorem Inv.nolimit (I : Inv X pins σ H s) : s.heap.NoLimit := I.ok.mod.nolimit.keeps I.bk
theorem Inv.fr (I : Inv X pins σ H s) : ∃ m, Fr X.base X.env.locals s.heap m :=
  let ⟨m, hn, _⟩ := I.loc
  ⟨m, hn, I.bk, Nat.le_trans I.ok.bsz I.ok.above⟩
theorem Inv.lt (I : Inv X pins σ H s) : X.env.locals < s.heap.objs.size := let ⟨_, hn, _⟩ := I.loc; hn.lt
theorem Inv.sz (I : Inv X pins σ H s) : X.s₀.heap.objs.size ≤ s.heap.objs.size := Nat.le_trans I.ok.above (Nat.le_of_lt I.lt)
theorem Inv.nofs (I : Inv X pins σ H s) {a : Addr} (h : s.heap.objs.size ≤ a) : a ∉ X.fs := fun hb => by
  obtain ⟨_, o, ho, _⟩ := I.ok.funs.mem hb
  exact absurd (Nat.lt_of_lt_of_le (Heap.lt_size ho) (Nat.le_trans I.sz h)) (Nat.lt_irrefl _)
theorem Inv.cne (I : Inv X pins σ H s) : ∀ x c, X.env.cells.lookup x = some c → c ≠ X.env.locals := fun x c e z => by
  obtain ⟨v, o, ho, hd⟩ := I.cell x c e
  obtain ⟨m, ⟨o', es, ep, ho', hd', _⟩, _⟩ := I.loc
  rw [z, ho'] at ho; cases ho; rw [hd'] at hd; cases hd
theorem Inv.funs (I : Inv X pins σ H s) : s.heap.FunFrames X.base X.outer := by
  have all : ∀ (l : List Env), (∀ b ∈ frs l, b ∈ X.fs) → X.s₀.heap.FunFrames X.base l → s.heap.FunFrames X.base l := by
    intro l
    induction l with
    | nil => intro _ _; trivial
    | cons env r ih =>
      intro hs hl
      obtain ⟨hk, ⟨L, o, hf, hn, ho, hd⟩, hr⟩ := hl
      have hL : L ∈ X.fs := hs L (by unfold frs; rw [List.filterMap_cons, hf]; exact List.mem_cons_self)
      obtain ⟨sl, e⟩ := I.base.slot L o ho (I.ok.frf L hL) hL fun z => I.ok.exfs L z hL
      exact ⟨hk, ⟨L, _, hf, hn, e, hd⟩, ih (fun b hb => hs b (by unfold frs; rw [List.filterMap_cons, hf]; exact List.mem_cons_of_mem _ hb)) hr⟩
  exact all X.outer (fun _ hb => hb) I.ok.funs

theorem Inv.stack (I : Inv X pins σ H s) : s.heap.FunFrames X.base X.stack := by
  rcases I.ok.stk with e | ⟨e, hf⟩
  · rw [e]; exact I.funs
  · rw [e]
    obtain ⟨m, hn, _⟩ := I.loc
    refine .cons (by rw [I.ok.kind]; decide) hf hn ?_ I.funs
    exact Heap.get?_none_of_le (Nat.le_trans I.ok.bsz I.ok.above)
theorem Inv.stkSub (I : Inv X pins σ H s) : ∀ b ∈ frs X.stack, b ∈ X.env.locals :: X.fs := fun b hb => by
  rcases I.ok.stk with e | ⟨e, hf⟩
  · rw [e] at hb; exact List.mem_cons_of_mem _ hb
  · rw [e] at hb
    unfold frs at hb
    rw [List.filterMap_cons, hf] at hb
    exact hb
theorem Inv.stkFree (I : Inv X pins σ H s) : ∀ b ∈ frs X.stack, H b = none := fun b hb => by
  rcases List.mem_cons.mp (I.stkSub b hb) with e | hb
  · rw [e]; exact I.free
  · obtain ⟨_, o, ho, _⟩ := I.ok.funs.mem hb
    exact I.base.free b o ho (I.ok.frf b hb) fun z => I.ok.exfs b z hb

theorem Inv.step {g' : Array GenState} {t' : Nat} {d' : Drawn} {ch : List Addr} (I : Inv X pins σ H s)
    (hch : ∀ b ∈ ch, (b ∈ X.ex ∨ X.s₀.heap.objs.size ≤ b) ∧ b ≠ X.env.locals ∧ (∀ x c, X.env.cells.lookup x = some c → c ≠ b) ∧ ∀ p ∈ X.pn ++ pins, p.1 ≠ b)
    (keep : ∀ b o, b ≠ X.env.locals → b ∉ X.fs → b ∉ ch → s.heap.get? b = some o → H b = none → h'.get? b = some o)
    (slot : ∀ b o, b ≠ X.env.locals → b ∈ X.fs → b ∉ ch → s.heap.get? b = some o → H b = none → ∃ sl, h'.get? b = some { o with slots := sl }) (free : ∀ b o, b ∉ ch → s.heap.get? b = some o → H b = none → H' b = none)
    (there : ∀ b o, b ∉ ch → s.heap.get? b = some o → ∃ o', h'.get? b = some o')
    (tups : ∀ b xs, H b = some (.tup xs) → H' b = some (.tup xs)) (frzs : ∀ b o u, H b = some (.frz o u) → H' b = some (.frz o u)) (tbls : ∀ b ps, H b = some (.tbl ps) → ∃ more, H' b = some (.tbl (ps ++ more)))
    (ns : ∀ m, s.heap.Ns X.env.locals m → h'.Ns X.env.locals m) (hok : HOk X.prog X.w H' h') (hg : AllBare g') :
    Inv X pins σ H' { s with heap := h', gens := g', drawn := d', toks := t' } := by
  have neL : ∀ b o, X.s₀.heap.get? b = some o → b ≠ X.env.locals := fun b o e => Nat.ne_of_lt (Nat.lt_of_lt_of_le (Heap.lt_size e) I.ok.above)
  have neC : ∀ b o, X.s₀.heap.get? b = some o → b ∉ X.ex → b ∉ ch := fun b o e hx hb => by
    rcases (hch b hb).1 with z | z
    · exact hx z
    · exact absurd (Nat.lt_of_lt_of_le (Heap.lt_size e) z) (Nat.lt_irrefl _)
  have cellK : ∀ x c, X.env.cells.lookup x = some c → ∀ v, s.heap.IsCell c v → h'.IsCell c v := fun x c e v ⟨o, ho, hd⟩ => by
    have nch : c ∉ ch := fun z => (hch c z).2.2.1 x c e rfl
    by_cases hc : c ∈ X.fs
    · obtain ⟨sl, q⟩ := slot c o (I.cne x c e) hc nch ho (I.freeC x c e)
      exact ⟨_, q, hd⟩
    · exact ⟨o, keep c o (I.cne x c e) hc nch ho (I.freeC x c e), hd⟩
  refine ⟨I.ok, I.os, hg, ⟨fun b o e n hb hx => ?_, fun b o e n hb hx => ?_, fun b o e n hx => ?_, fun b o e hx => ?_, fun b xs e => tups b xs (I.base.tups b xs e), fun b o xs e => frzs b o xs (I.base.frzs b o xs e), fun b ps e => ?_⟩, ?_, fun x c e => ?_, ?_, fun x c e => ?_, fun p hp => ?_, hok, I.len⟩
  · exact keep b o (neL b o e) hb (neC b o e hx) (I.base.keep b o e n hb hx) (I.base.free b o e n hx)
  · obtain ⟨sl, e1⟩ := I.base.slot b o e n hb hx
    obtain ⟨sl', e2⟩ := slot b _ (neL b o e) hb (neC b o e hx) e1 (I.base.free b o e n hx)
    exact ⟨sl', e2⟩
  · obtain ⟨o', e1⟩ := I.base.there b o e hx
    exact free b o' (neC b o e hx) e1 (I.base.free b o e n hx)
  · obtain ⟨o', e1⟩ := I.base.there b o e hx
    exact there b o' (neC b o e hx) e1
  · obtain ⟨m1, e1⟩ := I.base.tbls b ps e
    obtain ⟨m2, e2⟩ := tbls b _ e1
    exact ⟨m1 ++ m2, by rw [e2, Array.append_assoc]⟩
  · obtain ⟨m, hn, hl⟩ := I.loc
    refine ⟨m, ns m hn, fun i x v e1 e2 e3 => ?_⟩
    obtain ⟨u, r, l⟩ := hl i x v e1 e2 e3
    refine ⟨u, r, ?_⟩
    rcases l with l | ⟨k, c, e, z⟩
    · exact .inl l
    · exact .inr ⟨k, c, e, cellK x c e _ z⟩
  · obtain ⟨v, z⟩ := I.cell x c e
    exact ⟨v, cellK x c e v z⟩
  · obtain ⟨m, ⟨o, _, _, ho, _⟩, _⟩ := I.loc
    exact free _ o (fun z => (hch _ z).2.1 rfl) ho I.free
  · obtain ⟨v, o, ho, hd⟩ := I.cell x c e
    exact free c o (fun z => (hch c z).2.2.1 x c e rfl) ho (I.freeC x c e)
  · obtain ⟨e, n, ne, nf, d⟩ := I.pin p hp
    have nch : p.1 ∉ ch := fun z => (hch p.1 z).2.2.2 p hp rfl
    exact ⟨keep p.1 p.2 ne nf nch e n, free p.1 p.2 nch e n, ne, nf, d⟩
theorem Inv.un {t' : Nat} (I : Inv X pins σ H s) (u : Un X.fs [] H H' s.heap h') (hok : HOk X.prog X.w H' h') : Inv X pins σ H' { s with heap := h', toks := t' } := by
  obtain ⟨m, ⟨o, es, ep, ho, r⟩, _⟩ := id I.loc
  obtain ⟨sl, hL⟩ := u.any ho I.free (by simp)
  exact I.step (g' := s.gens) (d' := s.drawn) (ch := []) (fun _ z => nomatch z) (fun b o _ hb _ e n => u.keep b o e n hb (by simp)) (fun b o _ hb _ e n => u.slot b o e n hb (by simp)) (fun b o _ e n => u.free b o e n (by simp)) (fun b o _ e => u.there b o e (by simp)) u.tups u.frzs u.tbls (fun m' hm => by
    obtain ⟨o', es', ep', ho', r'⟩ := hm
    rw [ho] at ho'; cases ho'
    exact ⟨_, es', ep', hL, r'⟩) hok I.bare
theorem Inv.call {g' : Array GenState} {t' : Nat} {d' : Drawn} {ch : List Addr} (I : Inv X pins σ H s) (u : Un (frs X.stack) ch H H' s.heap h') (hok : HOk X.prog X.w H' h') (hg : AllBare g')
    (hch : ∀ b ∈ ch, (b ∈ X.ex ∨ X.s₀.heap.objs.size ≤ b) ∧ b ≠ X.env.locals ∧ (∀ x c, X.env.cells.lookup x = some c → c ≠ b) ∧ ∀ p ∈ X.pn ++ pins, p.1 ≠ b) :
    Inv X pins σ H' { s with heap := h', gens := g', drawn := d', toks := t' } := by
  obtain ⟨m, ⟨o, es, ep, ho, r⟩, _⟩ := id I.loc
  obtain ⟨sl, hL⟩ := u.any ho I.free fun z => (hch _ z).2.1 rfl
  exact I.step (ch := ch) hch (fun b o hL hb hc e n => u.keep b o e n (fun z => (List.mem_cons.mp (I.stkSub b z)).elim hL hb) hc) (fun b o _ _ hc e n => u.any e n hc) (fun b o hc e n => u.free b o e n hc) (fun b o hc e => u.there b o e hc) u.tups u.frzs u.tbls (fun m' hm => by
    obtain ⟨o', es', ep', ho', r'⟩ := hm
    rw [ho] at ho'; cases ho'
    exact ⟨_, es', ep', hL, r'⟩) hok hg
theorem Inv.turned {t' : Nat} {it : Addr} (I : Inv X pins σ H s) (k : ∀ b o, b ≠ it → s.heap.get? b = some o → h'.get? b = some o) (hn : H it = none) (hL : it ≠ X.env.locals)
    (h1 : it ∈ X.ex ∨ X.s₀.heap.objs.size ≤ it) (h2 : ∀ x c, X.env.cells.lookup x = some c → c ≠ it) (h3 : ∀ p ∈ X.pn ++ pins, p.1 ≠ it) : Inv X pins σ H { s with heap := h', toks := t' } := by
  have nit : ∀ b u, H b = some u → b ≠ it := fun b u e z => by rw [z, hn] at e; cases e
  refine I.step (g' := s.gens) (d' := s.drawn) (ch := [it]) (fun b hb => ?_) (fun b o _ _ hc e _ => k b o (fun z => hc (by simp [z])) e) (fun b o _ _ hc e _ => ⟨o.slots, k b o (fun z => hc (by simp [z])) e⟩) (fun _ _ _ _ n => n)
    (fun b o hc e => ⟨o, k b o (fun z => hc (by simp [z])) e⟩) (fun _ _ e => e) (fun _ _ _ e => e) (fun b ps e => ⟨#[], by rw [e]; simp⟩) (fun m hm => ?_) (fun b u e => ?_) I.bare
  · have e : b = it := by simpa using hb
    subst e
    exact ⟨h1, hL, h2, h3⟩
  · obtain ⟨o, es, ep, ho, r⟩ := hm
    exact ⟨o, es, ep, k _ o (Ne.symm hL) ho, r⟩
  · refine (I.hok b u e).stay (fun c v hc q => k c v ?_ q) (fun _ q => q) fun _ _ q => q
    rcases hc with z | z
    · rw [z]; exact nit b u e
    · exact nit c _ z
theorem Inv.tok (I : Inv X pins σ H s) (t : Nat) : Inv X pins σ H { s with toks := t } := I.un (h' := s.heap) (t' := t) Un.refl I.hok
theorem Inv.kept {t' : Nat} (I : Inv X pins σ H s) (k : ∀ b u, s.heap.get? b = some u → h'.get? b = some u) : Inv X pins σ H { s with heap := h', toks := t' } := I.un (Un.kept k) (I.hok.kept k)
theorem Inv.laid {a : Addr} {o : HO} {t' : Nat} (I : Inv X pins σ H s) (k : ∀ b u, s.heap.get? b = some u → h'.get? b = some u) (hp : s.heap.objs.size ≤ a) (new : ObjOk X.prog X.w (upd H a o) h' a o) :
    Inv X pins σ (upd H a o) { s with heap := h', toks := t' } := I.un (Un.laid k hp (I.hok.fresh hp)) (I.hok.laid k hp new)
theorem Inv.write {x e : Addr} {o : HO} {t' : Nat} (I : Inv X pins σ H s) (mu : Mut (H x)) (he : e = x ∨ H e = some (.own x)) (k : ∀ b u, b ≠ e → s.heap.get? b = some u → h'.get? b = some u) (heo : ∃ u, h'.get? e = some u)
    (new : ObjOk X.prog X.w (upd H x o) h' x o) : Inv X pins σ (upd H x o) { s with heap := h', toks := t' } := I.un (Un.write mu he k heo) (I.hok.write mu he k heo new)
theorem Inv.weak {σ' : List (Option V)} (I : Inv X pins σ H s) (hl : σ'.length = σ.length) (w : ∀ (i : Nat) v, σ'[i]? = some (some v) → σ[i]? = some (some v)) : Inv X pins σ' H s :=
  ⟨I.ok, I.os, I.bare, I.base, let ⟨m, hn, hl'⟩ := I.loc; ⟨m, hn, fun i x v e1 e2 e3 => hl' i x v e1 (w i v e2) e3⟩, I.cell, I.free, I.freeC, I.pin, I.hok, hl.trans I.len⟩
theorem Inv.pins_of {pins' : List (Addr × Obj)} (I : Inv X pins σ H s) (h : ∀ p ∈ pins', s.heap.get? p.1 = some p.2 ∧ H p.1 = none ∧ p.1 ≠ X.env.locals ∧ p.1 ∉ X.fs ∧ ∀ v, p.2.data ≠ .cell v) : Inv X pins' σ H s :=
  ⟨I.ok, I.os, I.bare, I.base, I.loc, I.cell, I.free, I.freeC, fun p hp => (List.mem_append.mp hp).elim (fun z => I.pin p (List.mem_append_left _ z)) (h p), I.hok, I.len⟩

theorem nodup_ix {N : List Str} (hN : N.Nodup) {i j : Nat} {x : Str} (a : N[i]? = some x) (b : N[j]? = some x) : i = j := by
  obtain ⟨h1, e1⟩ := List.getElem?_eq_some_iff.mp a
  obtain ⟨h2, e2⟩ := List.getElem?_eq_some_iff.mp b
  exact (List.getElem_inj hN).mp (e1.trans e2.symm)

theorem store_ok2 {M : Model} {A : Around} {E : Value → Shared → Prop} {i : Nat} {x : Str} {v : V} {u : Value} {Q : Unit → Shared → Prop} (I : Inv X pins σ H s) (hN : X.N.Nodup) (hi : X.N[i]? = some x) (hx : Loc X.env.scope x) (r : RelV v u)
    (h : ∀ s', Inv X pins (σ.set i (some v)) H s' → (∃ a, Heap.SameBut a s.heap s'.heap ∧ (a = X.env.locals ∨ X.env.cells.lookup x = some a)) → Q () s') (hf : X.fn x = true ∨ X.env.scope.names.lookup x = some .local := by first | exact .inl rfl | exact .inr rfl | assumption) : wpAny M A (storeName X.env x u) Q E s := by
  obtain ⟨m, hn, hl⟩ := id I.loc
  have hcls : (X.env.scope.kind == .class || (X.env.scope.kind == .module && X.env.locals != X.env.globals)) = false := by rw [I.ok.kind]; rfl
  have hiσ : i < σ.length := by rw [I.len]; exact (List.getElem?_eq_some_iff.mp hi).1
  have cne := I.cne
  have tracked : ∀ {a : Addr} {h' : Heap}, (∃ o, s.heap.get? a = some o ∧ H a = none) → Heap.SameBut a s.heap h' → HOk X.prog X.w H h' := fun {a h'} ha hs b ob e => by
    obtain ⟨_, _, hfree⟩ := ha
    refine (I.hok b ob e).stay (fun c w' hc q => (hs.2 c ?_).trans q) (fun _ q => q) fun _ _ q => q
    rintro rfl
    rcases hc with rfl | hc
    · rw [hfree] at e; cases e
    · rw [hfree] at hc; cases hc
  rcases hx with hk | hk
  · refine wpAny_storeName_local hk hn (fun h' hn' hs => ?_) hcls
    obtain ⟨oL, _, _, hoL, _⟩ := id hn
    refine h _ ⟨I.ok, I.os, I.bare, ⟨fun b o e n hb hx => ?_, fun b o e n hb hx => ?_, I.base.free, fun b o e hx => ?_, I.base.tups, I.base.frzs, I.base.tbls⟩, ⟨_, hn', fun j y v' e1 e2 e3 => ?_⟩, fun y c e => ?_, I.free, I.freeC, fun p hp => ?_, tracked ⟨oL, hoL, I.free⟩ hs, by simpa using I.len⟩ ⟨_, hs, .inl rfl⟩
    · exact (hs.2 b (Nat.ne_of_lt (Nat.lt_of_lt_of_le (Heap.lt_size e) I.ok.above))).trans (I.base.keep b o e n hb hx)
    · obtain ⟨sl, e1⟩ := I.base.slot b o e n hb hx
      exact ⟨sl, (hs.2 b (Nat.ne_of_lt (Nat.lt_of_lt_of_le (Heap.lt_size e) I.ok.above))).trans e1⟩
    · obtain ⟨o', e1⟩ := I.base.there b o e hx
      exact ⟨o', (hs.2 b (Nat.ne_of_lt (Nat.lt_of_lt_of_le (Heap.lt_size e) I.ok.above))).trans e1⟩
    · by_cases hj : j = i
      · subst hj
        rw [hi] at e1; cases e1
        rw [List.getElem?_set_self hiσ] at e2
        cases e2
        exact ⟨u, r, .inl ⟨hk, by simp⟩⟩
      · rw [List.getElem?_set_ne (Ne.symm hj)] at e2
        obtain ⟨u', r', q⟩ := hl j y v' e1 e2 e3
        refine ⟨u', r', ?_⟩
        rcases q with ⟨k, e⟩ | ⟨k, c, e, z⟩
        · refine .inl ⟨k, ?_⟩
          have : y ≠ x := fun e => hj (nodup_ix hN e1 (e ▸ hi))
          simp [this, e]
        · exact .inr ⟨k, c, e, z.sameBut hs (cne y c e)⟩
    · obtain ⟨w', z⟩ := I.cell y c e
      exact ⟨w', z.sameBut hs (cne y c e)⟩
    · obtain ⟨e, n, ne, nf, d⟩ := I.pin p hp
      exact ⟨(hs.2 p.1 ne).trans e, n, ne, nf, d⟩
  · have hfn : X.fn x = true := by
      rcases hf with z | z
      · exact z
      · rw [z] at hk; cases hk
    obtain ⟨c, hc⟩ := I.ok.has x (.inl hk)
    obtain ⟨w', z⟩ := I.cell x c hc
    refine wpAny_storeName_cell I.ok.kind hk hc z (fun h' hc' hs => ?_)
    obtain ⟨oc, hoc, hocd⟩ := id z
    refine h { s with heap := h' } ⟨I.ok, I.os, I.bare, ⟨fun b o e n hb hx => ?_, fun b o e n hb hx => ?_, I.base.free, fun b o e hx => ?_, I.base.tups, I.base.frzs, I.base.tbls⟩, ⟨m, hn.sameBut hs (Ne.symm (cne x c hc)), fun j y v' e1 e2 e3 => ?_⟩, fun y c' e => ?_, I.free, I.freeC, fun p hp => ?_, tracked ⟨oc, hoc, I.freeC x c hc⟩ hs, by simpa using I.len⟩ ⟨c, hs, .inr hc⟩
    · exact (hs.2 b (Nat.ne_of_lt (Nat.lt_of_lt_of_le (Heap.lt_size e) (I.ok.cab x c hfn hc)))).trans (I.base.keep b o e n hb hx)
    · obtain ⟨sl, e1⟩ := I.base.slot b o e n hb hx
      exact ⟨sl, (hs.2 b (Nat.ne_of_lt (Nat.lt_of_lt_of_le (Heap.lt_size e) (I.ok.cab x c hfn hc)))).trans e1⟩
    · obtain ⟨o', e1⟩ := I.base.there b o e hx
      exact ⟨o', (hs.2 b (Nat.ne_of_lt (Nat.lt_of_lt_of_le (Heap.lt_size e) (I.ok.cab x c hfn hc)))).trans e1⟩
    · by_cases hj : j = i
      · subst hj
        rw [hi] at e1; cases e1
        rw [List.getElem?_set_self hiσ] at e2
        cases e2
        exact ⟨u, r, .inr ⟨.inl hk, c, hc, hc'⟩⟩
      · rw [List.getElem?_set_ne (Ne.symm hj)] at e2
        obtain ⟨u', r', q⟩ := hl j y v' e1 e2 e3
        refine ⟨u', r', ?_⟩
        rcases q with q | ⟨k, c', e, z'⟩
        · exact .inl q
        · refine .inr ⟨k, c', e, z'.sameBut hs ?_⟩
          rintro rfl
          exact hj (nodup_ix hN e1 (I.ok.inj _ _ _ e hc ▸ hi))
    · by_cases hcc : c' = c
      · subst hcc; exact ⟨_, hc'⟩
      · obtain ⟨w2, z2⟩ := I.cell y c' e
        exact ⟨w2, z2.sameBut hs hcc⟩
    · obtain ⟨e, n, ne, nf, d⟩ := I.pin p hp
      refine ⟨(hs.2 p.1 ?_).trans e, n, ne, nf, d⟩
      intro q
      rw [q, hoc] at e
      have q' : oc = p.2 := Option.some.inj e
      exact d w' (by rw [← q']; exact hocd)
theorem store_ok {M : Model} {A : Around} {E : Value → Shared → Prop} {i : Nat} {x : Str} {v : V} {u : Value} {Q : Unit → Shared → Prop} (I : Inv X pins σ H s) (hN : X.N.Nodup) (hi : X.N[i]? = some x) (hx : Loc X.env.scope x) (r : RelV v u)
    (h : ∀ s', Inv X pins (σ.set i (some v)) H s' → Q () s') (hf : X.fn x = true ∨ X.env.scope.names.lookup x = some .local := by first | exact .inl rfl | exact .inr rfl | assumption) : wpAny M A (storeName X.env x u) Q E s :=
  store_ok2 I hN hi hx r (fun s' I' _ => h s' I') hf
theorem Inv.call' {s' : Shared} {ch : List Addr} (I : Inv X pins σ H s) (ho : s'.os = s.os) (u : Un (frs X.stack) ch H H' s.heap s'.heap) (hok : HOk X.prog X.w H' s'.heap) (hg : AllBare s'.gens)
    (hch : ∀ b ∈ ch, (b ∈ X.ex ∨ X.s₀.heap.objs.size ≤ b) ∧ b ≠ X.env.locals ∧ (∀ x c, X.env.cells.lookup x = some c → c ≠ b) ∧ ∀ p ∈ X.pn ++ pins, p.1 ≠ b) : Inv X pins σ H' s' := by
  obtain ⟨h', g', d', t', o'⟩ := s'
  have e : o' = s.os := ho
  subst e
  exact I.call (g' := g') (t' := t') (d' := d') u hok hg hch
end

/-! ### the judgements -/
abbrev XK := Value → Option Addr → Hp → Prop
abbrev St := List (Option V)
abbrev VK := V → Hp → Prop
abbrev TE := St → Hp → VK → Prop
abbrev TT := St → Hp → (Bool → Hp → Prop) → Prop
abbrev TA := St → Hp → (List V → Hp → Prop) → Prop
structure Ends where
  nx : St → Hp → Prop
  rt : VK
  bk : St → Hp → Prop := fun _ _ => False
  ct : St → Hp → Prop := fun _ _ => False
abbrev TS := Ends → St → Hp → Prop

def EP (X : Cx) (pins : List (Addr × Obj)) (σ : St) (Q : VK) (u : Value) (s' : Shared) : Prop := ∃ v H', Inv X pins σ H' s' ∧ RelV v u ∧ Q v H'
def TP (X : Cx) (pins : List (Addr × Obj)) (σ : St) (Q : Bool → Hp → Prop) (b : Bool) (s' : Shared) : Prop := ∃ H', Inv X pins σ H' s' ∧ Q b H'
def AP (X : Cx) (pins : List (Addr × Obj)) (σ : St) (Q : List V → Hp → Prop) (us : List Value) (s' : Shared) : Prop := ∃ vs H', Inv X pins σ H' s' ∧ Vals vs us ∧ Q vs H'
def SP (X : Cx) (pins : List (Addr × Obj)) (D : Ends) (f : Flow) (s' : Shared) : Prop :=
  match f with
  | .next => ∃ σ' H', Inv X pins σ' H' s' ∧ D.nx σ' H'
  | .brk => ∃ σ' H', Inv X pins σ' H' s' ∧ D.bk σ' H'
  | .cont => ∃ σ' H', Inv X pins σ' H' s' ∧ D.ct σ' H'
  | .ret u => ∃ v σ' H', Inv X pins σ' H' s' ∧ RelV v u ∧ D.rt v H'

def PE (X : Cx) (e : Expr) (t : TE) : Prop :=
  ∀ (pins : List (Addr × Obj)) (s : Shared) (σ : St) (H : Hp) (Q : VK), Inv X pins σ H s → t σ H Q → wpAny (model X.prog X.w) X.A (eval e X.env) (EP X pins σ Q) X.xe s
def PT (X : Cx) (e : Expr) (t : TT) : Prop :=
  ∀ (pins : List (Addr × Obj)) (s : Shared) (σ : St) (H : Hp) (Q : Bool → Hp → Prop), Inv X pins σ H s → t σ H Q → wpAny (model X.prog X.w) X.A (isTrue e X.env (eval e X.env)) (TP X pins σ Q) X.xe s
def PW (X : Cx) (e : Expr) (t : TT) : Prop :=
  ∀ (whole : Sem Value) (pins : List (Addr × Obj)) (s : Shared) (σ : St) (H : Hp) (Q : Bool → Hp → Prop), Inv X pins σ H s → t σ H Q → wpAny (model X.prog X.w) X.A (isTrue e X.env whole) (TP X pins σ Q) X.xe s
theorem PW.pt {X : Cx} {e : Expr} {t : TT} (h : PW X e t) : PT X e t := h _
def PA (X : Cx) (es : List Expr) (t : TA) : Prop :=
  ∀ (pos : Pos) (pins : List (Addr × Obj)) (s : Shared) (σ : St) (H : Hp) (Q : List V → Hp → Prop), Inv X pins σ H s → t σ H Q → wpAny (model X.prog X.w) X.A (spliced (backTo pos (starEach es X.env))) (AP X pins σ Q) X.xe s
def PS (X : Cx) (st : Stmt) (t : TS) : Prop :=
  ∀ (pins : List (Addr × Obj)) (s : Shared) (σ : St) (H : Hp) (D : Ends), Inv X pins σ H s → t D σ H → wpAny (model X.prog X.w) X.A (exec st X.env) (SP X pins D) X.xe s
def PSs (X : Cx) (st : List Stmt) (t : TS) : Prop :=
  ∀ (pins : List (Addr × Obj)) (s : Shared) (σ : St) (H : Hp) (D : Ends), Inv X pins σ H s → t D σ H → wpAny (model X.prog X.w) X.A (execs st X.env) (SP X pins D) X.xe s
theorem thn {α : Type} {t : Sem α} {Q Q' : α → Shared → Prop} {M : Model} {A : Around} {E : Value → Shared → Prop} {s : Shared} (h : wpAny M A t Q E s) (hQ : ∀ a s, Q a s → Q' a s) : wpAny M A t Q' E s := wpAny_mono h hQ fun _ _ x => x
end L2

namespace L2
open PySem PySem.Spec PyProof.Rows
section
variable {X : Cx}

theorem bin {a b : Expr} {ta tb : TE} (ha : PE X a ta) (hb : PE X b tb) {pins : List (Addr × Obj)} {s : Shared} {σ : St} {H : Hp} {R : V → V → Hp → Prop} (I : Inv X pins σ H s) (h : ta σ H fun x H1 => tb σ H1 fun y H2 => R x y H2)
    {α : Type} {Q : α → Shared → Prop} {f : Value → Value → Sem α}
    (hf : ∀ v u s2 x y H2, Inv X pins σ H2 s2 → RelV x v → RelV y u → R x y H2 → wpAny (model X.prog X.w) X.A (f v u) Q X.xe s2) :
    wpAny (model X.prog X.w) X.A (eval a X.env) (fun v s₁ => wpAny (model X.prog X.w) X.A (eval b X.env) (fun u s₂ => wpAny (model X.prog X.w) X.A (f v u) Q X.xe s₂) X.xe s₁) X.xe s := by
  refine thn (ha pins s σ H _ I h) fun v s1 ⟨x, H1, I1, r1, q1⟩ => ?_
  refine thn (hb pins s1 σ H1 _ I1 q1) fun u s2 ⟨y, H2, I2, r2, q2⟩ => ?_
  exact hf v u s2 x y H2 I2 r1 r2 q2

/-! ### names and constants -/
def tVar (i : Nat) : TE := fun σ H Q => ∃ v, σ[i]? = some (some v) ∧ Q v H
def tC (v : V) : TE := fun _ H Q => Q v H
theorem pe_var {i : Nat} {x : Str} {pos : Pos} (hN : X.N[i]? = some x) (hv : Vis X.env.scope x) (hd : (x == ("__debug__" : Str)) = false := by decide) (hcd : (x == ("__classdict__" : Str)) = false := by decide) : PE X (.Name x pos) (tVar i) := by
  intro pins s σ H Q I h
  obtain ⟨v, e, h⟩ := h
  obtain ⟨m, hn, hl⟩ := I.loc
  obtain ⟨u, r, l⟩ := hl i x v hN e hv
  have fin : EP X pins σ Q u s := ⟨v, H, I, r, h⟩
  rcases l with ⟨hk, hm⟩ | ⟨hk, c, hc, hcell⟩
  · exact wpAny_Name (wpAny_loadName_local I.ok.kind hk hn hm fin) hd
  · rcases hk with hk | hk
    · exact wpAny_Name (wpAny_loadName_cell I.ok.kind hk hc hcell fin) hd
    · exact wpAny_Name (wpAny_loadName_free I.ok.kind hk hc hcell fin hcd) hd
theorem pe_int {i j pos} : PE X (.Constant (.int i) j pos) (tC (.int i)) := fun _ _ _ H _ I h => wpAny_Constant_int ⟨.int i, H, I.tok _, ⟨_, rfl⟩, h⟩
theorem pe_bl {b j pos} : PE X (.Constant (.bool b) j pos) (tC (.bl b)) := fun _ _ _ H _ I h => Constant_bool ⟨.bl b, H, I, rfl, h⟩
theorem pe_non {j pos} : PE X (.Constant .none j pos) (tC .non) := fun _ _ _ H _ I h => Constant_none ⟨.non, H, I, rfl, h⟩
theorem pe_str {x j pos} : PE X (.Constant (.str x) j pos) (tC (.str x)) := fun _ _ _ H _ I h => Calls.Constant_str ⟨.str x, H, I.tok _, ⟨_, rfl⟩, h⟩

def Gl (X : Cx) (x : Str) : Prop := X.env.kindOf x = some .globalImplicit
theorem ld_glob {E : Value → Shared → Prop} {pins : List (Addr × Obj)} {s : Shared} {σ : St} {H : Hp} {x : Str} {u : Value} {pos : Pos} {Q : Value → Shared → Prop} (I : Inv X pins σ H s) (hg : Gl X x) (hm : X.mg x = some u) (h : Q u s)
    (hd : (x == ("__debug__" : Str)) = false := by decide) : wpAny (model X.prog X.w) X.A (eval (.Name x pos) X.env) Q E s :=
  Calls.Name_function_global I.ok.kind hg (Calls.loadGlobal_global (by rw [I.ok.glob]; exact I.mod.glob.keeps I.bk) hm h) hd
theorem ld_blt {E : Value → Shared → Prop} {pins : List (Addr × Obj)} {s : Shared} {σ : St} {H : Hp} {x : Str} {u : Value} {pos : Pos} {Q : Value → Shared → Prop} (I : Inv X pins σ H s) (hg : Gl X x) (hm : X.mg x = none) (hv : bootBuiltins x = some u) (h : Q u s)
    (hn : x ≠ "__name__" := by decide) (hd : (x == ("__debug__" : Str)) = false := by decide) : wpAny (model X.prog X.w) X.A (eval (.Name x pos) X.env) Q E s := by
  obtain ⟨mb, h1, h2⟩ := I.mod.blt
  exact Calls.Name_function_global I.ok.kind hg (Calls.loadGlobal_builtin (by rw [I.ok.glob]; exact I.mod.glob.keeps I.bk) hm (by rw [I.ok.blt]; exact h1.keeps I.bk) ((h2 x hn).trans hv) h) hd
theorem pe_glob {x : Str} {v : V} {u : Value} {pos : Pos} (hg : Gl X x) (hm : X.mg x = some u) (r : RelV v u) (hd : (x == ("__debug__" : Str)) = false := by decide) : PE X (.Name x pos) (tC v) :=
  fun _ _ _ H _ I h => ld_glob I hg hm ⟨v, H, I, r, h⟩ hd
/-! ### arithmetic -/
variable {a b : Expr} {ta tb : TE} {pos : Pos}
/-! ### comparisons -/
def PC (X : Cx) (op : CmpOp) (a b : Expr) (t : TE) : Prop :=
  ∀ (pins : List (Addr × Obj)) (s : Shared) (σ : St) (H : Hp) (Q : VK), Inv X pins σ H s → t σ H Q →
    wpAny (model X.prog X.w) X.A (eval a X.env) (fun v s₁ => wpAny (model X.prog X.w) X.A (eval b X.env) (fun u s₂ => wpAny (model X.prog X.w) X.A (compareOp op v u) (EP X pins σ Q) X.xe s₂) X.xe s₁) X.xe s
theorem nobehind (b : Expr) {op : CmpOp} (h : op ≠ .In) (h2 : op ≠ .NotIn) : behindInMarks op b = false := by
  have e1 : (op == CmpOp.In) = false := by cases op <;> first | rfl | exact absurd rfl h
  have e2 : (op == CmpOp.NotIn) = false := by cases op <;> first | rfl | exact absurd rfl h2
  cases b <;> simp [behindInMarks, e1, e2]
def tB (t : TE) : TT := fun σ H Q => t σ H fun x H1 => ∃ c, x = .bl c ∧ Q c H1
theorem pt_cmp {op : CmpOp} {t : TE} (h : PC X op a b t) (h1 : behindInMarks op b = false := by first | exact nobehind _ (by decide) (by decide) | rfl) : PT X (.Compare a [op] [b] pos) (tB t) := by
  intro pins s σ H Q I hw
  refine wpAny_isTrue_Compare1 (thn (h pins s σ H _ I hw) fun v s1 h1 => thn h1 fun u s2 h2 => thn h2 fun c s3 ⟨x, H1, I1, r1, q1⟩ => ?_) h1
  obtain ⟨d, rfl, q⟩ := q1
  cases r1
  exact wpAny_truthy_bool ⟨H1, I1, q⟩
theorem pt_val {e : Expr} {t : TE} (h : PE X e t) (he : ∀ whole, isTrue e X.env whole = (do let v ← whole; standAt e.pos; holding [v] (truthy v)) := by intro _; rfl) : PT X e (tB t) := by
  intro pins s σ H Q I hw
  refine isTrue_plain (thn (h pins s σ H _ I hw) fun v s1 ⟨x, H1, I1, r1, q1⟩ => ?_) (he _)
  obtain ⟨d, rfl, q⟩ := q1
  cases r1
  exact wpAny_truthy_bool ⟨H1, I1, q⟩

/-! ### and, or, not -/
variable {tA tB' : TT} {rest : List Expr}
def tAnd (t u : TT) : TT := fun σ H Q => t σ H fun c H1 => if c = true then u σ H1 Q else Q false H1
def tOr (t u : TT) : TT := fun σ H Q => t σ H fun c H1 => if c = true then Q true H1 else u σ H1 Q
def tNot (t : TT) : TT := fun σ H Q => t σ H fun c H1 => Q (!c) H1
theorem pw_and1 (ha : PT X a tA) : PW X (.BoolOp .And [a] pos) tA := by
  intro wh pins s σ H Q I h
  refine isTrue_and (thn (ha pins s σ H Q I h) fun c s1 e => ?_)
  cases c with
  | true => exact isTrue_and_nil e
  | false => exact e
theorem pw_or1 (ha : PT X a tA) : PW X (.BoolOp .Or [a] pos) tA := by
  intro wh pins s σ H Q I h
  refine isTrue_or (thn (ha pins s σ H Q I h) fun c s1 e => ?_)
  cases c with
  | false => exact isTrue_or_nil e
  | true => exact e
theorem pw_and (ha : PT X a tA) (hb : PW X (.BoolOp .And (b :: rest) pos) tB') : PW X (.BoolOp .And (a :: b :: rest) pos) (tAnd tA tB') := by
  intro wh pins s σ H Q I h
  refine isTrue_and (thn (ha pins s σ H _ I h) fun c s1 ⟨H1, I1, q1⟩ => ?_)
  cases c with
  | true => exact hb wh pins s1 σ H1 Q I1 q1
  | false => exact ⟨H1, I1, q1⟩
theorem pw_or (ha : PT X a tA) (hb : PW X (.BoolOp .Or (b :: rest) pos) tB') : PW X (.BoolOp .Or (a :: b :: rest) pos) (tOr tA tB') := by
  intro wh pins s σ H Q I h
  refine isTrue_or (thn (ha pins s σ H _ I h) fun c s1 ⟨H1, I1, q1⟩ => ?_)
  cases c with
  | true => exact ⟨H1, I1, q1⟩
  | false => exact hb wh pins s1 σ H1 Q I1 q1
def tAndV (ta tb : TE) : TE := fun σ H Q => ta σ H fun x H1 => ∃ c, x = .bl c ∧ if c = true then tb σ H1 Q else Q (.bl false) H1
def tOrV (ta tb : TE) : TE := fun σ H Q => ta σ H fun x H1 => ∃ c, x = .bl c ∧ if c = true then Q (.bl true) H1 else tb σ H1 Q
def tNotV (ta : TE) : TE := fun σ H Q => ta σ H fun x H1 => ∃ c, x = .bl c ∧ Q (.bl (!c)) H1
theorem pe_one {op} {t : TE} (h : PE X a t) : PE X (.BoolOp op [a] pos) t := fun pins s σ H Q I hw => BoolOp_one (h pins s σ H Q I hw)
theorem pe_and (ha : PE X a ta) (hb : PE X (.BoolOp .And (b :: rest) pos) tb) : PE X (.BoolOp .And (a :: b :: rest) pos) (tAndV ta tb) := by
  intro pins s σ H Q I h
  refine BoolOp_and (thn (ha pins s σ H _ I h) fun v s1 ⟨x, H1, I1, r1, q1⟩ => ?_)
  obtain ⟨c, rfl, q1⟩ := q1
  cases r1
  refine wpAny_truthy_bool ?_
  cases c with
  | true => exact hb pins s1 σ H1 Q I1 q1
  | false => exact ⟨.bl false, H1, I1, rfl, q1⟩
theorem pe_or (ha : PE X a ta) (hb : PE X (.BoolOp .Or (b :: rest) pos) tb) : PE X (.BoolOp .Or (a :: b :: rest) pos) (tOrV ta tb) := by
  intro pins s σ H Q I h
  refine BoolOp_or (thn (ha pins s σ H _ I h) fun v s1 ⟨x, H1, I1, r1, q1⟩ => ?_)
  obtain ⟨c, rfl, q1⟩ := q1
  cases r1
  refine wpAny_truthy_bool ?_
  cases c with
  | false => exact hb pins s1 σ H1 Q I1 q1
  | true => exact ⟨.bl true, H1, I1, rfl, q1⟩
theorem pe_not (ha : PE X a ta) : PE X (.UnaryOp .Not a pos) (tNotV ta) := by
  intro pins s σ H Q I h
  refine UnaryOp_ (thn (ha pins s σ H _ I h) fun v s1 ⟨x, H1, I1, r1, q1⟩ => ?_)
  obtain ⟨c, rfl, q1⟩ := q1
  cases r1
  exact not_of (wpAny_truthy_bool ⟨.bl (!c), H1, I1, rfl, q1⟩)
def tIf (t : TT) (ta tb : TE) : TE := fun σ H Q => t σ H fun c H1 => if c = true then ta σ H1 Q else tb σ H1 Q
end
end L2

namespace L2
open PySem PySem.Spec PyProof.Rows

/-! ### a list, a tuple that is read: tracked, frozen, or an object of the module -/
def SqL (K : PySem.W.Frag) (H : Hp) (a : Addr) (xs : List V) : Prop :=
  Rd H a (.lst xs) ∨
    ∃ (o : Obj) (its : Array Value) (n : Nat), K.lookup a = some o ∧ o.cls = .type "list" ∧ o.dict = none ∧ o.data = .seq its n ∧ its.size ≤ sizeLine ∧ Vals xs its.toList
def SqT (K : PySem.W.Frag) (H : Hp) (a : Addr) (xs : List V) : Prop :=
  Rd H a (.tup xs) ∨
    ∃ (o : Obj) (its : Array Value) (n : Nat), K.lookup a = some o ∧ o.cls = .type "tuple" ∧ o.data = .seq its n ∧ its.size ≤ sizeLine ∧ Vals xs its.toList
def absV : Value → Option V
  | .none => some .non
  | .bool b => some (.bl b)
  | .int i _ => some (.int i)
  | .str x _ => some (.str x)
  | .bytes b _ => some (.byt b)
  | .float b _ => some (.flt b)
  | .ref a => some (.ref a)
  | .type n => some (.ty n)
  | _ => none
theorem RelV.abs {x : V} {u : Value} (r : RelV x u) : absV u = some x := by
  cases x with
  | non => cases r; rfl
  | bl _ => cases r; rfl
  | int _ => obtain ⟨t, rfl⟩ := r; rfl
  | str _ => obtain ⟨t, rfl⟩ := r; rfl
  | byt _ => obtain ⟨t, rfl⟩ := r; rfl
  | flt _ => obtain ⟨t, rfl⟩ := r; rfl
  | ref _ => cases r; rfl
  | ty _ => cases r; rfl
theorem RelV.inj {x y : V} {u : Value} (r : RelV x u) (q : RelV y u) : x = y := Option.some.inj (r.abs.symm.trans q.abs)
theorem Vals.inj : ∀ {xs ys : List V} {us : List Value}, Vals xs us → Vals ys us → xs = ys
  | _, _, _, .nil, .nil => rfl
  | _, _, _, .cons r t, .cons r' t' => by rw [r.inj r', Vals.inj t t']
section
variable {X : Cx} {pins : List (Addr × Obj)} {σ : St} {H : Hp} {s : Shared} {a : Addr} {xs ys : List V}
theorem SqL.of {K : PySem.W.Frag} (h : H a = some (.lst xs)) : SqL K H a xs := .inl (.inl h)
theorem SqT.of {K : PySem.W.Frag} (h : H a = some (.tup xs)) : SqT K H a xs := .inl (.inl h)
theorem Inv.list (I : Inv X pins σ H s) (h : SqL X.K H a xs) : ∃ its : List Value, Vals xs its ∧ PlainL s.heap a its.toArray ∧ xs.length ≤ sizeLine := by
  rcases h with h | ⟨o, its, n, hk, hc, hd, hs, hz, r⟩
  · obtain ⟨z, its, n, r, e⟩ := h.ok I.hok
    exact ⟨its, r, ⟨_, n, e, rfl, rfl, rfl⟩, z⟩
  · refine ⟨its.toList, r, ⟨o, n, I.kIn a o hk, hc, hd, by simpa using hs⟩, ?_⟩
    have e := r.length
    simp only [Array.length_toList] at e
    omega
theorem Inv.tuple (I : Inv X pins σ H s) (h : SqT X.K H a xs) : ∃ its : List Value, Vals xs its ∧ IsTup s.heap a its.toArray ∧ xs.length ≤ sizeLine := by
  rcases h with h | ⟨o, its, n, hk, hc, hs, hz, r⟩
  · obtain ⟨z, its, r, p⟩ := h.ok I.hok
    exact ⟨its, r, p, z⟩
  · refine ⟨its.toList, r, ⟨o, I.kIn a o hk, hc, n, by simpa using hs⟩, ?_⟩
    have e := r.length
    simp only [Array.length_toList] at e
    omega
theorem Inv.list_inj (I : Inv X pins σ H s) (h : SqL X.K H a xs) (h' : SqL X.K H a ys) : xs = ys := by
  obtain ⟨its, r, ⟨o, n, e, _, _, d⟩, _⟩ := I.list h
  obtain ⟨its', r', ⟨o', n', e', _, _, d'⟩, _⟩ := I.list h'
  rw [e] at e'; cases e'
  rw [d] at d'
  injection d' with d1 _
  have : its = its' := by simpa using congrArg Array.toList d1
  subst this
  exact r.inj r'
end

/-! ### another wish about exceptions -/
abbrev Cx.wish (X : Cx) (E : Value → Shared → Prop) : Cx := { X with xe := E }
abbrev Cx.nox (X : Cx) : Cx := X.wish fun _ _ => False
theorem Cx.Ok.wish {X : Cx} (ok : X.Ok) (E : Value → Shared → Prop) : (X.wish E).Ok :=
  ⟨ok.mod, ok.kind, ok.glob, ok.blt, ok.above, ok.inj, ok.has, ok.cab, ok.hd, ok.frames, ok.stk, ok.exf, ok.bs, ok.bsz, ok.noex, ok.exfs, ok.funs, ok.frf⟩
theorem Cx.Ok.unwish {X : Cx} {E : Value → Shared → Prop} (ok : (X.wish E).Ok) : X.Ok :=
  ⟨ok.mod, ok.kind, ok.glob, ok.blt, ok.above, ok.inj, ok.has, ok.cab, ok.hd, ok.frames, ok.stk, ok.exf, ok.bs, ok.bsz, ok.noex, ok.exfs, ok.funs, ok.frf⟩
section
variable {X : Cx} {pins : List (Addr × Obj)} {σ : St} {H : Hp} {s : Shared} {E : Value → Shared → Prop}
theorem Inv.wish (I : Inv X pins σ H s) (E : Value → Shared → Prop) : Inv (X.wish E) pins σ H s := ⟨I.ok.wish E, I.os, I.bare, I.base, I.loc, I.cell, I.free, I.freeC, I.pin, I.hok, I.len⟩
theorem Inv.unwish (I : Inv (X.wish E) pins σ H s) : Inv X pins σ H s := ⟨I.ok.unwish, I.os, I.bare, I.base, I.loc, I.cell, I.free, I.freeC, I.pin, I.hok, I.len⟩
theorem SP.unwish {D : Ends} {f : Flow} {s' : Shared} (h : SP (X.wish E) pins D f s') : SP X pins D f s' := by
  cases f with
  | next => obtain ⟨σ', H', I, q⟩ := h; exact ⟨σ', H', I.unwish, q⟩
  | brk => obtain ⟨σ', H', I, q⟩ := h; exact ⟨σ', H', I.unwish, q⟩
  | cont => obtain ⟨σ', H', I, q⟩ := h; exact ⟨σ', H', I.unwish, q⟩
  | ret u => obtain ⟨v, σ', H', I, r, q⟩ := h; exact ⟨v, σ', H', I.unwish, r, q⟩
theorem PE.nox {e : Expr} {t : TE} (h : PE X.nox e t) : PE X e t := fun pins s σ H Q I hw =>
  wpAny_mono (h pins s σ H Q (I.wish _) hw) (fun _ _ ⟨v, H', I', r, q⟩ => ⟨v, H', I'.unwish, r, q⟩) fun _ _ z => False.elim z
theorem PT.nox {e : Expr} {t : TT} (h : PT X.nox e t) : PT X e t := fun pins s σ H Q I hw =>
  wpAny_mono (h pins s σ H Q (I.wish _) hw) (fun _ _ ⟨H', I', q⟩ => ⟨H', I'.unwish, q⟩) fun _ _ z => False.elim z
theorem PSs.nox {st : List Stmt} {t : TS} (h : PSs X.nox st t) : PSs X st t := fun pins s σ H D I hw =>
  wpAny_mono (h pins s σ H D (I.wish _) hw) (fun _ _ q => q.unwish) fun _ _ z => False.elim z
end

/-! ### blocks and small statements -/
section
variable {X : Cx} {st : Stmt} {rest : List Stmt} {t u : TS} {e : Expr} {te : TE} {pos : Pos}
def tNext : TS := fun D σ H => D.nx σ H
def tSeq (t u : TS) : TS := fun D σ H => t { D with nx := u D } σ H
theorem pss_nil : PSs X [] tNext := fun _ _ σ H _ I h => wpAny_execs_nil ⟨σ, H, I, h⟩
theorem pss_cons (h1 : PS X st t) (h2 : PSs X rest u) : PSs X (st :: rest) (tSeq t u) := by
  intro pins s σ H D I h
  refine wpAny_execs_cons (thn (h1 pins s σ H { D with nx := u D } I h) fun f s1 q => ?_)
  cases f with
  | next =>
    obtain ⟨σ', H', I', q⟩ := q
    exact h2 pins s1 σ' H' D I' q
  | ret v => exact q
  | brk => exact q
  | cont => exact q
theorem pss_one (h1 : PS X st t) : PSs X [st] t := by
  intro pins s σ H D I h
  refine wpAny_execs_cons (thn (h1 pins s σ H D I h) fun f s1 q => ?_)
  cases f with
  | next => exact wpAny_execs_nil q
  | ret v => exact q
  | brk => exact q
  | cont => exact q
theorem Inv.quiet {pins : List (Addr × Obj)} {σ : St} {H : Hp} {s : Shared} (I : Inv X pins σ H s) : interactive X.env = false := by simp [interactive, I.ok.kind]
def tDrop (te : TE) : TS := fun D σ H => te σ H fun _ H1 => D.nx σ H1
theorem ps_expr (he : PE X e te) (hs : swapsWith e none pos.line X.env = pure false := by rfl) : PS X (.Expr e pos) (tDrop te) := by
  intro pins s σ H D I h
  exact wpAny_Expr_any (thn (he pins s σ H _ I h) fun v s1 ⟨x, H1, I1, r1, q1⟩ => ⟨σ, H1, I1, q1⟩) I.quiet hs
def tRet (te : TE) : TS := fun D σ H => te σ H D.rt
theorem ps_ret (he : PE X e te) : PS X (.Return (some e) pos) (tRet te) := by
  intro pins s σ H D I h
  exact wpAny_Return_some (thn (he pins s σ H _ I h) fun v s1 ⟨x, H1, I1, r1, q1⟩ => ⟨x, σ, H1, I1, r1, q1⟩)
def tRetN : TS := fun D _ H => D.rt .non H
def tIfS (c : TT) (t u : TS) : TS := fun D σ H => c σ H fun b H1 => if b = true then t D σ H1 else u D σ H1
theorem ps_if {c : Expr} {a b : List Stmt} {tc : TT} (hc : PT X c tc) (ha : PSs X a t) (hb : PSs X b u) : PS X (.If c a b pos) (tIfS tc t u) := by
  intro pins s σ H D I h
  refine wpAny_If (thn (hc pins s σ H _ I h) fun d s1 ⟨H1, I1, q1⟩ => ?_)
  cases d with
  | true => exact ha pins s1 σ H1 D I1 q1
  | false => exact hb pins s1 σ H1 D I1 q1
end

/-! ### targets -/
abbrev TG := V → St → Hp → (St → Hp → Prop) → Prop
abbrev TGs := List V → St → Hp → (St → Hp → Prop) → Prop
def PG (X : Cx) (target : Expr) (t : TG) : Prop :=
  ∀ (pins : List (Addr × Obj)) (s : Shared) (σ : St) (H : Hp) (v : V) (u : Value) (Q : St → Hp → Prop), Inv X pins σ H s → RelV v u → t v σ H Q →
    wpAny (model X.prog X.w) X.A (assign target X.env u) (fun _ s' => ∃ σ' H', Inv X pins σ' H' s' ∧ Q σ' H') X.xe s
def PGs (X : Cx) (ts : List Expr) (t : TGs) : Prop :=
  ∀ (pins : List (Addr × Obj)) (s : Shared) (σ : St) (H : Hp) (vs : List V) (us : List Value) (Q : St → Hp → Prop), Inv X pins σ H s → Vals vs us → t vs σ H Q →
    wpAny (model X.prog X.w) X.A (assignInOrder ((assignEach ts X.env).map (·.2)) us) (fun _ s' => ∃ σ' H', Inv X pins σ' H' s' ∧ Q σ' H') X.xe s
abbrev TSet := V → V → V → Hp → (Hp → Prop) → Prop
def PSet (X : Cx) (t : TSet) : Prop :=
  ∀ (pins : List (Addr × Obj)) (s : Shared) (σ : St) (H : Hp) (o i v : V) (ov iv u : Value) (Q : Hp → Prop), Inv X pins σ H s → RelV o ov → RelV i iv → RelV v u → t o i v H Q →
    wpAny (model X.prog X.w) X.A (setItem ov iv u) (fun _ s' => ∃ H', Inv X pins σ H' s' ∧ Q H') X.xe s
section
variable {X : Cx} {pos : Pos}
def gName (i : Nat) : TG := fun v σ H Q => Q (σ.set i (some v)) H
theorem pg_name {i : Nat} {x : Str} (hN : X.N.Nodup) (hi : X.N[i]? = some x) (hx : Loc X.env.scope x) (hf : X.fn x = true ∨ X.env.scope.names.lookup x = some .local := by first | exact .inl rfl | exact .inr rfl | assumption) : PG X (.Name x pos) (gName i) := by
  intro pins s σ H v u Q I r h
  exact wpAny_assign_Name (store_ok I hN hi hx r (fun s' I' => ⟨_, H, I', h⟩) hf)
def gNil : TGs := fun vs σ H Q => vs = [] ∧ Q σ H
def gCons (t : TG) (u : TGs) : TGs := fun vs σ H Q => ∃ v r, vs = v :: r ∧ t v σ H fun σ' H' => u r σ' H' Q
theorem pgs_nil : PGs X [] gNil := by
  intro pins s σ H vs us Q I r h
  obtain ⟨e, h⟩ := h
  subst e
  cases r
  exact assignInOrder_nil ⟨σ, H, I, h⟩
theorem pgs_cons {e : Expr} {es : List Expr} {t : TG} {u : TGs} (h1 : PG X e t) (h2 : PGs X es u)
    (hs : (assignEach (e :: es) X.env).map (·.2) = assign e X.env :: (assignEach es X.env).map (·.2) := by rfl) : PGs X (e :: es) (gCons t u) := by
  intro pins s σ H vs us Q I r h
  obtain ⟨v, vr, e1, h⟩ := h
  subst e1
  cases r with
  | cons r rr =>
    rw [hs]
    refine assignInOrder_cons (thn (h1 pins s σ H _ _ _ I r h) fun _ s1 ⟨σ1, H1, I1, q1⟩ => ?_)
    exact h2 pins s1 σ1 H1 _ _ Q I1 rr q1
def gTup (K : PySem.W.Frag) (n : Nat) (t : TGs) : TG := fun v σ H Q => ∃ a xs, v = .ref a ∧ SqT K H a xs ∧ xs.length = n ∧ t xs σ H Q
theorem pg_tup {es : List Expr} {k : Nat} {t : TGs} {n : Nat} (hc : X.calm = true) (h : PGs X es t)
    (hn : (assignEach es X.env).length = n := by rfl) (hst : (assignEach es X.env).findIdx? (·.1) = none := by rfl) : PG X (.Tuple es k pos) (gTup X.K n t) := by
  intro pins s σ H v u Q I r hw
  obtain ⟨a, xs, e1, hq, hl, hw⟩ := hw
  subst e1
  cases r
  obtain ⟨its, rv, ht, hz⟩ := I.tuple hq
  refine assign_Tuple_tuple (I.ok.hd hc) ht (by simp [hn, ← hl, rv.length]) hst fun h' hx => ?_
  have I1 : Inv X pins σ H { s with heap := h' } := I.kept (t' := s.toks) fun b o e => hx b o (Nat.ne_of_lt (Heap.lt_size e)) e
  exact h pins _ σ H xs _ Q I1 (by simpa using rv) hw
def gSub (to ti : TE) (t : TSet) : TG := fun v σ H Q => to σ H fun o H1 => ti σ H1 fun i H2 => t o i v H2 fun H3 => Q σ H3
theorem pg_sub {o i : Expr} {to ti : TE} {t : TSet} (ho : PE X o to) (hi : PE X i ti) (hs : PSet X t)
    (ha : ∀ v, assign (.Subscript o i pos) X.env v = (do
      let ov ← holding [v] (eval o X.env)
      let iv ← holding [v, ov] (eval i X.env)
      standAt pos
      holding [v, ov, iv] (setItem ov iv v)
      release [v, ov, iv] []) := by intro _; rfl) : PG X (.Subscript o i pos) (gSub to ti t) := by
  intro pins s σ H v u Q I r h
  rw [ha]
  refine wpAny_bind (wpAny_holding (thn (ho pins s σ H _ I h) fun ov s1 ⟨x, H1, I1, r1, q1⟩ => ?_))
  refine wpAny_bind (wpAny_holding (thn (hi pins s1 σ H1 _ I1 q1) fun iv s2 ⟨y, H2, I2, r2, q2⟩ => ?_))
  refine wpAny_bind (wpAny_standAt (wpAny_bind (wpAny_holding (thn (hs pins s2 σ H2 x y v ov iv u _ I2 r1 r2 r q2) fun _ s3 ⟨H3, I3, q3⟩ => ?_))))
  exact wpAny_release ⟨σ, H3, I3, q3⟩
def tAsg (te : TE) (g : TG) : TS := fun D σ H => te σ H fun x H1 => g x σ H1 D.nx
theorem ps_asg {tg e : Expr} {te : TE} {g : TG} (he : PE X e te) (hg : PG X tg g) (hs : swapsWithSole [tg] e pos.line X.env = pure false := by rfl) (hw : swappedStores [tg] e X.env = pure none := by rfl)
    (h1 : (assignEach [tg] X.env).map (·.2) = [assign tg X.env] := by rfl) : PS X (.Assign [tg] e pos) (tAsg te g) := by
  intro pins s σ H D I h
  refine wpAny_Assign_stores (thn (he pins s σ H _ I h) fun v s1 ⟨x, H1, I1, r1, q1⟩ => ?_) hs hw
  rw [h1]
  exact thn (hg pins s1 σ H1 x v _ I1 r1 q1) fun _ s2 q => q
theorem ps_set {i : Nat} {x : Str} {e : Expr} {te : TE} {pos' : Pos} (hN : X.N.Nodup) (hi : X.N[i]? = some x) (hx : Loc X.env.scope x) (he : PE X e te) (hs : swapsWith e (some (.Name x pos')) pos.line X.env = pure false := by rfl) (hf : X.fn x = true ∨ X.env.scope.names.lookup x = some .local := by first | exact .inl rfl | exact .inr rfl | assumption) :
    PS X (.Assign [.Name x pos'] e pos) (tAsg te (gName i)) := by
  intro pins s σ H D I h
  refine wpAny_Assign_Name (thn (he pins s σ H _ I h) fun v s1 ⟨y, H1, I1, r1, q1⟩ => ?_) hs
  exact store_ok I1 hN hi hx r1 (fun s2 I2 => ⟨_, H1, I2, q1⟩) hf
end

/-! ### while -/
section
variable {X : Cx} {pos : Pos}
def tWhile (c : TT) (tb : TS) : TS := fun D σ H => ∃ W : Nat → St → Hp → Prop, (∃ m, W m σ H) ∧ ∀ m σ H, W m σ H →
  c σ H fun b H1 => if b = true then ∃ N : St → Hp → Prop, (∀ σ' H', N σ' H' → ∃ m', m' < m ∧ W m' σ' H') ∧ tb { D with nx := N, ct := N, bk := D.nx } σ H1 else D.nx σ H1
theorem ps_while {c : Expr} {body : List Stmt} {tc : TT} {tb : TS} (hp : PassesOwn (model X.prog X.w) X.A X.env X.xe) (hc : PT X c tc) (hb : PSs X body tb) : PS X (.While c body [] pos) (tWhile tc tb) := by
  intro pins s σ H D I h
  obtain ⟨W, ⟨m0, w0⟩, turn⟩ := h
  refine wpAny_While (codeAny_whileLoop (fun n s' => ∃ σ' H', Inv X pins σ' H' s' ∧ W n σ' H') ?_ m0 ⟨σ, H, I, w0⟩)
  rintro n s1 ⟨σ1, H1, I1, w1⟩
  refine wpAny_passesOwn hp (thn (hc pins s1 σ1 H1 _ I1 (turn n σ1 H1 w1)) fun b s2 ⟨H2, I2, q2⟩ => ?_)
  cases b with
  | true =>
    obtain ⟨N, hN, q2⟩ := q2
    rw [if_pos rfl]
    refine wpAny_passesOwn hp (thn (hb pins s2 σ1 H2 _ I2 q2) fun f s3 q3 => ?_)
    cases f with
    | next =>
      obtain ⟨σ3, H3, I3, n3⟩ := q3
      obtain ⟨m', hm, w3⟩ := hN σ3 H3 n3
      exact ⟨m', hm, σ3, H3, I3, w3⟩
    | cont =>
      obtain ⟨σ3, H3, I3, n3⟩ := q3
      obtain ⟨m', hm, w3⟩ := hN σ3 H3 n3
      exact ⟨m', hm, σ3, H3, I3, w3⟩
    | brk => exact q3
    | ret v => exact q3
  | false =>
    rw [if_neg Bool.false_ne_true]
    exact wpAny_execs_nil ⟨σ1, H2, I2, q2⟩
end

/-! ### what a loop or a comprehension walks -/
structure It where
  go : Nat → Hp → Prop
  yld : Nat → Hp → V → Hp → Prop
  stop : Nat → Hp → Prop
def FpOk (X : Cx) (pins : List (Addr × Obj)) (H : Hp) (b : Addr) : Prop :=
  H b = none ∧ b ≠ X.env.locals ∧ b ∉ X.fs ∧ (b ∈ X.ex ∨ X.s₀.heap.objs.size ≤ b) ∧ (∀ x c, X.env.cells.lookup x = some c → c ≠ b) ∧ ∀ p ∈ X.pn ++ pins, p.1 ≠ b
theorem Inv.fpOk {X : Cx} {pins : List (Addr × Obj)} {σ : St} {H H' : Hp} {s : Shared} {b : Addr} (I : Inv X pins σ H s) (hb : s.heap.objs.size ≤ b) (hn : H' b = none) : FpOk X pins H' b := by
  refine ⟨hn, Nat.ne_of_gt (Nat.lt_of_lt_of_le I.lt hb), I.nofs hb, .inr (Nat.le_trans I.sz hb), fun x c e z => ?_, fun p hp z => ?_⟩
  · obtain ⟨v, q⟩ := I.cell x c e
    exact absurd (Nat.lt_of_lt_of_le q.lt (by rw [z]; exact hb)) (Nat.lt_irrefl _)
  · exact absurd (Nat.lt_of_lt_of_le (Heap.lt_size (I.pin p hp).1) (by rw [z]; exact hb)) (Nat.lt_irrefl _)
structure Turn (P : Program) (w : World) (K : PySem.W.Frag) (tg : Expr) (J : It) (fp : List Addr) (it : Addr) (tn : Nat → Heap → Prop) : Prop where
  mem : it ∈ fp
  obj : ∀ i h, tn i h → ∀ b ∈ fp, ∃ o, h.get? b = some o ∧ ∀ v, o.data ≠ .cell v
  keep : ∀ i h h', tn i h → (∀ b ∈ fp, ∀ o, h.get? b = some o → h'.get? b = some o) → tn i h'
  item : ∀ (X : Cx), X.prog = P → X.w = w → X.K = K → X.calm = true → ∀ (i : Nat) (pins : List (Addr × Obj)) (s : Shared) (σ : St) (H : Hp) (E : Value → Shared → Prop), Inv X pins σ H s → (∀ b ∈ fp, FpOk X pins H b) → tn i s.heap → J.go i H →
    wpAny (model P w) X.A (pyNext (.ref it)) (fun r s1 => ∃ u, r = some u ∧
      wpAny (model P w) X.A (letOwnedTupleGo tg (.ref it) u) (fun _ s2 => ∃ x H', Inv X pins σ H' s2 ∧ RelV x u ∧ J.yld i H x H' ∧ tn (i + 1) s2.heap ∧ ∀ b ∈ fp, H' b = none) E s1) E s
  done : ∀ (X : Cx), X.prog = P → X.w = w → X.K = K → X.calm = true → ∀ (i : Nat) (pins : List (Addr × Obj)) (s : Shared) (σ : St) (H : Hp) (E : Value → Shared → Prop), Inv X pins σ H s → (∀ b ∈ fp, FpOk X pins H b) → tn i s.heap → J.stop i H →
    wpAny (model P w) X.A (pyNext (.ref it)) (fun r s1 => r = none ∧ Inv X pins σ H s1) E s
  self : ∀ (A : Around) (i : Nat) (s : Shared) (Q : Value → Shared → Prop) (E : Value → Shared → Prop), tn i s.heap → Q (.ref it) s → wpAny (model P w) A (pyIter (.ref it)) Q E s
abbrev TI := St → Hp → (It → Hp → Prop) → Prop
def PIE (X : Cx) (pins : List (Addr × Obj)) (σ : St) (tg : Expr) (R : It → Hp → Prop) (itv : Value) (s2 : Shared) : Prop :=
  ∃ (it : Addr) (fp : List Addr) (tn : Nat → Heap → Prop) (J : It) (H' : Hp), itv = .ref it ∧ Inv X pins σ H' s2 ∧ Turn X.prog X.w X.K tg J fp it tn ∧ tn 0 s2.heap ∧ (∀ b ∈ fp, FpOk X pins H' b) ∧ R J H'
def PI (X : Cx) (tg iter : Expr) (wi : TI) : Prop :=
  ∀ (pins : List (Addr × Obj)) (s : Shared) (σ : St) (H : Hp) (R : It → Hp → Prop), Inv X pins σ H s → wi σ H R →
    wpAny (model X.prog X.w) X.A (eval iter X.env) (fun v s1 => wpAny (model X.prog X.w) X.A (pyIter v) (PIE X pins σ tg R) X.xe s1) X.xe s

theorem go_of {M : Model} {A : Around} {E : Value → Shared → Prop} {s : Shared} {tg : Expr} {it : Addr} {u : Value} {o : Obj} {n : String} {vs : Array Value} {Q : Unit → Shared → Prop} (ho : s.heap.get? it = some o) (hc : o.cls = .type n) (hd : o.data = .fields vs)
    (hn : ["enumerate", "zip", "dict_itemiterator", "dict_reverseitemiterator", "odict_iterator", "itertools.zip_longest", "itertools.pairwise"].contains n = false) (hQ : Q () s) : wpAny M A (letOwnedTupleGo tg (.ref it) u) Q E s := by
  unfold letOwnedTupleGo
  cases tg <;> first
    | exact wpAny_pure hQ
    | (cases u <;> first
        | exact wpAny_pure hQ
        | (refine wpAny_bind (wpAny_load ho ?_)
           rw [hc, hd]
           show wpAny M A (if (["enumerate", "zip", "dict_itemiterator", "dict_reverseitemiterator", "odict_iterator", "itertools.zip_longest", "itertools.pairwise"].contains n && vs[0]? == some (rawInt _)) = true then _ else _) Q E s
           rw [if_neg (by intro h; rw [hn, Bool.false_and] at h; cases h)]
           exact wpAny_pure hQ))

def Itl (K : PySem.W.Frag) (a : Addr) : It :=
  ⟨fun i H => ∃ xs x, SqL K H a xs ∧ xs[i]? = some x, fun i H x H' => H' = H ∧ ∀ xs, SqL K H a xs → xs[i]? = some x, fun i H => ∃ xs, SqL K H a xs ∧ xs.length ≤ i⟩
def Itr (lo : Int) (n : Nat) : It := ⟨fun i _ => i < n, fun i H x H' => H' = H ∧ x = .int (lo + i), fun i _ => n ≤ i⟩
theorem turn_list {P : Program} {w : World} {K : PySem.W.Frag} {tg : Expr} (a it : Addr) : Turn P w K tg (Itl K a) [it] it (fun i h => h.IsListIter it a i) where
  mem := by simp
  obj := fun i h st b hb => by
    have e : b = it := by simpa using hb
    subst e
    obtain ⟨o, e, c, d⟩ := st
    exact ⟨o, e, fun v z => by rw [d] at z; cases z⟩
  keep := fun i h h' st k => st.at fun o e => k it (by simp) o e
  item := by
    intro X hP hw hK hc i pins s σ H E I hf st hg
    subst hP hw hK
    obtain ⟨xs, x, hq, hx⟩ := hg
    obtain ⟨its, rv, p, hz⟩ := I.list hq
    obtain ⟨u, hu, ru⟩ := rv.get hx
    obtain ⟨f0, f1, f2, f3, f4, f5⟩ := hf it (by simp)
    refine wpAny_pyNext_list_item st p.isList (x := u) (by simpa using hu) fun h' st' sb => ?_
    have I1 : Inv X pins σ H { s with heap := h' } := I.turned (t' := s.toks) (fun b o hb e => (sb.2 b hb).trans e) f0 f1 f3 f4 f5
    obtain ⟨o, e, c, d⟩ := id st'
    exact ⟨u, rfl, go_of (s := { s with heap := h' }) e c d (by decide) ⟨x, H, I1, ru, ⟨rfl, fun ys hy => by rw [I.list_inj hy hq]; exact hx⟩, st', fun b hb => (hf b hb).1⟩⟩
  done := by
    intro X hP hw hK hc i pins s σ H E I hf st hg
    subst hP hw hK
    obtain ⟨xs, hq, hx⟩ := hg
    obtain ⟨its, rv, p, hz⟩ := I.list hq
    obtain ⟨f0, f1, f2, f3, f4, f5⟩ := hf it (by simp)
    have hl := rv.length
    exact wpAny_pyNext_list_end (I.ok.hd hc) st p.isList (by simp; omega) fun h' eb => ⟨rfl, I.turned (t' := s.toks) (fun b o hb e => eb b o hb e) f0 f1 f3 f4 f5⟩
  self := fun _ _ _ _ _ st h => wpAny_pyIter_listiter st h
theorem turn_range {P : Program} {w : World} {K : PySem.W.Frag} {tg : Expr} (it : Addr) (lo : Int) (n : Nat) : Turn P w K tg (Itr lo n) [it] it (fun i h => IsRangeIter h it (lo + (i : Nat) * 1) ((n : Int) - (i : Nat)) 1) where
  mem := by simp
  obj := fun i h st b hb => by
    have e : b = it := by simpa using hb
    subst e
    exact ⟨_, st, fun v z => by
      have z' : Data.fields _ = Data.cell v := z
      cases z'⟩
  keep := fun i h h' st k => k it (by simp) _ st
  item := by
    intro X hP hw hK hc i pins s σ H E I hf st hg
    subst hP hw hK
    obtain ⟨f0, f1, f2, f3, f4, f5⟩ := hf it (by simp)
    have W := Walks.range (prog := X.prog) (w := X.w) (I.ok.hd hc) it lo 1 n
    refine W.item i s _ _ hg st fun v h' tk hv st' kk => ?_
    obtain ⟨t, rfl⟩ := hv
    have I1 : Inv X pins σ H { s with heap := h', toks := tk } := I.turned (fun b o hb e => kk b o (by simpa using hb) e) f0 f1 f3 f4 f5
    refine ⟨_, rfl, go_of (s := { s with heap := h', toks := tk }) (n := "range_iterator") st' rfl rfl (by decide) ⟨.int (lo + i), H, I1, ⟨t, ?_⟩, ⟨rfl, rfl⟩, st', fun b hb => (hf b hb).1⟩⟩
    rw [Int.mul_one]
  done := by
    intro X hP hw hK hc i pins s σ H E I hf st hg
    subst hP hw hK
    obtain ⟨f0, f1, f2, f3, f4, f5⟩ := hf it (by simp)
    exact wpAny_pyNext_range_end (I.ok.hd hc) st (by have : n ≤ i := hg; omega) fun h' eb => ⟨rfl, I.turned (t' := s.toks) (fun b o hb e => eb b o hb e) f0 f1 f3 f4 f5⟩
  self := fun _ _ _ _ _ st h => wpAny_pyIter_rangeiter st h
end L2

namespace L2
open PySem PySem.Spec PyProof.Rows
section
variable {X : Cx} {tg : Expr}
def iList (K : PySem.W.Frag) (tl : TE) : TI := fun σ H R => tl σ H fun x H1 => ∃ a, x = .ref a ∧ (∃ xs, SqL K H1 a xs) ∧ R (Itl K a) H1
theorem pi_list {l : Expr} {tl : TE} (hl : PE X l tl) : PI X tg l (iList X.K tl) := by
  intro pins s σ H R I h
  refine thn (hl pins s σ H _ I h) fun v s1 ⟨x, H1, I1, r1, q1⟩ => ?_
  obtain ⟨a, e, ⟨xs, hq⟩, q⟩ := q1
  subst e
  cases r1
  obtain ⟨its, rv, p, hz⟩ := I1.list hq
  refine wpAny_pyIter_list p.isList ?_
  refine ⟨s1.heap.objs.size, [s1.heap.objs.size], _, _, H1, rfl, I1.kept (t' := s1.toks) fun b o e => Heap.get?_push_of_some _ e, turn_list a _, ⟨_, Heap.get?_push_size _ rfl, rfl, rfl⟩, fun b hb => ?_, q⟩
  have e : b = s1.heap.objs.size := by simpa using hb
  subst e
  exact I1.fpOk (Nat.le_refl _) (I1.hok.fresh (Nat.le_refl _))
theorem range_it {pins : List (Addr × Obj)} {σ : St} {H : Hp} {s : Shared} {R : It → Hp → Prop} {E : Value → Shared → Prop} {lo hi : Int} {t u v : Tok} {tk : Nat} (I : Inv X pins σ H s) (h1 : -(2 ^ 62) ≤ lo) (h2 : lo < 2 ^ 62) (h3 : -(2 ^ 62) ≤ hi) (h4 : hi < 2 ^ 62)
    (q : R (Itr lo (hi - lo).toNat) H) : wpAny (model X.prog X.w) X.A (pyIter (.ref s.heap.objs.size)) (PIE X pins σ tg R) E { s with heap := s.heap.push { cls := .type "range", data := .fields #[.int lo t, .int hi u, .int 1 v] }, toks := tk } := by
  refine wpAny_pyIter_range (IsRange.new ..) (small_one h1 h2 h3 h4) ?_
  have I1 : Inv X pins σ H { s with heap := s.heap.push { cls := .type "range", data := .fields #[.int lo t, .int hi u, .int 1 v] }, toks := tk } := I.kept fun b o e => Heap.get?_push_of_some _ e
  refine ⟨(s.heap.push { cls := .type "range", data := .fields #[.int lo t, .int hi u, .int 1 v] }).objs.size, [(s.heap.push { cls := .type "range", data := .fields #[.int lo t, .int hi u, .int 1 v] }).objs.size], _, _, H, rfl,
    I1.kept (t' := tk) fun b o e => Heap.get?_push_of_some _ e, turn_range _ lo (hi - lo).toNat, ?_, fun b hb => ?_, q⟩
  · have e1 : lo + ((0 : Nat) : Int) * 1 = lo := by simp
    have e2 : (((hi - lo).toNat : Nat) : Int) - ((0 : Nat) : Int) = Builtin.Range.rangeSize lo hi 1 := by rw [rangeSize_one]; split <;> omega
    show IsRangeIter _ _ (lo + ((0 : Nat) : Int) * 1) ((((hi - lo).toNat : Nat) : Int) - ((0 : Nat) : Int)) 1
    rw [e1, e2]
    exact Heap.get?_push_size _ rfl
  · have e : b = (s.heap.push { cls := .type "range", data := .fields #[.int lo t, .int hi u, .int 1 v] }).objs.size := by simpa using hb
    subst e
    exact I1.fpOk (Nat.le_refl _) (I1.hok.fresh (Nat.le_refl _))
def iRng1 (ta : TA) : TI := fun σ H R => ta σ H fun vs H1 => ∃ j : Int, vs = [.int j] ∧ -(2 ^ 62) ≤ j ∧ j < 2 ^ 62 ∧ R (Itr 0 j.toNat) H1
theorem pi_range1 {a : Expr} {ta : TA} {p pos : Pos} (hg : Gl X "range") (hm : X.mg "range" = none) (ha : PA X [a] ta) (hs : starEach [a] X.env = [(false, eval a X.env)] := by rfl) : PI X tg (.Call (.Name "range" p) [a] [] pos) (iRng1 ta) := by
  intro pins s σ H R I h
  refine Call_ (ld_blt I hg hm boot_range (PyProof.Rows.callWith_type1 (thn (ha pos pins s σ H _ I h) fun us s1 ⟨vs, H1, I1, r1, q1⟩ => ?_) hs rfl))
  obtain ⟨j, e, q1, q2, q⟩ := q1
  subst e
  cases r1 with
  | cons r rr =>
    cases rr
    obtain ⟨t, rfl⟩ := r
    exact call_range_1 (range_it I1 (by omega) (by omega) q1 q2 (by simpa using q))
/-! ### for -/
def tFor (wi : TI) (g : TG) (tb : TS) : TS := fun D σ H => wi σ H fun J H1 => ∃ W : Nat → Nat → St → Hp → Prop, (∃ m, W 0 m σ H1) ∧ ∀ i m σ H, W i m σ H →
  (J.stop i H ∧ D.nx σ H) ∨ (J.go i H ∧ ∃ N : St → Hp → Prop, (∀ σ' H', N σ' H' → ∃ m', m' < m ∧ W (i + 1) m' σ' H') ∧ ∀ x H', J.yld i H x H' → g x σ H' fun σ2 H2 => tb { D with nx := N, ct := N, bk := D.nx } σ2 H2)
def pinsAt (fp : List Addr) (h : Heap) : List (Addr × Obj) := fp.filterMap fun b => (h.get? b).map fun o => (b, o)
theorem mem_pinsAt {fp : List Addr} {h : Heap} {b : Addr} {o : Obj} (hb : b ∈ fp) (e : h.get? b = some o) : (b, o) ∈ pinsAt fp h := List.mem_filterMap.mpr ⟨b, hb, by rw [e]; rfl⟩
theorem of_pinsAt {fp : List Addr} {h : Heap} {p : Addr × Obj} (hp : p ∈ pinsAt fp h) : p.1 ∈ fp ∧ h.get? p.1 = some p.2 := by
  obtain ⟨b, hb, e⟩ := List.mem_filterMap.mp hp
  cases q : h.get? b with
  | none => rw [q] at e; cases e
  | some o =>
    rw [q] at e
    have e' : (b, o) = p := Option.some.inj e
    subst e'
    exact ⟨hb, q⟩
theorem Inv.pinned {pins : List (Addr × Obj)} {σ : St} {H : Hp} {s : Shared} {fp : List Addr} (I : Inv X pins σ H s) (hf : ∀ b ∈ fp, FpOk X pins H b) (ho : ∀ b ∈ fp, ∃ o, s.heap.get? b = some o ∧ ∀ v, o.data ≠ .cell v) : Inv X (pins ++ pinsAt fp s.heap) σ H s :=
  I.pins_of fun p hp => (List.mem_append.mp hp).elim (fun z => I.pin p (List.mem_append_right _ z)) fun z => by
    obtain ⟨hb, e⟩ := of_pinsAt z
    obtain ⟨f0, f1, f2, _⟩ := hf p.1 hb
    obtain ⟨o, e', d⟩ := ho p.1 hb
    rw [e] at e'; cases e'
    exact ⟨e, f0, f1, f2, d⟩
theorem Inv.unpinned {pins pl : List (Addr × Obj)} {σ : St} {H : Hp} {s : Shared} (I : Inv X (pins ++ pl) σ H s) : Inv X pins σ H s := I.pins_of fun p hp => I.pin p (List.mem_append_right _ (List.mem_append_left _ hp))
theorem ps_for {iter : Expr} {body : List Stmt} {wi : TI} {g : TG} {tb : TS} {pos : Pos} (hp : PassesOwn (model X.prog X.w) X.A X.env X.xe) (hc : X.calm = true) (hi : PI X tg iter wi) (hg : PG X tg g) (hb : PSs X body tb)
    (hs : ∀ x, foldedSetIterable iter X.env x = pure x := by intro _; rfl) : PS X (.For tg iter body [] pos) (tFor wi g tb) := by
  intro pins s σ H D I h
  refine wpAny_For (thn (hi pins s σ H _ I h) fun v s1 h1 => thn h1 fun itv s2 h2 => ?_) hs
  obtain ⟨it, fp, tn, J, H2, e, I2, T, st2, f2, W, ⟨m0, w0⟩, turn⟩ := h2
  subst e
  -- what stays true of the iterator's objects through the loop
  have stat : ∀ {H' : Hp}, (∀ b ∈ fp, H' b = none) → ∀ b ∈ fp, FpOk X pins H' b := fun hn b hb => ⟨hn b hb, (f2 b hb).2⟩
  refine codeAny_forLoop_any (fun n s' => ∃ i σ' H', Inv X pins σ' H' s' ∧ tn i s'.heap ∧ (∀ b ∈ fp, H' b = none) ∧ W i n σ' H') ?_ m0 ⟨0, σ, H2, I2, st2, fun b hb => (f2 b hb).1, w0⟩
  rintro n s3 ⟨i, σ3, H3, I3, st3, fr3, w3⟩
  rcases turn i n σ3 H3 w3 with ⟨stop, qn⟩ | ⟨go, N, hN, step⟩
  · refine wpAny_passesOwn hp (thn (T.done X rfl rfl rfl hc i pins s3 σ3 H3 X.xe I3 (stat fr3) st3 stop) fun r s4 ⟨hr, I4⟩ => ?_)
    subst hr
    exact wpAny_execs_nil ⟨σ3, H3, I4, qn⟩
  · refine wpAny_passesOwn hp (thn (T.item X rfl rfl rfl hc i pins s3 σ3 H3 X.xe I3 (stat fr3) st3 go) fun r s4 ⟨u, hr, h4⟩ => ?_)
    subst hr
    refine wpAny_passesOwn hp (thn h4 fun _ s5 ⟨x, H5, I5, r5, y5, st5, fr5⟩ => ?_)
    have I5' := I5.pinned (stat fr5) (T.obj _ _ st5)
    refine wpAny_passesOwn hp (thn (hg _ s5 σ3 H5 x u _ I5' r5 (step x H5 y5)) fun _ s6 ⟨σ6, H6, I6, q6⟩ => ?_)
    refine wpAny_passesOwn hp (thn (hb _ s6 σ6 H6 _ I6 q6) fun f s7 q7 => ?_)
    have again : ∀ {σ7 : St} {H7 : Hp}, Inv X (pins ++ pinsAt fp s5.heap) σ7 H7 s7 → N σ7 H7 → ∃ m, m < n ∧ ∃ i σ' H', Inv X pins σ' H' s7 ∧ tn i s7.heap ∧ (∀ b ∈ fp, H' b = none) ∧ W i m σ' H' := fun {σ7 H7} I7 n7 => by
      obtain ⟨m', hm, w7⟩ := hN σ7 H7 n7
      refine ⟨m', hm, i + 1, σ7, H7, I7.unpinned, T.keep _ _ _ st5 fun b hb o e => (I7.pin (b, o) (List.mem_append_right _ (List.mem_append_right _ (mem_pinsAt hb e)))).1, fun b hb => ?_, w7⟩
      obtain ⟨o, e, d⟩ := T.obj _ _ st5 b hb
      exact (I7.pin (b, o) (List.mem_append_right _ (List.mem_append_right _ (mem_pinsAt hb e)))).2.1
    cases f with
    | next => obtain ⟨σ7, H7, I7, n7⟩ := q7; exact again I7 n7
    | cont => obtain ⟨σ7, H7, I7, n7⟩ := q7; exact again I7 n7
    | brk => obtain ⟨σ7, H7, I7, q7⟩ := q7; exact ⟨σ7, H7, I7.unpinned, q7⟩
    | ret v => obtain ⟨x7, σ7, H7, I7, r7, q7⟩ := q7; exact ⟨x7, σ7, H7, I7.unpinned, r7, q7⟩
end

/-! ### the forms one uses -/
theorem for_list {K : PySem.W.Frag} {a : Addr} {xs : List V} {g : TG} {tb : TS} {D : Ends} {σ : St} {H : Hp} (Pv : Nat → St → Hp → Prop) (h0 : Pv 0 σ H) (hl : ∀ i σ H, i ≤ xs.length → Pv i σ H → SqL K H a xs)
    (hs : ∀ i x σ H, xs[i]? = some x → Pv i σ H → g x σ H fun σ2 H2 => tb { D with nx := Pv (i + 1), ct := Pv (i + 1), bk := D.nx } σ2 H2) (hd : ∀ σ H, Pv xs.length σ H → D.nx σ H) :
    ∃ W : Nat → Nat → St → Hp → Prop, (∃ m, W 0 m σ H) ∧ ∀ i m σ H, W i m σ H →
      ((Itl K a).stop i H ∧ D.nx σ H) ∨ ((Itl K a).go i H ∧ ∃ N : St → Hp → Prop, (∀ σ' H', N σ' H' → ∃ m', m' < m ∧ W (i + 1) m' σ' H') ∧ ∀ x H', (Itl K a).yld i H x H' → g x σ H' fun σ2 H2 => tb { D with nx := N, ct := N, bk := D.nx } σ2 H2) := by
  refine ⟨fun i m σ H => m = xs.length - i ∧ i ≤ xs.length ∧ Pv i σ H, ⟨xs.length, by simp, Nat.zero_le _, h0⟩, ?_⟩
  rintro i m σ H ⟨rfl, hi, p⟩
  have q := hl i σ H hi p
  by_cases hlt : i < xs.length
  · refine .inr ⟨⟨xs, xs[i], q, by simp [hlt]⟩, Pv (i + 1), fun σ' H' p' => ⟨xs.length - (i + 1), by omega, rfl, hlt, p'⟩, fun x H' y => ?_⟩
    obtain ⟨e, y⟩ := y
    subst e
    exact hs i x σ _ (y xs q) p
  · have e : i = xs.length := by omega
    subst e
    exact .inl ⟨⟨xs, q, Nat.le_refl _⟩, hd σ H p⟩
theorem for_range {lo : Int} {n : Nat} {g : TG} {tb : TS} {D : Ends} {σ : St} {H : Hp} (Pv : Nat → St → Hp → Prop) (h0 : Pv 0 σ H)
    (hs : ∀ i σ H, i < n → Pv i σ H → g (.int (lo + i)) σ H fun σ2 H2 => tb { D with nx := Pv (i + 1), ct := Pv (i + 1), bk := D.nx } σ2 H2) (hd : ∀ σ H, Pv n σ H → D.nx σ H) :
    ∃ W : Nat → Nat → St → Hp → Prop, (∃ m, W 0 m σ H) ∧ ∀ i m σ H, W i m σ H →
      ((Itr lo n).stop i H ∧ D.nx σ H) ∨ ((Itr lo n).go i H ∧ ∃ N : St → Hp → Prop, (∀ σ' H', N σ' H' → ∃ m', m' < m ∧ W (i + 1) m' σ' H') ∧ ∀ x H', (Itr lo n).yld i H x H' → g x σ H' fun σ2 H2 => tb { D with nx := N, ct := N, bk := D.nx } σ2 H2) := by
  refine ⟨fun i m σ H => m = n - i ∧ i ≤ n ∧ Pv i σ H, ⟨n, by simp, Nat.zero_le _, h0⟩, ?_⟩
  rintro i m σ H ⟨rfl, hi, p⟩
  by_cases hlt : i < n
  · refine .inr ⟨hlt, Pv (i + 1), fun σ' H' p' => ⟨n - (i + 1), by omega, rfl, hlt, p'⟩, fun x H' y => ?_⟩
    obtain ⟨e, y⟩ := y
    subst e y
    exact hs i σ _ hlt p
  · have e : i = n := by omega
    subst e
    exact .inl ⟨Nat.le_refl _, hd σ H p⟩
end L2

namespace L2
open PySem PySem.Spec PyProof.Rows

abbrev R2 := V → V → Hp → VK → Prop
def OpR (X : Cx) (f : Value → Value → Sem Value) (r : R2) : Prop :=
  ∀ (pins : List (Addr × Obj)) (s : Shared) (σ : St) (H : Hp) (x y : V) (v u : Value) (Q : VK), Inv X pins σ H s → RelV x v → RelV y u → r x y H Q →
    wpAny (model X.prog X.w) X.A (f v u) (EP X pins σ Q) X.xe s
def UnR (X : Cx) (f : Value → Sem Value) (r : V → Hp → VK → Prop) : Prop :=
  ∀ (pins : List (Addr × Obj)) (s : Shared) (σ : St) (H : Hp) (x : V) (v : Value) (Q : VK), Inv X pins σ H s → RelV x v → r x H Q →
    wpAny (model X.prog X.w) X.A (f v) (EP X pins σ Q) X.xe s
def CallR (X : Cx) (f : Value) (r : List V → Hp → VK → Prop) : Prop :=
  ∀ (pins : List (Addr × Obj)) (s : Shared) (σ : St) (H : Hp) (xs : List V) (us : List Value) (Q : VK), Inv X pins σ H s → Vals xs us → r xs H Q →
    wpAny (model X.prog X.w) X.A (call f us) (EP X pins σ Q) X.xe s
def tOp (r : R2) (ta tb : TE) : TE := fun σ H Q => ta σ H fun x H1 => tb σ H1 fun y H2 => r x y H2 Q
def tUn (r : V → Hp → VK → Prop) (ta : TE) : TE := fun σ H Q => ta σ H fun x H1 => r x H1 Q
def rI (C : Int → Int → Prop) (g : Int → Int → V) : R2 := fun x y H Q => ∃ i j, x = .int i ∧ y = .int j ∧ C i j ∧ Q (g i j) H
def rI0 (g : Int → Int → V) : R2 := fun x y H Q => ∃ i j, x = .int i ∧ y = .int j ∧ Q (g i j) H
def rU (g : Int → V) : V → Hp → VK → Prop := fun x H Q => ∃ i, x = .int i ∧ Q (g i) H

section
variable {X : Cx} {a b c : Expr} {ta tb tc : TE} {pos : Pos}

theorem binT (ha : PE X a ta) (hb : PE X b tb) {pins : List (Addr × Obj)} {s : Shared} {σ : St} {H : Hp} {R : V → V → Hp → Prop} (I : Inv X pins σ H s)
    (h : ta σ H fun x H1 => tb σ H1 fun y H2 => R x y H2) {Q : Value → Shared → Prop} {f : Value → Value → Sem Value}
    (hf : ∀ v u s2 x y H2, Inv X pins σ H2 s2 → RelV x v → RelV y u → R x y H2 → wpAny (model X.prog X.w) X.A (f v u) Q X.xe s2) :
    wpAny (model X.prog X.w) X.A (eval a X.env) (fun v s₁ => wpAny (model X.prog X.w) X.A (eval b X.env) (fun u s₂ => wpAny (model X.prog X.w) X.A (f v u) Q X.xe s₂) X.xe s₁) X.xe s := by
  refine thn (ha pins s σ H _ I h) fun v s1 ⟨x, H1, I1, r1, q1⟩ => ?_
  refine thn (hb pins s1 σ H1 _ I1 q1) fun u s2 ⟨y, H2, I2, r2, q2⟩ => ?_
  exact hf v u s2 x y H2 I2 r1 r2 q2

theorem pe_op {op : Operator} {r : R2} (ho : OpR X (binaryOp op) r) (ha : PE X a ta) (hb : PE X b tb) : PE X (.BinOp a op b pos) (tOp r ta tb) := by
  intro pins s σ H Q I h
  exact wpAny_BinOp (binT ha hb I h fun v u s2 x y H2 I2 rx ry q => ho pins s2 σ H2 x y v u Q I2 rx ry q)
theorem pe_un {op : UnaryOp} {r : V → Hp → VK → Prop} (ho : UnR X (unaryOp op) r) (ha : PE X a ta) : PE X (.UnaryOp op a pos) (tUn r ta) := by
  intro pins s σ H Q I h
  exact UnaryOp_ (thn (ha pins s σ H _ I h) fun v s1 ⟨x, H1, I1, r1, q1⟩ => ho pins s1 σ H1 x v Q I1 r1 q1)
/-! ### ints -/
theorem opI {f : Value → Value → Sem Value} {C : Int → Int → Prop} {g : Int → Int → Int}
    (rule : ∀ (i j : Int) (t u : Tok) (s : Shared) (Q : Value → Shared → Prop) (E : Value → Shared → Prop), C i j → Q (.int (g i j) s.toks) { s with toks := s.toks + 1 } → wpAny (model X.prog X.w) X.A (f (.int i t) (.int j u)) Q E s) :
    OpR X f (rI C fun i j => .int (g i j)) := by
  intro pins s σ H x y v u Q I rx ry h
  obtain ⟨i, j, rfl, rfl, hc, q⟩ := h
  obtain ⟨t, rfl⟩ := rx
  obtain ⟨t', rfl⟩ := ry
  exact rule i j t t' s _ _ hc ⟨.int (g i j), H, I.tok _, ⟨_, rfl⟩, q⟩
theorem opI0 {f : Value → Value → Sem Value} {g : Int → Int → Int}
    (rule : ∀ (i j : Int) (t u : Tok) (s : Shared) (Q : Value → Shared → Prop) (E : Value → Shared → Prop), Q (.int (g i j) s.toks) { s with toks := s.toks + 1 } → wpAny (model X.prog X.w) X.A (f (.int i t) (.int j u)) Q E s) :
    OpR X f (rI0 fun i j => .int (g i j)) := by
  intro pins s σ H x y v u Q I rx ry h
  obtain ⟨i, j, rfl, rfl, q⟩ := h
  obtain ⟨t, rfl⟩ := rx
  obtain ⟨t', rfl⟩ := ry
  exact rule i j t t' s _ _ ⟨.int (g i j), H, I.tok _, ⟨_, rfl⟩, q⟩
theorem opB0 {f : Value → Value → Sem Value} {g : Int → Int → Bool}
    (rule : ∀ (i j : Int) (t u : Tok) (s : Shared) (Q : Value → Shared → Prop) (E : Value → Shared → Prop), Q (.bool (g i j)) s → wpAny (model X.prog X.w) X.A (f (.int i t) (.int j u)) Q E s) :
    OpR X f (rI0 fun i j => .bl (g i j)) := by
  intro pins s σ H x y v u Q I rx ry h
  obtain ⟨i, j, rfl, rfl, q⟩ := h
  obtain ⟨t, rfl⟩ := rx
  obtain ⟨t', rfl⟩ := ry
  exact rule i j t t' s _ _ ⟨.bl (g i j), H, I, rfl, q⟩

def CDiv (i j : Int) : Prop := 0 < j ∧ j < 1073741824
def CPow (i j : Int) : Prop := 0 ≤ j ∧ j ≤ 1000000 ∧ i.natAbs < 2 ^ 64
def CMul (i j : Int) : Prop := (-(2 ^ 64) < i ∧ i < 2 ^ 64) ∨ (-(2 ^ 64) < j ∧ j < 2 ^ 64)
theorem CMul.ok {i j : Int} (h : CMul i j) : IntMulOk i j := by
  rcases h with ⟨h1, h2⟩ | ⟨h1, h2⟩
  · exact .of_left (intBits_le_64 h1 h2)
  · exact .of_right (intBits_le_64 h1 h2)
theorem two_pow_nn (k : Nat) : (0 : Int) ≤ 2 ^ k := by
  rw [two_pow_cast]
  exact Int.natCast_nonneg _

theorem op_add : OpR X (binaryOp .Add) (rI0 fun i j => .int (i + j)) := opI0 fun _ _ _ _ _ _ _ q => add_int q
theorem op_sub : OpR X (binaryOp .Sub) (rI0 fun i j => .int (i - j)) := opI0 fun _ _ _ _ _ _ _ q => sub_int q
theorem op_mul : OpR X (binaryOp .Mult) (rI CMul fun i j => .int (i * j)) := opI fun _ _ _ _ _ _ _ hc q => mul_int q hc.ok
theorem op_fdiv : OpR X (binaryOp .FloorDiv) (rI CDiv fun i j => .int (i / j)) := opI fun i j _ _ _ _ _ hc q => by
  have h1 : (0 : Int) < j := hc.1
  have h2 : j < 1073741824 := hc.2
  exact floordiv_int (by omega) (by rw [Int.fdiv_eq_ediv_of_nonneg i (by omega)]; exact q) (.inl (PyProof.noPylong_small (by omega)))
theorem op_mod : OpR X (binaryOp .Mod) (rI (fun _ j => 0 < j) fun i j => .int (i % j)) := opI fun i j _ _ _ _ _ hc q => by
  have h1 : (0 : Int) < j := hc
  exact mod_int' (by omega) (by rw [Int.fmod_eq_emod_of_nonneg i (by omega)]; exact q)
theorem op_pow : OpR X (binaryOp .Pow) (rI CPow fun i j => .int (i ^ j.toNat)) := opI fun _ _ _ _ _ _ _ hc q => pow_int_small hc.1 hc.2.1 hc.2.2 q
theorem op_shr : OpR X (binaryOp .RShift) (rI (fun _ j => 0 ≤ j) fun i j => .int (i / 2 ^ j.toNat)) := opI fun i j _ _ _ _ _ hc q =>
  rshift_int hc (by rw [Int.fdiv_eq_ediv_of_nonneg i (two_pow_nn _)]; exact q)
theorem unI {f : Value → Sem Value} {g : Int → Int}
    (rule : ∀ (i : Int) (t : Tok) (s : Shared) (Q : Value → Shared → Prop) (E : Value → Shared → Prop), Q (.int (g i) s.toks) { s with toks := s.toks + 1 } → wpAny (model X.prog X.w) X.A (f (.int i t)) Q E s) :
    UnR X f (rU fun i => .int (g i)) := by
  intro pins s σ H x v Q I rx h
  obtain ⟨i, rfl, q⟩ := h
  obtain ⟨t, rfl⟩ := rx
  exact rule i t s _ _ ⟨.int (g i), H, I.tok _, ⟨_, rfl⟩, q⟩
theorem un_neg : UnR X (unaryOp .USub) (rU fun i => .int (-i)) := unI fun _ _ _ _ _ q => neg_int q
/-! ### bools among ints: n += (a < b) -/
end

/-! ### comparisons -/
def scal : V → V → Bool
  | .non, .non => true | .non, .int _ => true | .int _, .non => true | .non, .bl _ => true | .bl _, .non => true | .non, .str _ => true | .str _, .non => true
  | .int _, .int _ => true | .bl _, .bl _ => true | .str _, .str _ => true | .byt _, .byt _ => true
  | .int _, .str _ => true | .str _, .int _ => true | .bl _, .str _ => true | .str _, .bl _ => true
  | _, _ => false
def rEq : R2 := fun x y H Q => scal x y = true ∧ Q (.bl (decide (x = y))) H
def rNe : R2 := fun x y H Q => scal x y = true ∧ Q (.bl (!decide (x = y))) H

theorem dec_int {i j : Int} : decide (V.int i = V.int j) = (i == j) := by
  rw [Bool.eq_iff_iff]
  simp
theorem dec_bl {i j : Bool} : decide (V.bl i = V.bl j) = (i == j) := by
  rw [Bool.eq_iff_iff]
  simp
theorem dec_str {i j : Str} : decide (V.str i = V.str j) = (i == j) := by
  rw [Bool.eq_iff_iff]
  simp
theorem dec_byt {i j : Array UInt8} : decide (V.byt i = V.byt j) = (i.toList == j.toList) := by
  rw [Bool.eq_iff_iff]
  cases i
  cases j
  simp

section
variable {X : Cx} {a b c : Expr} {ta tb tc : TE} {pos : Pos}
theorem fin_bl {pins : List (Addr × Obj)} {σ : St} {H : Hp} {s : Shared} {Q : VK} {k k' : Bool} (I : Inv X pins σ H s) (q : Q (.bl k) H) (e : k = k') : EP X pins σ Q (.bool k') s := by
  subst e
  exact ⟨.bl k, H, I, rfl, q⟩
theorem op_eq : OpR X (compareOp .Eq) rEq := by
  intro pins s σ H x y v u Q I rx ry h
  obtain ⟨hs, q⟩ := h
  cases x with
  | non =>
    cases rx
    cases y with
    | non => cases ry; exact PySem.EqNone.eq_none_none (fin_bl I q (by simp))
    | bl j => cases ry; exact PySem.EqNone.eq_none_bool (fin_bl I q (by simp))
    | int j => obtain ⟨t', rfl⟩ := ry; exact PySem.EqNone.eq_none_int (fin_bl I q (by simp))
    | str j => obtain ⟨t', rfl⟩ := ry; exact PySem.EqNone.eq_none_str (fin_bl I q (by simp))
    | _ => exact absurd (show false = true from hs) Bool.false_ne_true
  | bl i =>
    cases rx
    cases y with
    | non => cases ry; exact PySem.EqNone.eq_bool_none (fin_bl I q (by simp))
    | bl j => cases ry; exact eq_bool (fin_bl I q dec_bl)
    | str j => obtain ⟨t', rfl⟩ := ry; exact PySem.EqMixed.eq_bool_str (fin_bl I q (by simp))
    | _ => exact absurd (show false = true from hs) Bool.false_ne_true
  | int i =>
    obtain ⟨t, rfl⟩ := rx
    cases y with
    | non => cases ry; exact PySem.EqNone.eq_int_none (fin_bl I q (by simp))
    | int j => obtain ⟨t', rfl⟩ := ry; exact eq_int (fin_bl I q dec_int)
    | str j => obtain ⟨t', rfl⟩ := ry; exact PySem.EqMixed.eq_int_str (fin_bl I q (by simp))
    | _ => exact absurd (show false = true from hs) Bool.false_ne_true
  | str i =>
    obtain ⟨t, rfl⟩ := rx
    cases y with
    | non => cases ry; exact PySem.EqNone.eq_str_none (fin_bl I q (by simp))
    | bl j => cases ry; exact PySem.EqMixed.eq_str_bool (fin_bl I q (by simp))
    | int j => obtain ⟨t', rfl⟩ := ry; exact PySem.EqMixed.eq_str_int (fin_bl I q (by simp))
    | str j => obtain ⟨t', rfl⟩ := ry; exact eq_str (fin_bl I q dec_str)
    | _ => exact absurd (show false = true from hs) Bool.false_ne_true
  | byt i =>
    obtain ⟨t, rfl⟩ := rx
    cases y with
    | byt j => obtain ⟨t', rfl⟩ := ry; exact PySem.W.eq_bytes (fin_bl I q dec_byt)
    | _ => exact absurd (show false = true from hs) Bool.false_ne_true
  | _ => cases y <;> exact absurd (show false = true from hs) Bool.false_ne_true
theorem op_ne : OpR X (compareOp .NotEq) rNe := by
  intro pins s σ H x y v u Q I rx ry h
  obtain ⟨hs, q⟩ := h
  cases x with
  | non =>
    cases rx
    cases y with
    | non => cases ry; exact PySem.EqNone.ne_none_none (fin_bl I q (by simp))
    | bl j => cases ry; exact PySem.EqNone.ne_none_bool (fin_bl I q (by simp))
    | int j => obtain ⟨t', rfl⟩ := ry; exact PySem.EqNone.ne_none_int (fin_bl I q (by simp))
    | str j => obtain ⟨t', rfl⟩ := ry; exact PySem.EqNone.ne_none_str (fin_bl I q (by simp))
    | _ => exact absurd (show false = true from hs) Bool.false_ne_true
  | bl i =>
    cases rx
    cases y with
    | non => cases ry; exact PySem.EqNone.ne_bool_none (fin_bl I q (by simp))
    | bl j => cases ry; exact ne_bool (fin_bl I q (congrArg not dec_bl))
    | str j => obtain ⟨t', rfl⟩ := ry; exact PySem.EqMixed.ne_bool_str (fin_bl I q (by simp))
    | _ => exact absurd (show false = true from hs) Bool.false_ne_true
  | int i =>
    obtain ⟨t, rfl⟩ := rx
    cases y with
    | non => cases ry; exact PySem.EqNone.ne_int_none (fin_bl I q (by simp))
    | int j => obtain ⟨t', rfl⟩ := ry; exact ne_int (fin_bl I q (congrArg not dec_int))
    | str j => obtain ⟨t', rfl⟩ := ry; exact PySem.EqMixed.ne_int_str (fin_bl I q (by simp))
    | _ => exact absurd (show false = true from hs) Bool.false_ne_true
  | str i =>
    obtain ⟨t, rfl⟩ := rx
    cases y with
    | non => cases ry; exact PySem.EqNone.ne_str_none (fin_bl I q (by simp))
    | bl j => cases ry; exact PySem.EqMixed.ne_str_bool (fin_bl I q (by simp))
    | int j => obtain ⟨t', rfl⟩ := ry; exact PySem.EqMixed.ne_str_int (fin_bl I q (by simp))
    | str j => obtain ⟨t', rfl⟩ := ry; exact ne_str (fin_bl I q (congrArg not dec_str))
    | _ => exact absurd (show false = true from hs) Bool.false_ne_true
  | byt i =>
    obtain ⟨t, rfl⟩ := rx
    cases y with
    | byt j => obtain ⟨t', rfl⟩ := ry; exact PySem.W.ne_bytes (fin_bl I q (congrArg not dec_byt))
    | _ => exact absurd (show false = true from hs) Bool.false_ne_true
  | _ => cases y <;> exact absurd (show false = true from hs) Bool.false_ne_true

theorem op_lt : OpR X (compareOp .Lt) (rI0 fun i j => .bl (decide (i < j))) := opB0 fun _ _ _ _ _ _ _ q => lt_int q
theorem op_le : OpR X (compareOp .LtE) (rI0 fun i j => .bl (decide (i ≤ j))) := opB0 fun _ _ _ _ _ _ _ q => le_int q
theorem op_gt : OpR X (compareOp .Gt) (rI0 fun i j => .bl (decide (j < i))) := opB0 fun _ _ _ _ _ _ _ q => gt_int q
theorem op_ge : OpR X (compareOp .GtE) (rI0 fun i j => .bl (decide (j ≤ i))) := opB0 fun _ _ _ _ _ _ _ q => ge_int q
theorem op_in_str : OpR X (compareOp .In) (fun x y H Q => ∃ i j, x = .str i ∧ y = .str j ∧ Q (.bl (!(Builtin.Str.occurrences j i 0 j.length 1).isEmpty)) H) := by
  intro pins s σ H x y v u Q I rx ry h
  obtain ⟨i, j, rfl, rfl, q⟩ := h
  obtain ⟨t, rfl⟩ := rx
  obtain ⟨t', rfl⟩ := ry
  exact in_str (fin_bl I q rfl)

theorem op_notN : OpR X (compareOp .IsNot) (fun x y H Q => y = .non ∧ Q (.bl (!decide (x = .non))) H) := by
  intro pins s σ H x y v u Q I rx ry h
  obtain ⟨rfl, q⟩ := h
  cases ry
  refine isnot_none_gen (fin_bl I q ?_)
  cases x <;> first
    | (cases rx; rfl)
    | (obtain ⟨t, rfl⟩ := rx; rfl)

theorem OpR.or {f : Value → Value → Sem Value} {r r' : R2} (h : OpR X f r) (h' : OpR X f r') : OpR X f (fun x y H Q => r x y H Q ∨ r' x y H Q) := by
  intro pins s σ H x y v u Q I rx ry q
  rcases q with q | q
  · exact h pins s σ H x y v u Q I rx ry q
  · exact h' pins s σ H x y v u Q I rx ry q

theorem nomark (b : Expr) {op : CmpOp} (h : op ≠ .In := by decide) (h2 : op ≠ .NotIn := by decide) : behindInMarks op b = false := by
  have e1 : (op == CmpOp.In) = false := by cases op <;> first | rfl | exact absurd rfl h
  have e2 : (op == CmpOp.NotIn) = false := by cases op <;> first | rfl | exact absurd rfl h2
  cases b <;> simp [behindInMarks, e1, e2]
theorem pe_cmpR {op : CmpOp} {r : R2} (ho : OpR X (compareOp op) r) (ha : PE X a ta) (hb : PE X b tb) (hm : behindInMarks op b = false) : PE X (.Compare a [op] [b] pos) (tOp r ta tb) := by
  intro pins s σ H Q I h
  exact wpAny_Compare1 (binT ha hb I h fun v u s2 x y H2 I2 rx ry q => ho pins s2 σ H2 x y v u Q I2 rx ry q) hm
def tTest (t : TE) : TT := fun σ H Q => t σ H fun x H' => ∃ k, x = .bl k ∧ Q k H'
theorem pt_cmpR {op : CmpOp} {r : R2} (ho : OpR X (compareOp op) r) (ha : PE X a ta) (hb : PE X b tb) (hm : behindInMarks op b = false) : PT X (.Compare a [op] [b] pos) (tTest (tOp r ta tb)) := by
  intro pins s σ H Q I h
  refine wpAny_isTrue_Compare1 (thn (ha pins s σ H _ I h) fun v s1 ⟨x, H1, I1, r1, q1⟩ => thn (hb pins s1 σ H1 _ I1 q1) fun u s2 ⟨y, H2, I2, r2, q2⟩ =>
    thn (ho pins s2 σ H2 x y v u _ I2 r1 r2 q2) fun c s3 ⟨z, H3, I3, r3, k, e, q3⟩ => ?_) hm
  subst e
  cases r3
  exact wpAny_truthy_bool ⟨H3, I3, q3⟩
def tChain (r r' : R2) (ta tb tc : TE) : TE := fun σ H Q => ta σ H fun x H1 => tb σ H1 fun y H2 => r x y H2 fun z H3 => ∃ k, z = .bl k ∧
  (if k = true then tc σ H3 fun w' H4 => r' y w' H4 Q else Q (.bl false) H3)
theorem pe_chain {op op' : CmpOp} {r r' : R2} (ho : OpR X (compareOp op) r) (ho' : OpR X (compareOp op') r') (ha : PE X a ta) (hb : PE X b tb) (hc : PE X c tc)
    (hm : lastMarks [op, op'] [b, c] = false := by with_unfolding_all rfl) : PE X (.Compare a [op, op'] [b, c] pos) (tChain r r' ta tb tc) := by
  intro pins s σ H Q I h
  refine Compare_chain (thn (ha pins s σ H _ I h) fun v s1 ⟨x, H1, I1, r1, q1⟩ => chain_link (thn (hb pins s1 σ H1 _ I1 q1) fun u s2 ⟨y, H2, I2, r2, q2⟩ =>
    thn (ho pins s2 σ H2 x y v u _ I2 r1 r2 q2) fun d s3 ⟨z, H3, I3, r3, k, e, q3⟩ => ?_)) hm
  subst e
  cases r3
  refine wpAny_truthy_bool ?_
  cases k with
  | false => exact ite_ff ⟨.bl false, H3, I3, rfl, q3⟩
  | true => exact ite_tt (chain_last (thn (hc pins s3 σ H3 _ I3 q3) fun w' s4 ⟨z', H4, I4, r4, q4⟩ => ho' pins s4 σ H4 y z' u w' Q I4 r2 r4 q4))
/-! ### truth -/
theorem line63 : (sizeLine : Nat) < 2 ^ 63 := by rw [sizeLine_eq]; decide
/-! ### strs and bytes -/
theorem op_add_str : OpR X (binaryOp .Add) (fun x y H Q => ∃ i j, x = .str i ∧ y = .str j ∧ i.length + j.length ≤ sizeLine ∧ Q (.str (i ++ j)) H) := by
  intro pins s σ H x y v u Q I rx ry h
  obtain ⟨i, j, rfl, rfl, hz, q⟩ := h
  obtain ⟨t, rfl⟩ := rx
  obtain ⟨t', rfl⟩ := ry
  exact add_str (fun t' tk => ⟨.str (i ++ j), H, I.tok _, ⟨_, rfl⟩, q⟩) hz
/-! ### scalar builtins, by CallR -/
theorem vals1 {x : V} {us : List Value} (r : Vals [x] us) : ∃ u, us = [u] ∧ RelV x u := by
  cases r with
  | cons r1 r2 => cases r2; exact ⟨_, rfl, r1⟩
theorem call_abs : CallR X (.builtin "abs") (fun xs H Q => ∃ i, xs = [.int i] ∧ Q (.int (if i < 0 then -i else i)) H) := by
  intro pins s σ H xs us Q I r h
  obtain ⟨i, rfl, q⟩ := h
  obtain ⟨u, rfl, t, rfl⟩ := vals1 r
  exact call_abs_int fun u tk => ⟨.int (if i < 0 then -i else i), H, I.tok _, ⟨_, rfl⟩, q⟩
theorem call_str_int : CallR X (.type "str") (fun xs H Q => ∃ i, xs = [.int i] ∧ i.natAbs.log2 < 1920 ∧ Q (.str (toString i)) H) := by
  intro pins s σ H xs us Q I r h
  obtain ⟨i, rfl, hz, q⟩ := h
  obtain ⟨u, rfl, t, rfl⟩ := vals1 r
  exact PySem.P.str_of_int hz ⟨.str _, H, I.tok _, ⟨_, rfl⟩, q⟩
end
end L2

namespace L2
open PySem PySem.Spec PyProof.Rows

/-! ### an instance, its attributes a map -/
structure ObjM (h : Heap) (x dx C : Addr) (mA : Str → Option Value) : Prop where
  obj : h.get? x = some (PySem.W.instObj C dx)
  ns : h.Ns1 dx mA
  ne : dx ≠ x

theorem lookIn_ns {h : Heap} {dx : Addr} {mA : Str → Option Value} (n : h.Ns1 dx mA) : ∃ od, h.get? dx = some od ∧ ∀ name, PySem.W.lookIn name od = some (mA name) := by
  obtain ⟨o, es, ep, ho, hd, hk, _, hm⟩ := n
  refine ⟨o, ho, fun name => ?_⟩
  have e := hm name
  unfold nsFind findBy at e
  rw [← Array.find?_toList] at e
  unfold PySem.W.lookIn
  rw [hd]
  dsimp only
  split
  · rename_i y q
    rw [q] at e
    exact congrArg some e
  · rename_i q
    rw [q] at e
    have a : es.toList.any (·.refKey) = false := by
      rw [List.any_eq_false]
      intro y hy
      obtain ⟨z, t, hkey⟩ := hk y (Array.mem_toList_iff.mp hy)
      simp [DictEntry.refKey, hkey]
    have a' : ¬ es.toList.any (·.refKey) = true := by rw [a]; exact Bool.false_ne_true
    rw [if_neg a']
    exact congrArg some e

theorem ObjM.look {h : Heap} {x dx C : Addr} {mA : Str → Option Value} (I : ObjM h x dx C mA) : ∃ od, PySem.W.InstAt h x (PySem.W.instObj C dx) C (some od) ∧ ∀ name, PySem.W.lookIn name od = some (mA name) :=
  let ⟨od, ho, hl⟩ := lookIn_ns I.ns
  ⟨od, ⟨I.obj, rfl, rfl, ho⟩, hl⟩

section
variable {prog : Program} {w : World} {A : Around} {E : Value → Shared → Prop} {s : Shared} {K : PySem.W.Frag} {x dx C f : Addr} {mA : Str → Option Value} {name : Str} {v : Value}

end

/-! ### the attributes as a list of pairs -/
theorem RelO.some_of {v : V} {o : Option Value} (r : RelO (some v) o) : ∃ u, o = some u ∧ RelV v u := by
  cases o with
  | none => exact (show False from r).elim
  | some u => exact ⟨u, rfl, r⟩
section
variable {P : Program} {w : World} {H H' : Hp} {h h' : Heap} {a C dx : Addr} {fs fs' : List (Str × V)}
end

/-! ### what of the text a class must have -/
structure Cls (K : PySem.W.Frag) (C : Addr) : Prop where
  pg : PySem.W.plainGet K C Str.empty = true
  hd : PySem.W.hasDictIn K C = true
  po : PySem.W.plainOver K C = true
  sa : PySem.W.findIn K (.ref C) "__setattr__" = some (some (.builtin "object.__setattr__"))
theorem Cls.get {K : PySem.W.Frag} {C : Addr} (c : Cls K C) (f : Str) : PySem.W.plainGet K C f = true := c.pg
structure Con (K : PySem.W.Frag) (C : Addr) (f : Str) (v : V) (u : Value) : Prop where
  at_ : PySem.W.findIn K (.ref C) f = some (some u)
  rel : RelV v u
  get : PySem.W.specialIn K u "__get__" = some none
  cp : PySem.W.copiedNames.contains f = false
structure Meth (K : PySem.W.Frag) (C : Addr) (m : Str) (f : Addr) : Prop where
  at_ : PySem.W.findIn K (.ref C) m = some (some (.ref f))
  fn : PySem.W.isFn K (.ref f) = true
  kp : PySem.W.keepIn K (.ref f) = true

section
variable {X : Cx} {pins : List (Addr × Obj)} {σ : St} {H : Hp} {s : Shared} {a C dx : Addr} {fs : List (Str × V)} {f : Str} {v : V} {A : Around} {E : Value → Shared → Prop}

end

/-! ### readings and rules -/
section
variable {X : Cx} {o e value : Expr} {f : Str} {pos pos' tpos : Pos} {ta tv : TE}
end

/-! ### isinstance -/
section
variable {X : Cx} {pins : List (Addr × Obj)} {σ : St} {H : Hp} {s : Shared} {A : Around} {E : Value → Shared → Prop} {Q : Value → Shared → Prop} {c : Value} {b : Bool}
inductive TyOf (K : PySem.W.Frag) (H : Hp) : V → Value → Prop where
  | non : TyOf K H .non (.type "NoneType")
  | bl (x : Bool) : TyOf K H (.bl x) (.type "bool")
  | int (i : Int) : TyOf K H (.int i) (.type "int")
  | str (x : Str) : TyOf K H (.str x) (.type "str")
  | flt (x : UInt64) : TyOf K H (.flt x) (.type "float")
  | lst {a : Addr} {xs : List V} (e : H a = some (.lst xs)) : TyOf K H (.ref a) (.type "list")
  | frz {a : Addr} {o : Obj} {xs : List V} (e : H a = some (.frz o (.lst xs))) : TyOf K H (.ref a) (.type "list")
  | tup {a : Addr} {xs : List V} (e : H a = some (.tup xs)) : TyOf K H (.ref a) (.type "tuple")
  | dK {a : Addr} {kvs : List (Key × V)} (e : H a = some (.dK kvs)) : TyOf K H (.ref a) (.type "dict")
  | dT {a : Addr} {kvs : List (List Key × V)} (e : H a = some (.dT kvs)) : TyOf K H (.ref a) (.type "dict")
  | ins {a C dx : Addr} {fs : List (Str × V)} (e : H a = some (.ins C dx fs)) (cl : Cls K C) (ha : PySem.W.findIn K (.ref C) "__class__" = some (some (.builtin "object.__class__")))
      (hn : PySem.W.specialIn K (.builtin "object.__class__") "__get__" = some (some (.builtin "getset_descriptor.__get__"))) (htk : PySem.W.takesIn K (.builtin "object.__class__") = some true)
      (hm : PySem.W.mroIn K C (.type "object") = some true) : TyOf K H (.ref a) (.ref C)
end
end L2

namespace L2
open PySem PySem.Spec PyProof.Rows

/-! ### room -/
structure Room (k : Nat) (A : Around) : Prop where
  hd : A.handled = none
  dp : A.depth + 3 * k + 5 < recursionLimit
  un : A.units + 16 * k + 200 < cLine
theorem Room.mono {j k : Nat} {A : Around} (r : Room k A) (h : j ≤ k) : Room j A := ⟨r.hd, by have := r.dp; omega, by have := r.un; omega⟩
theorem Room.deeper {k : Nat} {A : Around} (r : Room (k + 1) A) (env : Env) : Room k (A.deeper env) :=
  ⟨r.hd, by have := r.dp; show A.depth + 1 + 3 * k + 5 < _; omega, by have := r.un; show A.units + 3 + 16 * k + 200 < _; omega⟩
theorem Room.in1 {k : Nat} {A : Around} (r : Room (k + 1) A) : Room k A.in1 :=
  ⟨r.hd, by have := r.dp; show A.depth + 3 * k + 5 < _; omega, by have := r.un; show A.units + 1 + 16 * k + 200 < _; omega⟩
theorem Room.depth {k : Nat} {A : Around} (r : Room k A) : A.depth < recursionLimit := by have := r.dp; omega
theorem Room.units {k : Nat} {A : Around} (r : Room k A) : A.units + 64 < cLine := by have := r.un; omega
/-! ### argument lists and displays -/
def tNil : TA := fun _ H Q => Q [] H
def tCons (ta : TE) (tr : TA) : TA := fun σ H Q => ta σ H fun x H1 => tr σ H1 fun xs H2 => Q (x :: xs) H2
section
variable {X : Cx} {e : Expr} {es : List Expr} {te : TE} {t : TA} {pos : Pos}
theorem pa_nil : PA X [] tNil := fun _ _ _ _ H Q I h => Calls.spliced_nil ⟨[], H, I, .nil, h⟩
theorem pa_cons (ha : PE X e te) (hr : PA X es t) (hs : starEach (e :: es) X.env = (false, eval e X.env) :: starEach es X.env := by rfl) : PA X (e :: es) (tCons te t) := by
  intro pos pins s σ H Q I h
  rw [hs]
  show wpAny _ _ (spliced ((false, eval e X.env) :: backTo pos (starEach es X.env))) _ _ s
  refine Calls.spliced_cons (thn (ha pins s σ H _ I h) fun u s1 ⟨x, H1, I1, r1, q1⟩ => ?_)
  exact thn (hr pos pins s1 σ H1 _ I1 q1) fun us s2 ⟨xs, H2, I2, r2, q2⟩ => ⟨x :: xs, H2, I2, .cons r1 r2, q2⟩

def tTup (t : TA) : TE := fun σ H Q => t σ H fun xs H1 => xs.length ≤ sizeLine ∧ ∀ p, H1 p = none → Q (.ref p) (upd H1 p (.tup xs))
def tLst (t : TA) : TE := fun σ H Q => t σ H fun xs H1 => xs.length ≤ sizeLine ∧ ∀ p, H1 p = none → Q (.ref p) (upd H1 p (.lst xs))
theorem pe_tup {x1} (h : PA X es t) : PE X (.Tuple es x1 pos) (tTup t) := by
  intro pins s σ H Q I hq
  refine wpAny_Tuple_spliced (thn (h pos pins s σ H _ I hq) fun us s1 ⟨xs, H1, I1, r, z, q⟩ => ⟨by rw [← r.length]; exact z, ?_⟩)
  have hf : H1 s1.heap.objs.size = none := I1.hok.fresh (Nat.le_refl _)
  refine ⟨.ref s1.heap.objs.size, upd H1 s1.heap.objs.size (.tup xs), I1.laid (t' := s1.toks) (fun b u e => Heap.get?_push_of_some _ e) (Nat.le_refl _) ?_, rfl, q _ hf⟩
  exact ⟨z, us, r, ⟨_, Heap.get?_push_size _ rfl, rfl, _, rfl⟩⟩
theorem pe_lst (h : PA X es t) : PE X (.List es pos) (tLst t) := by
  intro pins s σ H Q I hq
  refine wpAny_List_spliced (thn (h pos pins s σ H _ I hq) fun us s1 ⟨xs, H1, I1, r, z, q⟩ => ⟨by rw [← r.length]; exact z, ?_⟩)
  have hf : H1 s1.heap.objs.size = none := I1.hok.fresh (Nat.le_refl _)
  refine ⟨.ref s1.heap.objs.size, upd H1 s1.heap.objs.size (.lst xs), I1.laid (t' := s1.toks) (fun b u e => Heap.get?_push_of_some _ e) (Nat.le_refl _) ?_, rfl, q _ hf⟩
  exact ⟨z, us, 0, r, Heap.get?_push_size _ rfl⟩
end

/-! ### what a def promises -/
abbrev Sp := List V → Hp → VK → XK → Prop
abbrev CXT := List Env → Hp → Shared → XK → Value → Shared → Prop

structure Env0 (P : Program) (w : World) (K : PySem.W.Frag) (mg : Str → Option Value) (base : Heap) (A : Around) (outer : List Env) (s : Shared) (H : Hp) : Prop where
  frames : A.frames = some outer
  mod : Mod K mg base
  bs : ∀ b o, base.get? b = some o → s.heap.get? b = some o ∧ H b = none
  bsz : base.objs.size ≤ s.heap.objs.size
  funs : s.heap.FunFrames base outer
  frf : ∀ b ∈ frs outer, H b = none
  hok : HOk P w H s.heap
  bare : AllBare s.gens
def CE (outer : List Env) (P : Program) (w : World) (H : Hp) (s : Shared) (Q : VK) (u : Value) (s' : Shared) : Prop :=
  ∃ v H', s'.os = s.os ∧ AllBare s'.gens ∧ Un (frs outer) [] H H' s.heap s'.heap ∧ HOk P w H' s'.heap ∧ RelV v u ∧ Q v H'
def CR (CX : CXT) (outer : List Env) (P : Program) (w : World) (H : Hp) (s : Shared) (Q : VK) (E : XK) (r : Result) (s' : Shared) : Prop :=
  match r with
  | .ok (.ret u) => CE outer P w H s Q u s'
  | .ok _ => False
  | .error e => CX outer H s E e s'
structure FnOk (P : Program) (w : World) (K : PySem.W.Frag) (mg : Str → Option Value) (base : Heap) (CX : CXT) (k : Nat) (f : Addr) (fd : FuncData) (ps : List Str) (sp : Sp) : Prop where
  len : ∀ vs H Q E, sp vs H Q E → vs.length = ps.length
  run : ∀ (A : Around) (outer : List Env) (s : Shared) (H : Hp) (args : Args) (us : List Value) (vs : List V) (Q : VK) (E : XK), Room k A → Env0 P w K mg base A outer s H → BindsTo s fd args (ps.zip us) → Vals vs us → sp vs H Q E →
    codeAny (model P w) A (.call (.ref f) args) (CR CX outer P w H s Q E) s
theorem FnOk.mono {P : Program} {w : World} {K : PySem.W.Frag} {mg : Str → Option Value} {base : Heap} {CX : CXT} {j k : Nat} {f : Addr} {fd : FuncData} {ps : List Str} {sp : Sp} (F : FnOk P w K mg base CX j f fd ps sp) (h : j ≤ k) :
    FnOk P w K mg base CX k f fd ps sp := ⟨F.len, fun A outer s H args us vs Q E hr => F.run A outer s H args us vs Q E (hr.mono h)⟩
theorem FnOk.imp {P : Program} {w : World} {K : PySem.W.Frag} {mg : Str → Option Value} {base : Heap} {CX : CXT} {k : Nat} {f : Addr} {fd : FuncData} {ps : List Str} {sp sp' : Sp} (F : FnOk P w K mg base CX k f fd ps sp)
    (h : ∀ vs H Q E, sp' vs H Q E → sp vs H Q E) : FnOk P w K mg base CX k f fd ps sp' :=
  ⟨fun vs H Q E q => F.len vs H Q E (h _ _ _ _ q), fun A outer s H args us vs Q E hr he hb hv hs => F.run A outer s H args us vs Q E hr he hb hv (h _ _ _ _ hs)⟩

theorem Env0.in1 {P : Program} {w : World} {K : PySem.W.Frag} {mg : Str → Option Value} {base : Heap} {A : Around} {outer : List Env} {s : Shared} {H : Hp} (e : Env0 P w K mg base A outer s H) :
    Env0 P w K mg base A.in1 outer s H := ⟨e.frames, e.mod, e.bs, e.bsz, e.funs, e.frf, e.hok, e.bare⟩

section
variable {X : Cx} {pins : List (Addr × Obj)} {σ : St} {H : Hp} {s s' : Shared}
theorem Inv.env0 (I : Inv X pins σ H s) : Env0 X.prog X.w X.K X.mg X.base X.A X.stack s H :=
  ⟨I.ok.frames, I.ok.mod, I.bs, Nat.le_trans I.ok.bsz I.sz, I.stack, I.stkFree, I.hok, I.bare⟩
theorem Inv.after {Q : VK} {u : Value} (I : Inv X pins σ H s) (h : CE X.stack X.prog X.w H s Q u s') : EP X pins σ Q u s' := by
  obtain ⟨v, H', os, bare, un, hok, r, q⟩ := h
  obtain ⟨hh, g, d, t, os'⟩ := s'
  obtain rfl : os' = s.os := os
  exact ⟨v, H', I.call (h' := hh) (g' := g) (d' := d) (t' := t) (ch := []) un hok bare (fun b z => absurd z (by simp)), r, q⟩
end

/-! ### calls -/
def tCall (sp : Sp) (dvs : List V) (E : XK) (t : TA) : TE := fun σ H Q => t σ H fun vs H1 => sp (vs ++ dvs) H1 Q E
def Binds (K : PySem.W.Frag) (fd : FuncData) (ps : List Str) (ds : List Value) : Prop :=
  ∀ (s : Shared) (us : List Value), K.In s.heap → (us ++ ds).length = ps.length → BindsTo s fd ⟨us, []⟩ (ps.zip (us ++ ds))
theorem Binds.all {K : PySem.W.Frag} {fd : FuncData} {ps : List Str} (h : ∀ us : List Value, us.length = ps.length → bindArgs fd ⟨us, []⟩ = pure (ps.zip us)) : Binds K fd ps [] := fun s us _ hl => by
  rw [List.append_nil] at hl ⊢
  exact .of_eq (h us hl)

def Passes (CX : CXT) (X : Cx) (E : XK) : Prop := ∀ (pins : List (Addr × Obj)) (σ : St) (H : Hp) (s : Shared) (e : Value) (s' : Shared), Inv X pins σ H s → CX X.stack H s E e s' → X.xe e s'

section
variable {X : Cx} {CX : CXT} {k : Nat} {f C : Addr} {fd : FuncData} {ps : List Str} {sp : Sp} {dvs : List V} {ds : List Value} {E : XK} {x m : Str} {p pos apos : Pos} {e o : Expr} {es : List Expr} {ta : TE} {t : TA}

theorem run_fn {pins : List (Addr × Obj)} {σ : St} {H : Hp} {s : Shared} {Q : VK} {us : List Value} {vs : List V} (F : FnOk X.prog X.w X.K X.mg X.base CX k f fd ps sp) (hr : Room k X.A) (hb : Binds X.K fd ps ds) (hd : Vals dvs ds) (hx : Passes CX X E)
    (I : Inv X pins σ H s) (r : Vals vs us) (h : sp (vs ++ dvs) H Q E) : wpAny (model X.prog X.w) X.A (call (.ref f) us) (EP X pins σ Q) X.xe s := by
  have r2 : Vals (vs ++ dvs) (us ++ ds) := r.append hd
  have hl : (us ++ ds).length = ps.length := by rw [← r2.length]; exact F.len _ _ _ _ h
  refine wpAny_call (codeAny_mono (F.run X.A X.stack s H ⟨us, []⟩ (us ++ ds) (vs ++ dvs) Q E hr I.env0 (hb s us I.kIn hl) r2 h) fun r s' hq => ?_)
  cases r with
  | error e => exact hx pins σ H s e s' I hq
  | ok fl =>
    cases fl with
    | ret u => exact I.after hq
    | next => exact False.elim hq
    | brk => exact False.elim hq
    | cont => exact False.elim hq

theorem pe_call (F : FnOk X.prog X.w X.K X.mg X.base CX k f fd ps sp) (hr : Room k X.A) (hg : Gl X x) (hm : X.mg x = some (.ref f)) (hk : PySem.W.keepIn X.K (.ref f) = true) (hb : Binds X.K fd ps ds) (hd : Vals dvs ds) (hx : Passes CX X E)
    (ha : PA X (e :: es) t) (hdb : (x == ("__debug__" : Str)) = false := by decide) (he : starEach (e :: es) X.env = (false, eval e X.env) :: starEach es X.env := by rfl) (hpl : (backTo pos (starEach es X.env)).any (·.1) = false := by rfl) :
    PE X (.Call (.Name x p) (e :: es) [] pos) (tCall sp dvs E t) := by
  intro pins s σ H Q I h
  refine wpAny_Call_Name_kw (ld_glob I hg hm ?_ hdb)
  refine PySem.W.callWith_K (h₀ := X.base) I.ok.mod.kin hk (thn (ha pos pins s σ H _ I h) fun us s1 ⟨vs, H1, I1, r, q⟩ => ⟨I1.kIn, ?_⟩) he hpl
  exact run_fn F hr hb hd hx I1 r q
structure Mk (K : PySem.W.Frag) (C f : Addr) : Prop where
  makes : PySem.W.makesIn K C = true
  init : PySem.W.findIn K (.ref C) "__init__" = some (some (.ref f))
  fn : PySem.W.isFn K (.ref f) = true
  kp : PySem.W.keepIn K (.ref C) = true

end

/-! ### keywords -/
section
variable {X : Cx} {CX : CXT} {k : Nat} {f C : Addr} {fd : FuncData} {ps ks : List Str} {sp : Sp} {E : XK} {x m : Str} {p pos apos kpos : Pos} {e o : Expr} {es : List Expr} {kws : List Keyword} {te ta : TE} {t tk : TA} {nm : Option Str}
structure KBinds (K : PySem.W.Frag) (fd : FuncData) (ps ks : List Str) (g : List Value → List Value → List Value) (gV : List V → List V → List V) : Prop where
  to : ∀ (s : Shared) (us ws : List Value), K.In s.heap → (g us ws).length = ps.length → BindsTo s fd ⟨us, ks.zip ws⟩ (ps.zip (g us ws))
  rel : ∀ {vs : List V} {us : List Value} {zs : List V} {ws : List Value}, Vals vs us → Vals zs ws → Vals (gV vs zs) (g us ws)
variable {g : List Value → List Value → List Value} {gV : List V → List V → List V}
end

/-! ### a def's body keeps its promise -/
structure FnScope (N P : List Str) (sc : Scope) : Prop where
  kind : sc.kind = .function
  co : sc.isCoroutine = false
  gen : sc.isGenerator = false
  nd : N.Nodup
  pre : N.take P.length = P
  par : ∀ x ∈ P, sc.names.lookup x = some .local ∨ sc.names.lookup x = some .cell
  nofree : ∀ y ∈ sc.names, y.2 ≠ .free

theorem bindL_out {kindOf : Str → Option NameKind} {x : Str} : ∀ {binds : List (Str × Value)} {m : Str → Option Value}, (∀ v, (x, v) ∉ binds) → bindL kindOf binds m x = m x
  | [], _, _ => rfl
  | (n, v) :: r, m, h => by
    unfold bindL
    rw [bindL_out fun w hw => h w (List.mem_cons_of_mem _ hw)]
    split
    · have : x ≠ n := by rintro rfl; exact h v List.mem_cons_self
      simp [this]
    · rfl
theorem bindC_out {kindOf : Str → Option NameKind} {x : Str} : ∀ {binds : List (Str × Value)} {m : Str → Option Value}, (∀ v, (x, v) ∉ binds) → bindC kindOf binds m x = m x
  | [], _, _ => rfl
  | (n, v) :: r, m, h => by
    unfold bindC
    rw [bindC_out fun w hw => h w (List.mem_cons_of_mem _ hw)]
    split
    · rfl
    · have : x ≠ n := by rintro rfl; exact h v List.mem_cons_self
      simp [this]
theorem bindL_get {kindOf : Str → Option NameKind} {x : Str} {v : Value} : ∀ {P : List Str} {vs : List Value} {i : Nat} {m : Str → Option Value}, P.Nodup → P[i]? = some x → vs[i]? = some v → kindOf x = some .local →
    bindL kindOf (P.zip vs) m x = some v
  | [], _, _, _, _, h, _, _ => by simp at h
  | _ :: _, [], _, _, _, _, h, _ => by simp at h
  | p :: P, w :: vs, 0, m, nd, h1, h2, hk => by
    simp at h1 h2; subst h1; subst h2
    show bindL kindOf ((p, w) :: P.zip vs) m p = _
    unfold bindL
    rw [bindL_out fun v hv => (List.nodup_cons.mp nd).1 (List.of_mem_zip hv).1, if_pos hk]
    simp
  | p :: P, w :: vs, i + 1, m, nd, h1, h2, hk => by
    show bindL kindOf ((p, w) :: P.zip vs) m x = _
    unfold bindL
    exact bindL_get (i := i) (List.nodup_cons.mp nd).2 (by simpa using h1) (by simpa using h2) hk
theorem bindC_get {kindOf : Str → Option NameKind} {x : Str} {v : Value} : ∀ {P : List Str} {vs : List Value} {i : Nat} {m : Str → Option Value}, P.Nodup → P[i]? = some x → vs[i]? = some v → kindOf x ≠ some .local →
    bindC kindOf (P.zip vs) m x = some v
  | [], _, _, _, _, h, _, _ => by simp at h
  | _ :: _, [], _, _, _, _, h, _ => by simp at h
  | p :: P, w :: vs, 0, m, nd, h1, h2, hk => by
    simp at h1 h2; subst h1; subst h2
    show bindC kindOf ((p, w) :: P.zip vs) m p = _
    unfold bindC
    rw [bindC_out fun v hv => (List.nodup_cons.mp nd).1 (List.of_mem_zip hv).1, if_neg hk]
    simp
  | p :: P, w :: vs, i + 1, m, nd, h1, h2, hk => by
    show bindC kindOf ((p, w) :: P.zip vs) m x = _
    unfold bindC
    exact bindC_get (i := i) (List.nodup_cons.mp nd).2 (by simpa using h1) (by simpa using h2) hk

def start (N : List Str) (vs : List V) : St := vs.map some ++ List.replicate (N.length - vs.length) none

def cxOf (CX : CXT) (P : Program) (w : World) (K : PySem.W.Frag) (mg : Str → Option Value) (base : Heap) (N : List Str) (qual : Str) (scope : Scope) (f : Addr) (cd : Value) (A : Around) (outer : List Env) (s : Shared) (H : Hp) (E : XK) : Cx where
  prog := P
  w := w
  K := K
  mg := mg
  base := base
  A := A.deeper (envOfC qual scope s.heap.objs.size f cd)
  N := N
  s₀ := s
  H₀ := H
  env := envOfC qual scope s.heap.objs.size f cd
  outer := outer
  stack := envOfC qual scope s.heap.objs.size f cd :: outer
  ex := []
  calm := true
  fn := fun _ => true
  pn := []
  xe := fun e s' => wpAny (model P w) (A.deeper (envOfC qual scope s.heap.objs.size f cd)) (leaving (envOfC qual scope s.heap.objs.size f cd) e) (fun _ s'' => CX outer H s E e s'') (fun e' s'' => CX outer H s E e' s'') s'

theorem cell_has {sc : Scope} {n : Nat} {x : Str} (h : sc.names.lookup x = some .cell) : ∃ c, (cellsFrom n sc.names []).lookup x = some c := by
  have q := PySem.W.cellsFrom_some sc.names n [] (.inl h)
  exact Option.isSome_iff_exists.mp q

theorem inv_start {CX : CXT} {P : Program} {w : World} {K : PySem.W.Frag} {mg : Str → Option Value} {base : Heap} {N ps : List Str} {qual : Str} {scope : Scope} {f : Addr} {cd : Value} {A : Around} {outer : List Env} {s s1 : Shared} {H : Hp} {E : XK} {us : List Value} {vs : List V}
    (S : FnScope N ps scope) (hd : A.handled = none) (e0 : Env0 P w K mg base A outer s H) (hl : vs.length = ps.length) (r : Vals vs us)
    (x : InCallC s s.heap.objs.size (bindL (envOfC qual scope s.heap.objs.size f cd).kindOf (ps.zip us) fun _ => none) (cellsFrom (s.heap.objs.size + 1) scope.names []) (bindC (envOfC qual scope s.heap.objs.size f cd).kindOf (ps.zip us) fun _ => none) s1) :
    Inv (cxOf CX P w K mg base N qual scope f cd A outer s H E) [] (start N vs) H s1 := by
  have hpl : ps.length ≤ N.length := by have := congrArg List.length S.pre; rw [List.length_take] at this; omega
  obtain ⟨h1, tk, rfl, hk⟩ := x.done
  have noA : ∀ b : Addr, b ∉ (cxOf CX P w K mg base N qual scope f cd A outer s H E).ex := fun b z => absurd (show b ∈ ([] : List Addr) from z) (by simp)
  refine ⟨⟨e0.mod, S.kind, rfl, rfl, Nat.le_refl _, fun y z c h1 h2 => ?_, fun y hy => ?_, fun y c _ h => ?_, fun _ => hd, Around.frames_deeper e0.frames, .inr ⟨rfl, rfl⟩, fun b z => absurd z (noA b), e0.bs, e0.bsz, fun b _ _ => noA b, fun b z => absurd z (noA b), e0.funs, e0.frf⟩,
    rfl, e0.bare, Un.kept hk, ⟨_, x.toInCall.ns, fun i y v h1 h2 h3 => ?_⟩, fun y c h => ⟨_, x.cell y c h⟩, e0.hok.fresh (Nat.le_refl _), fun y c h => ?_, fun p hp => absurd (show p ∈ ([] : List (Addr × Obj)) from hp) (by simp), e0.hok.kept hk, ?_⟩
  · exact name_of_addr x.apart (PySem.mem_of_lookup h1) (PySem.mem_of_lookup h2)
  · have hy : scope.names.lookup y = some .cell ∨ scope.names.lookup y = some .free := hy
    rcases hy with hy | hy
    · exact cell_has hy
    · exact absurd rfl (S.nofree _ (PySem.mem_of_lookup hy))
  · exact Nat.le_of_lt (x.above y c (PySem.mem_of_lookup h))
  · have hi : i < vs.length := by
      unfold start at h2
      by_cases hi : i < vs.length
      · exact hi
      · rw [List.getElem?_append_right (by simpa using hi)] at h2
        rw [List.getElem?_replicate] at h2
        split at h2 <;> cases h2
    have ha : vs[i]? = some v := by
      unfold start at h2
      rw [List.getElem?_append_left (by simpa using hi), List.getElem?_map] at h2
      cases e : vs[i]? with
      | none => rw [e] at h2; cases h2
      | some a => rw [e] at h2; cases h2; rfl
    obtain ⟨u, hu, rv⟩ := r.get ha
    have hp : ps[i]? = some y := by
      rw [← S.pre, List.getElem?_take_of_lt (by omega)]; exact h1
    have ndP : ps.Nodup := by rw [← S.pre]; exact S.nd.sublist (List.take_sublist _ _)
    refine ⟨u, rv, ?_⟩
    rcases S.par y (List.mem_of_getElem? hp) with k | k
    · exact .inl ⟨k, bindL_get ndP hp hu k⟩
    · obtain ⟨c, e⟩ := cell_has (n := s.heap.objs.size + 1) k
      refine .inr ⟨.inl k, c, e, ?_⟩
      have q := x.cell y c e
      rw [bindC_get ndP hp hu (by show scope.names.lookup y ≠ _; rw [k]; decide)] at q
      exact q
  · exact e0.hok.fresh (Nat.le_of_lt (x.above y c (PySem.mem_of_lookup h)))
  · unfold start
    show _ = N.length
    rw [List.length_append, List.length_map, List.length_replicate]
    omega

theorem fn_of {CX : CXT} {P : Program} {w : World} {K : PySem.W.Frag} {mg : Str → Option Value} {base : Heap} {k : Nat} {f : Addr} {name qual : Str} {params : Arguments} {body : List Stmt} {scope : Scope} {dV kV doc pm cdv ct oc : Value} {an od : Option Addr}
    {osl : Array (Option Value)} {N ps : List Str} {sp : Sp} (lk : K.lookup f = some ⟨oc, od, .func (PySem.W.fnOf name qual params body scope dV kV doc pm an cdv ct), osl⟩) (hcd : PySem.W.codeIn K cdv qual = true) (S : FnScope N ps scope)
    (len : ∀ vs H Q E, sp vs H Q E → vs.length = ps.length)
    (hbody : ∀ (A : Around) (outer : List Env) (s : Shared) (H : Hp) (vs : List V) (Q : VK) (E : XK), Room k (A.deeper (envOfC qual scope s.heap.objs.size f cdv)) → sp vs H Q E →
      ∃ t, PSs (cxOf CX P w K mg base N qual scope f cdv A outer s H E) body t ∧ t { nx := fun _ H' => Q .non H', rt := Q } (start N vs) H) :
    FnOk P w K mg base CX (k + 1) f (PySem.W.fnOf name qual params body scope dV kV doc pm an cdv ct) ps sp := by
  refine ⟨len, fun A outer s H args us vs Q E hr e0 hb r hsp => ?_⟩
  have hl := len _ _ _ _ hsp
  have KX : K.In s.heap := e0.mod.kin.keeps fun b o e => (e0.bs b o e).1
  have lim : s.heap.NoLimit := e0.mod.nolimit.keeps fun b o e => (e0.bs b o e).1
  have hkind : ∀ y ∈ ps.zip us, scope.names.lookup y.1 = some .local ∨ (scope.names.lookup y.1 = some .cell ∧ ((cellsFrom (s.heap.objs.size + 1) scope.names []).lookup y.1).isSome = true) := fun ⟨n, v⟩ hy => by
    rcases S.par n (List.of_mem_zip hy).1 with q | q
    · exact .inl q
    · exact .inr ⟨q, PySem.W.cellsFrom_some _ _ _ (.inl q)⟩
  refine codeAny_call_function hr.depth (KX _ _ lk) rfl S.co S.gen rfl (PySem.W.codeRec_of KX hcd) (hb _ _ _ _ ?_)
  refine wpAny_newFunctionEnv_cells S.kind hkind fun env he s1 x => ?_
  subst he
  refine ⟨lim.keeps x.toInCall.keep, codeAny_func ?_⟩
  obtain ⟨t, ht, hq⟩ := hbody A outer s H vs Q E (hr.deeper _) hsp
  have I : Inv (cxOf CX P w K mg base N qual scope f cdv A outer s H E) [] (start N vs) H s1 := inv_start S hr.hd e0 hl r x
  refine wpAny_mono (ht [] s1 (start N vs) H _ I hq) (fun fl s' hs => ?_) fun e s' hs => hs
  have fin : ∀ {σ' : St} {H' : Hp} {v : V} {u : Value}, Inv (cxOf CX P w K mg base N qual scope f cdv A outer s H E) [] σ' H' s' → RelV v u → Q v H' → CE outer P w H s Q u s' :=
    fun {σ' H' v u} J rv q => ⟨v, H', J.os, J.bare, J.base, J.hok, rv, q⟩
  cases fl with
  | ret u =>
    obtain ⟨v, σ', H', J, rv, q⟩ := hs
    exact fin J rv q
  | next =>
    obtain ⟨σ', H', J, q⟩ := hs
    exact fin (v := V.non) (u := Value.none) J rfl q
  | brk =>
    obtain ⟨_, _, _, q⟩ := hs
    exact False.elim q
  | cont =>
    obtain ⟨_, _, _, q⟩ := hs
    exact False.elim q
end L2

namespace L2
open PySem PySem.Spec PyProof.Rows
section
variable {X : Cx} {x : Str} {p pos : Pos} {e : Expr} {es : List Expr} {t : TA} {id T : String} {r : List V → Hp → VK → Prop}

def tCB (r : List V → Hp → VK → Prop) (t : TA) : TE := fun σ H Q => t σ H fun vs H1 => r vs H1 Q
theorem pe_callB (hc : CallR X (.builtin id) r) (hg : Gl X x) (hm : X.mg x = none) (hv : bootBuiltins x = some (.builtin id)) (ha : PA X (e :: es) t) (hn : x ≠ "__name__" := by decide) (hdb : (x == ("__debug__" : Str)) = false := by decide)
    (he : starEach (e :: es) X.env = (false, eval e X.env) :: starEach es X.env := by rfl) (hpl : (backTo pos (starEach es X.env)).any (·.1) = false := by rfl) : PE X (.Call (.Name x p) (e :: es) [] pos) (tCB r t) := by
  intro pins s σ H Q I h
  refine wpAny_Call_Name_kw (ld_blt I hg hm hv ?_ hn hdb)
  exact PyProof.Rows.callWith_builtin1 (thn (ha pos pins s σ H _ I h) fun us s1 ⟨vs, H1, I1, r1, q1⟩ => hc pins s1 σ H1 vs us Q I1 r1 q1) he hpl
theorem pe_callTy (hc : CallR X (.type T) r) (hg : Gl X x) (hm : X.mg x = none) (hv : bootBuiltins x = some (.type T)) (ha : PA X (e :: es) t) (hn : x ≠ "__name__" := by decide) (hdb : (x == ("__debug__" : Str)) = false := by decide)
    (he : starEach (e :: es) X.env = (false, eval e X.env) :: starEach es X.env := by rfl) (hpl : (backTo pos (starEach es X.env)).any (·.1) = false := by rfl) : PE X (.Call (.Name x p) (e :: es) [] pos) (tCB r t) := by
  intro pins s σ H Q I h
  refine wpAny_Call_Name_kw (ld_blt I hg hm hv ?_ hn hdb)
  exact PyProof.Rows.callWith_type1 (thn (ha pos pins s σ H _ I h) fun us s1 ⟨vs, H1, I1, r1, q1⟩ => hc pins s1 σ H1 vs us Q I1 r1 q1) he hpl
end
end L2

namespace HT
open PySem PyProof.Rows

section
open PySem.SeqAt
open PySem.AutoSeq1 (wpAny_loadPart')
open PySem.MeetsSeq PySem.MeetsSeq2 PySem.MeetsSeq3

end

section
variable {prog : Program} {w : World} {A : Around} {E : Value → Shared → Prop} {s : Shared}

/-! ### t[a:b], not the whole -/
def sIx (n d : Nat) : Option Int → Nat
  | none => d
  | some v => if v < 0 then (v + (n : Int)).toNat else min v.toNat n
theorem sIx_le (n d : Nat) (hd : d ≤ n) (o : Option Int) : sIx n d o ≤ n := by
  cases o with
  | none => exact hd
  | some v =>
    show (if v < 0 then (v + (n : Int)).toNat else min v.toNat n) ≤ n
    by_cases hv : v < 0
    · rw [if_pos hv]; omega
    · rw [if_neg hv]; exact Nat.min_le_right _ _
theorem clip_eq (v : Int) (n d : Nat) : (if v < 0 then max (v + (n : Int)) 0 else min v (n : Int)) = ((sIx n d (some v) : Nat) : Int) := by
  show (if v < 0 then max (v + (n : Int)) 0 else min v (n : Int)) = (((if v < 0 then (v + (n : Int)).toNat else min v.toNat n) : Nat) : Int)
  by_cases hv : v < 0
  · simp only [if_pos hv]; omega
  · simp only [if_neg hv]; omega
theorem adjust_gen (lo hi : Option Int) (n : Nat) : Builtin.Slice.sliceAdjust lo hi 1 (n : Int) = (((sIx n 0 lo : Nat) : Int), ((sIx n n hi : Nat) : Int)) := by
  have h1 : ¬ ((1 : Int) < 0) := by omega
  unfold Builtin.Slice.sliceAdjust
  simp only [h1, if_false]
  refine Prod.ext ?_ ?_
  · cases lo with
    | none => rfl
    | some v => exact clip_eq v n 0
  · cases hi with
    | none => rfl
    | some v => exact clip_eq v n n
theorem places_gen (i j : Nat) : Builtin.Slice.slicePlaces (i : Int) (j : Int) 1 = j - i := by
  unfold Builtin.Slice.slicePlaces
  have h1 : (1 : Int) > 0 := by omega
  simp only [h1, if_true, Int.ediv_one]
  split <;> omega
theorem slicePart_ {v : Value} {o : Option Int} {Q : Option Int → Shared → Prop} (p : IsPart v o) (h : Q o s) : wpAny (model prog w) A (Builtin.Slice.slicePartIndex v) Q E s := by
  cases p with
  | none => exact slicePart_none h
  | int i t => exact slicePart_int h
theorem sliceApplied_gen {sl : Addr} {vl vu : Value} {lo hi : Option Int} {n : Nat} {Q : Int × Int × Nat → Shared → Prop} (hs : s.heap.IsSliceOf sl vl vu .none) (pl : IsPart vl lo) (pu : IsPart vu hi)
    (h : Q (((sIx n 0 lo : Nat) : Int), 1, sIx n n hi - sIx n 0 lo) s) : wpAny (model prog w) A (Builtin.Slice.sliceApplied (.ref sl) (pure (n : Int))) Q E s := by
  obtain ⟨os, hos, hcs, hds⟩ := id hs
  unfold Builtin.Slice.sliceApplied Builtin.Slice.sliceFields
  refine wpAny_bind (wpAny_bind (wpAny_field hos hds (x := vl) rfl (wpAny_bind (wpAny_field hos hds (x := vu) rfl (wpAny_bind (wpAny_field hos hds (x := .none) rfl (wpAny_pure ?_)))))))
  refine wpAny_bind (slicePart_none ?_)
  show wpAny _ _ (if ((1 : Int) == 0) = true then _ else _) _ _ s
  rw [if_neg (by decide)]
  refine wpAny_bind (slicePart_ pl (wpAny_bind (slicePart_ pu (wpAny_bind (wpAny_pure ?_)))))
  show wpAny _ _ (match Builtin.Slice.sliceAdjust lo hi 1 (n : Int) with | (lo, hi) => pure (lo, (1 : Int), Builtin.Slice.slicePlaces lo hi 1)) _ _ s
  rw [adjust_gen lo hi n]
  show wpAny _ _ (pure (((sIx n 0 lo : Nat) : Int), (1 : Int), Builtin.Slice.slicePlaces ((sIx n 0 lo : Nat) : Int) ((sIx n n hi : Nat) : Int) 1)) _ _ s
  rw [places_gen]
  exact wpAny_pure h
theorem pick_gen (xs : Array Value) (i k : Nat) : ((List.range k).filterMap fun (m : Nat) => xs[((i : Int) + (m : Int) * 1).toNat]?).toArray = ((xs.toList.drop i).take k).toArray := by
  have e : (fun (m : Nat) => xs[((i : Int) + (m : Int) * 1).toNat]?) = fun m => xs[i + m]? := by
    funext m
    have : ((i : Int) + (m : Int) * 1).toNat = i + m := by omega
    rw [this]
  rw [e]
  have := pick_run xs i k
  rw [List.filterMap_map] at this
  have e2 : ((fun x => xs[x]?) ∘ fun x => i + x) = fun m => xs[i + m]? := rfl
  rw [e2] at this
  rw [this]

theorem getItem_tuple_cut {t sl : Addr} {items : Array Value} {vl vu : Value} {lo hi : Option Int} {Q : Value → Shared → Prop} (ht : IsTup s.heap t items) (hs : s.heap.IsSliceOf sl vl vu .none) (pl : IsPart vl lo) (pu : IsPart vu hi)
    (hw : ¬ (sIx items.size 0 lo = 0 ∧ sIx items.size items.size hi = items.size))
    (h : Q (.ref s.heap.objs.size) { s with heap := s.heap.push { cls := .type "tuple", data := .seq ((items.toList.drop (sIx items.size 0 lo)).take (sIx items.size items.size hi - sIx items.size 0 lo)).toArray } })
    (hsz : items.size ≤ sizeLine) : wpAny (model prog w) A (getItem (.ref t) (.ref sl)) Q E s := by
  have htake : sizeOk (.seq ((items.toList.drop (sIx items.size 0 lo)).take (sIx items.size items.size hi - sIx items.size 0 lo)).toArray) := by
    show ((items.toList.drop (sIx items.size 0 lo)).take (sIx items.size items.size hi - sIx items.size 0 lo)).toArray.size ≤ sizeLine
    rw [List.size_toArray, List.length_take, List.length_drop, Array.length_toList]
    omega
  have hj : sIx items.size items.size hi ≤ items.size := sIx_le _ _ (Nat.le_refl _) hi
  obtain ⟨os, hos, hcs, hds⟩ := id hs
  have hTs : s.TypeIs (.ref sl) "slice" := ⟨os, hos, hcs⟩
  unfold getItem
  try with_reducible refine wpAny_holding ?_
  first | refine wpAny_bind (wpAny_pure ?_) | skip
  refine wpAny_bind (wpAny_sequenceKey ht.typeIs (by decide) ?_)
  refine wpAny_bind (wpAny_callSpecial?_slot (name := Str.ofString "__getitem__") ht.typeIs PyProof.Rows.slot_tuple_getitem
    (wpAny_call_entry PyProof.Rows.slot_tuple_getitem ht.typeIs entry_tuple_getitem ?_ (args_tuple_getitem _ _)))
  show wpAny _ _ (Builtin.Tuple.tupleItemsOf (.ref t) >>= _) _ _ s
  refine wpAny_bind (tupleItemsOf_ ht ?_)
  refine wpAny_bind (wpAny_typeOf hTs ?_)
  rw [if_pos (by decide)]
  refine wpAny_bind (sliceApplied_gen hs pl pu ?_)
  have hno : ¬ ((((sIx items.size 0 lo : Nat) : Int) == 0 && (1 : Int) == 1 && (sIx items.size items.size hi - sIx items.size 0 lo) == items.size) = true) := by
    intro q
    rw [Bool.and_eq_true, Bool.and_eq_true] at q
    have q1 : ((sIx items.size 0 lo : Nat) : Int) = 0 := eq_of_beq q.1.1
    have q2 : sIx items.size items.size hi - sIx items.size 0 lo = items.size := eq_of_beq q.2
    exact hw ⟨by omega, by omega⟩
  show wpAny _ _ (if (((sIx items.size 0 lo : Nat) : Int) == 0 && (1 : Int) == 1 && (sIx items.size items.size hi - sIx items.size 0 lo) == items.size) = true then _ else _) _ _ s
  rw [if_neg hno, pick_gen]
  first
    | exact wpAny_bind (m := Builtin.Tuple.tupleExact _) (wpAny_newObj_type (wpAny_pure ⟨_, rfl, wpAny_pure h⟩) htake)
    | exact wpAny_bind (m := Builtin.Tuple.tupleExact _) (wpAny_newObj_type (wpAny_bind (wpAny_pure (wpAny_pure ⟨_, rfl, wpAny_pure h⟩))) htake)
    | exact wpAny_bind (wpAny_bind (m := Builtin.Tuple.tupleExact _) (wpAny_newObj_type (wpAny_pure (wpAny_pure ⟨_, rfl, wpAny_pure h⟩)) htake))
    | exact wpAny_bind (wpAny_bind (m := Builtin.Tuple.tupleExact _) (wpAny_newObj_type (wpAny_pure ⟨_, rfl, wpAny_pure h⟩) htake))
end
end HT

namespace L2
open PySem PySem.Spec PyProof.Rows

/-! ### the parts of a slice -/
abbrev TO := St → Hp → (Option Int → Hp → Prop) → Prop
def PO (X : Cx) (e : Option Expr) (t : TO) : Prop :=
  ∀ (pins : List (Addr × Obj)) (s : Shared) (σ : St) (H : Hp) (Q : Option Int → Hp → Prop), Inv X pins σ H s → t σ H Q →
    wpAny (model X.prog X.w) X.A (evalPart e X.env) (fun u s' => ∃ o H', Inv X pins σ H' s' ∧ IsPart u o ∧ Q o H') X.xe s
def tNoPart : TO := fun _ H Q => Q none H
def tPart (t : TE) : TO := fun σ H Q => t σ H fun x H1 => ∃ i, x = .int i ∧ Q (some i) H1

section
variable {X : Cx} {e : Expr} {te : TE} {lo hi : Option Expr} {tl th : TO} {pos p2 : Pos}

theorem po_none : PO X none tNoPart := by
  intro pins s σ H Q I h
  rw [evalPart_none]
  exact wpAny_pure ⟨none, H, I, .none, h⟩
theorem po_some (h : PE X e te) : PO X (some e) (tPart te) := by
  intro pins s σ H Q I hw
  rw [evalPart_some]
  refine thn (h pins s σ H _ I hw) fun u s1 ⟨x, H1, I1, r1, q1⟩ => ?_
  obtain ⟨i, rfl, q⟩ := q1
  obtain ⟨t, rfl⟩ := r1
  exact ⟨some i, H1, I1, .int i t, q⟩

def SlR (X : Cx) (r : V → Option Int → Option Int → Hp → VK → Prop) : Prop :=
  ∀ (pins : List (Addr × Obj)) (s : Shared) (σ : St) (H : Hp) (x : V) (v vl vu : Value) (lo hi : Option Int) (sl : Addr) (Q : VK), Inv X pins σ H s → RelV x v → s.heap.IsSliceOf sl vl vu .none → IsPart vl lo → IsPart vu hi → r x lo hi H Q →
    ∃ T id, typeLookup (.type T) "__getitem__" = pure (some (.builtin id)) ∧ s.TypeIs v T ∧ wpAny (model X.prog X.w) X.A (getItem v (.ref sl)) (EP X pins σ Q) X.xe s
theorem SlR.or {r r' : V → Option Int → Option Int → Hp → VK → Prop} (h : SlR X r) (h' : SlR X r') : SlR X (fun x lo hi H Q => r x lo hi H Q ∨ r' x lo hi H Q) := by
  intro pins s σ H x v vl vu lo hi sl Q I rx hs pl pu q
  rcases q with q | q
  · exact h pins s σ H x v vl vu lo hi sl Q I rx hs pl pu q
  · exact h' pins s σ H x v vl vu lo hi sl Q I rx hs pl pu q
def tSl (r : V → Option Int → Option Int → Hp → VK → Prop) (te : TE) (tl th : TO) : TE := fun σ H Q => te σ H fun x H1 => tl σ H1 fun l H2 => th σ H2 fun u H3 => r x l u H3 Q
theorem pe_slice {r : V → Option Int → Option Int → Hp → VK → Prop} (hr : SlR X r) (he : PE X e te) (hl : PO X lo tl) (hu : PO X hi th) : PE X (.Subscript e (.Slice lo hi none p2) pos) (tSl r te tl th) := by
  intro pins s σ H Q I h
  refine Subscript_ (thn (he pins s σ H _ I h) fun v s1 ⟨x, H1, I1, r1, q1⟩ => ?_)
  refine wpAny_Slice (thn (hl pins s1 σ H1 _ I1 q1) fun vl s2 ⟨l, H2, I2, pl, q2⟩ => thn (hu pins s2 σ H2 _ I2 q2) fun vu s3 ⟨u, H3, I3, pu, q3⟩ => ?_)
  rw [evalPart_none]
  refine wpAny_pure ?_
  have I4 : Inv X pins σ H3 { s3 with heap := s3.heap.push { cls := .type "slice", data := .fields #[vl, vu, .none] } } := I3.kept (t' := s3.toks) fun b ob q => Heap.get?_push_of_some _ q
  obtain ⟨T, id, hT, ht, hg⟩ := hr pins { s3 with heap := s3.heap.push { cls := .type "slice", data := .fields #[vl, vu, .none] } } σ H3 x v vl vu l u s3.heap.objs.size Q I4 r1 (Heap.IsSliceOf.new ..) pl pu q3
  show wpAny (model X.prog X.w) X.A (subscriptTail e (.Slice lo hi none p2) v (.ref s3.heap.objs.size)) (EP X pins σ Q) X.xe { s3 with heap := s3.heap.push { cls := .type "slice", data := .fields #[vl, vu, .none] } }
  exact tail_any (ops := [.ref s3.heap.objs.size, v]) ht hT hg (by with_unfolding_all rfl)

def cutV (xs : List V) (lo hi : Option Int) : List V := (xs.drop (HT.sIx xs.length 0 lo)).take (HT.sIx xs.length xs.length hi - HT.sIx xs.length 0 lo)
theorem cutV_length (xs : List V) (lo hi : Option Int) : (cutV xs lo hi).length ≤ xs.length := by
  unfold cutV
  rw [List.length_take, List.length_drop]
  omega
def rSlT (K : PySem.W.Frag) : V → Option Int → Option Int → Hp → VK → Prop := fun x lo hi H Q => ∃ a xs, x = .ref a ∧ SqT K H a xs ∧
  ¬ (HT.sIx xs.length 0 lo = 0 ∧ HT.sIx xs.length xs.length hi = xs.length) ∧ ∀ p, H p = none → Q (.ref p) (upd H p (.tup (cutV xs lo hi)))
theorem sl_tup : SlR X (rSlT X.K) := by
  intro pins s σ H x v vl vu lo hi sl Q I rx hs pl pu h
  obtain ⟨a, xs, rfl, hx, hw, q⟩ := h
  cases rx
  obtain ⟨its, r, ht, hz⟩ := I.tuple hx
  have hlen : its.toArray.size = xs.length := by rw [List.size_toArray]; exact r.length.symm
  refine ⟨"tuple", _, PyProof.Rows.slot_tuple_getitem.lookup, ht.typeIs, ?_⟩
  refine HT.getItem_tuple_cut ht hs pl pu (by rw [hlen]; exact hw) ?_ (by rw [hlen]; exact hz)
  rw [hlen]
  refine ⟨.ref s.heap.objs.size, _, I.laid (t' := s.toks) (o := .tup (cutV xs lo hi)) (fun b ob q => Heap.get?_push_of_some _ q) (Nat.le_refl _) ?_, rfl, q _ (I.hok.fresh (Nat.le_refl _))⟩
  exact ⟨Nat.le_trans (cutV_length xs lo hi) hz, _, (r.drop (HT.sIx xs.length 0 lo)).take (HT.sIx xs.length xs.length hi - HT.sIx xs.length 0 lo), IsTup.new _ _⟩

/-! ### t < u, t + u -/
end
end L2

namespace L2
open PySem PySem.Spec PyProof.Rows

/-! ### places -/
def ixN (n : Nat) (i : Int) : Option Nat := if 0 ≤ i then (if i < n then some i.toNat else none) else if -(n : Int) ≤ i then some (i + n).toNat else none
def atI {α : Type} (xs : List α) (i : Int) : Option α := (ixN xs.length i).bind fun j => xs[j]?
theorem ixN_seq {n : Nat} {i : Int} {j : Nat} (h : ixN n i = some j) : seqIndex? i n = some j ∧ j < n ∧ -(n : Int) ≤ i ∧ i < n := by
  unfold ixN at h
  by_cases h0 : 0 ≤ i
  · rw [if_pos h0] at h
    by_cases h1 : i < n
    · rw [if_pos h1] at h
      have e : i.toNat = j := Option.some.inj h
      exact ⟨by rw [seqIndex_of h0 h1, e], by omega, by omega, h1⟩
    · rw [if_neg h1] at h; cases h
  · rw [if_neg h0] at h
    by_cases h1 : -(n : Int) ≤ i
    · rw [if_pos h1] at h
      have e : (i + n).toNat = j := Option.some.inj h
      exact ⟨by rw [seqIndex_neg (by omega) h1, e], by omega, h1, by omega⟩
    · rw [if_neg h1] at h; cases h
theorem atI_get {α : Type} {xs : List α} {i : Int} {v : α} (h : atI xs i = some v) : ∃ j, seqIndex? i xs.length = some j ∧ xs[j]? = some v ∧ j < xs.length ∧ -(xs.length : Int) ≤ i ∧ i < xs.length := by
  unfold atI at h
  cases e : ixN xs.length i with
  | none => rw [e] at h; cases h
  | some j =>
    rw [e] at h
    obtain ⟨h1, h2, h3, h4⟩ := ixN_seq e
    exact ⟨j, h1, h, h2, h3, h4⟩
theorem atI_nat {α : Type} {xs : List α} {j : Nat} {v : α} (h : xs[j]? = some v) : atI xs (j : Int) = some v := by
  have hj : j < xs.length := (List.getElem?_eq_some_iff.mp h).1
  have e : ixN xs.length (j : Int) = some j := by
    unfold ixN
    rw [if_pos (by omega), if_pos (by omega)]; simp
  unfold atI; rw [e]; exact h
theorem atI_last {α : Type} (xs : List α) (v : α) : atI (xs ++ [v]) (-1) = some v := by
  have hl : (xs ++ [v]).length = xs.length + 1 := by simp
  have e : ixN (xs ++ [v]).length (-1) = some xs.length := by
    unfold ixN
    rw [hl, if_neg (by decide), if_pos (by omega)]
    congr 1
    omega
  unfold atI
  rw [e]
  show (xs ++ [v])[xs.length]? = some v
  simp

/-! ### what may be subscripted -/
def PlainIx (b : Expr) : Prop := ∀ o i, subscripted b false o i = operate [o, i] (getItem o i)
def IxR (X : Cx) (r : R2) : Prop :=
  ∀ (value slice : Expr) (pins : List (Addr × Obj)) (s : Shared) (σ : St) (H : Hp) (x y : V) (v u : Value) (Q : VK), Inv X pins σ H s → RelV x v → RelV y u → r x y H Q →
    subscripted slice false v u = operate [v, u] (getItem v u) → wpAny (model X.prog X.w) X.A (subscriptTail value slice v u) (EP X pins σ Q) X.xe s
def MtR (X : Cx) (id : String) (r : V → List V → Hp → VK → Prop) : Prop :=
  ∀ (pins : List (Addr × Obj)) (s : Shared) (σ : St) (H : Hp) (x : V) (xs : List V) (v : Value) (us : List Value) (Q : VK), Inv X pins σ H s → RelV x v → Vals xs us → r x xs H Q →
    wpAny (model X.prog X.w) X.A (call (.builtin id) (v :: us)) (EP X pins σ Q) X.xe s
section
variable {X : Cx} {a b : Expr} {ta tb : TE} {pos : Pos}
theorem IxR.or {r r' : R2} (h : IxR X r) (h' : IxR X r') : IxR X (fun x y H Q => r x y H Q ∨ r' x y H Q) := by
  intro value slice pins s σ H x y v u Q I rx ry q hs
  rcases q with q | q
  · exact h value slice pins s σ H x y v u Q I rx ry q hs
  · exact h' value slice pins s σ H x y v u Q I rx ry q hs
theorem MtR.or {id : String} {r r' : V → List V → Hp → VK → Prop} (h : MtR X id r) (h' : MtR X id r') : MtR X id (fun x xs H Q => r x xs H Q ∨ r' x xs H Q) := by
  intro pins s σ H x xs v us Q I rx rs q
  rcases q with q | q
  · exact h pins s σ H x xs v us Q I rx rs q
  · exact h' pins s σ H x xs v us Q I rx rs q
theorem pe_ix {r : R2} (hr : IxR X r) (ha : PE X a ta) (hb : PE X b tb) (hs : PlainIx b) : PE X (.Subscript a b pos) (tOp r ta tb) := by
  intro pins s σ H Q I h
  exact Subscript_ (binT ha hb I h fun v u s2 x y H2 I2 rx ry q => hr a b pins s2 σ H2 x y v u Q I2 rx ry q (hs _ _))

def rIxL (K : PySem.W.Frag) : R2 := fun x y H Q => ∃ p xs i v, x = .ref p ∧ y = .int i ∧ SqL K H p xs ∧ atI xs i = some v ∧ Q v H
def rIxT (K : PySem.W.Frag) : R2 := fun x y H Q => ∃ p xs i v, x = .ref p ∧ y = .int i ∧ SqT K H p xs ∧ atI xs i = some v ∧ Q v H
def rIxS : R2 := fun x y H Q => ∃ z i c, x = .str z ∧ y = .int i ∧ z.length ≤ sizeLine ∧ atI z.cps.toList i = some c ∧ Q (.str ⟨#[c]⟩) H
theorem ix_list : IxR X (rIxL X.K) := by
  intro value slice pins s σ H x y v u Q I rx ry h hs
  obtain ⟨p, xs, i, z, rfl, rfl, hq, he, q⟩ := h
  cases rx
  obtain ⟨t, rfl⟩ := ry
  obtain ⟨its, r, pl, hz⟩ := I.list hq
  obtain ⟨j, h1, h2, h3, h4, h5⟩ := atI_get he
  obtain ⟨w, ew, rw'⟩ := r.get h2
  have hl := r.length
  have hn := line63
  have fin : EP X pins σ Q w s := ⟨z, H, I, rw', q⟩
  by_cases h0 : 0 ≤ i
  · have hj : i.toNat = j := by
      rw [seqIndex_of h0 h5] at h1
      exact Option.some.inj h1
    exact item_listR pl.isList h0 (by omega) (by rw [hj]; simpa using ew) fin hs
  · have hj : (i + (its.toArray.size : Int)).toNat = j := by
      rw [seqIndex_neg (by omega) h4] at h1
      rw [List.size_toArray, ← hl]
      exact Option.some.inj h1
    exact subscriptTail_builtinR (x := w) pl.isList.typeIs slot_list_getitem.lookup
      (wpAny_getItem_list_neg (Q := fun r s' => r = w ∧ EP X pins σ Q r s') pl.isList (by omega) (by rw [List.size_toArray] <;> omega) (by omega) (by rw [hj]; simpa using ew) ⟨rfl, fin⟩) hs
theorem ix_tup : IxR X (rIxT X.K) := by
  intro value slice pins s σ H x y v u Q I rx ry h hs
  obtain ⟨p, xs, i, z, rfl, rfl, hq, he, q⟩ := h
  cases rx
  obtain ⟨t, rfl⟩ := ry
  obtain ⟨its, r, pl, hz⟩ := I.tuple hq
  obtain ⟨j, h1, h2, h3, h4, h5⟩ := atI_get he
  obtain ⟨w, ew, rw'⟩ := r.get h2
  have hl := r.length
  have hn := line63
  have fin : EP X pins σ Q w s := ⟨z, H, I, rw', q⟩
  exact subscriptTail_builtinR (x := w) pl.typeIs slot_tuple_getitem.lookup
    (getItem_tuple (j := j) (Q := fun r s' => r = w ∧ EP X pins σ Q r s') pl (by omega) (by omega) (by rw [List.size_toArray, ← hl]; exact h1) (by simpa using ew) ⟨rfl, fin⟩) hs
theorem ix_str : IxR X rIxS := by
  intro value slice pins s σ H x y v u Q I rx ry h hs
  obtain ⟨z, i, c, rfl, rfl, hz, he, q⟩ := h
  obtain ⟨t, rfl⟩ := rx
  obtain ⟨t', rfl⟩ := ry
  obtain ⟨j, h1, h2, h3, h4, h5⟩ := atI_get he
  have hl : z.cps.toList.length = z.length := by simp [Str.length]
  rw [hl] at h1 h4 h5
  have hn := line63
  exact tail_any (typeIs_str s z t) slot_str_getitem.lookup (getItem_str (c := c) (by
    have e1 : decide (i < -(2 ^ 63 : Int)) = false := decide_eq_false (by omega)
    have e2 : decide (i ≥ 2 ^ 63) = false := decide_eq_false (by omega)
    rw [e1, e2, Bool.or_false]) (by rw [h1]; simpa using h2) ⟨.str ⟨#[c]⟩, H, I.tok _, ⟨_, rfl⟩, q⟩) hs
/-! ### xs[i] = v, any sign -/
theorem mapSeq_set (its : List Value) (n j : Nat) (u : Value) : Obj.mapSeq (·.setIfInBounds j u) { cls := .type "list", data := .seq its.toArray n } = { cls := .type "list", data := .seq (its.set j u).toArray n } := by
  simp [Obj.mapSeq]
theorem Inv.lst {pins : List (Addr × Obj)} {σ : St} {H : Hp} {s : Shared} {p : Addr} {xs : List V} (I : Inv X pins σ H s) (h : H p = some (.lst xs)) :
    ∃ (its : List Value) (n : Nat), Vals xs its ∧ s.heap.get? p = some { cls := .type "list", data := .seq its.toArray n } ∧ xs.length ≤ sizeLine := by
  obtain ⟨z, its, n, r, e⟩ := I.hok p _ h
  exact ⟨its, n, r, e, z⟩
theorem Inv.lstUpd {pins : List (Addr × Obj)} {σ : St} {H : Hp} {s : Shared} {p : Addr} {xs ys : List V} {its its' : List Value} {n n' : Nat} {f : Obj → Obj} (I : Inv X pins σ H s) (h : H p = some (.lst xs))
    (ho : s.heap.get? p = some { cls := .type "list", data := .seq its.toArray n }) (hf : f { cls := .type "list", data := .seq its.toArray n } = { cls := .type "list", data := .seq its'.toArray n' }) (r : Vals ys its') (hz : ys.length ≤ sizeLine) (t : Nat) :
    Inv X pins σ (upd H p (.lst ys)) { s with heap := s.heap.update p f, toks := t } := by
  have e : (s.heap.update p f).get? p = some { cls := .type "list", data := .seq its'.toArray n' } := by
    rw [Heap.get?_update_self f ho (by rw [hf] <;> rfl), hf]
  refine I.write (x := p) (e := p) (by rw [h]; trivial) (.inl rfl) (fun b u hb q => (Heap.get?_update_other _ _ (Ne.symm hb)).trans q) ⟨_, e⟩ ?_
  exact ⟨hz, its', n', r, e⟩
def rSetL : V → V → V → Hp → (Hp → Prop) → Prop := fun o i v H Q => ∃ p xs k j, o = .ref p ∧ i = .int k ∧ H p = some (.lst xs) ∧ ixN xs.length k = some j ∧ Q (upd H p (.lst (xs.set j v)))
theorem set_list : PSet X rSetL := by
  intro pins s σ H o i v ov iv u Q I ro ri rv h
  obtain ⟨p, xs, k, j, rfl, rfl, hp, hj, q⟩ := h
  cases ro
  obtain ⟨t, rfl⟩ := ri
  obtain ⟨its, n, r, ho, hz⟩ := I.lst hp
  obtain ⟨h1, h2, h3, h4⟩ := ixN_seq hj
  have hl := r.length
  have hn := line63
  have I' : Inv X pins σ (upd H p (.lst (xs.set j v))) { s with heap := s.heap.update p (Obj.mapSeq (·.setIfInBounds j u)) } :=
    I.lstUpd hp ho (mapSeq_set its n j u) (r.set rv j) (by rw [List.length_set]; exact hz) s.toks
  by_cases h0 : 0 ≤ k
  · have hk : k.toNat = j := by
      rw [seqIndex_of h0 h4] at h1
      exact Option.some.inj h1
    exact PySem.W.ki_setAt ho h0 (by omega) (by rw [List.size_toArray, ← hl]; exact h4) (by rw [hk]; exact ⟨_, I', q⟩)
  · have hk : (k + (its.toArray.size : Int)).toNat = j := by
      rw [seqIndex_neg (by omega) h3] at h1
      rw [List.size_toArray, ← hl]
      exact Option.some.inj h1
    exact PySem.W.ki_setBack ho (by omega) (by rw [List.size_toArray, ← hl]; exact h3) (by omega) (by rw [hk]; exact ⟨_, I', q⟩)

/-! ### slices -/
theorem slice_bounds (lo hi : Option Int) (n : Nat) : (sliceBounds lo hi none n).1 = ((HT.sIx n 0 lo : Nat) : Int) ∧ (sliceBounds lo hi none n).2.1 = ((HT.sIx n n hi : Nat) : Int) ∧ (sliceBounds lo hi none n).2.2 = 1 := by
  refine ⟨?_, ?_, rfl⟩
  · cases lo with
    | none => simp [sliceBounds, HT.sIx]
    | some i =>
      simp only [sliceBounds, HT.sIx, Option.getD_none, show (1 : Int) > 0 by decide, if_true]
      by_cases h : i < 0
      · simp only [h, if_true] <;> omega
      · simp only [h, if_false] <;> omega
  · cases hi with
    | none => simp [sliceBounds, HT.sIx]
    | some i =>
      simp only [sliceBounds, HT.sIx, Option.getD_none, show (1 : Int) > 0 by decide, if_true]
      by_cases h : i < 0
      · simp only [h, if_true] <;> omega
      · simp only [h, if_false] <;> omega
theorem slicePick_cut (its : List Value) (lo hi : Option Int) : slicePick its.toArray lo hi none = ((its.drop (HT.sIx its.length 0 lo)).take (HT.sIx its.length its.length hi - HT.sIx its.length 0 lo)).toArray := by
  obtain ⟨h1, h2, h3⟩ := slice_bounds lo hi its.toArray.size
  unfold slicePick
  rw [h1, h2, h3]
  simp only [sliceRange_one, pick_run, List.size_toArray] <;> rfl
def rSlL (K : PySem.W.Frag) : V → Option Int → Option Int → Hp → VK → Prop := fun x lo hi H Q => ∃ a xs, x = .ref a ∧ SqL K H a xs ∧ ∀ p, H p = none → Q (.ref p) (upd H p (.lst (cutV xs lo hi)))
theorem sl_list : SlR X (rSlL X.K) := by
  intro pins s σ H x v vl vu lo hi sl Q I rx hs pl pu h
  obtain ⟨a, xs, rfl, hx, q⟩ := h
  cases rx
  obtain ⟨its, r, ht, hz⟩ := I.list hx
  have hlen := r.length
  refine ⟨"list", _, slot_list_getitem.lookup, ht.isList.typeIs, ?_⟩
  refine wpAny_getItem_list_slice ht.isList hs pl pu .none (by simp) ?_ (by rw [List.size_toArray] <;> omega)
  rw [slicePick_cut, ← hlen]
  refine ⟨.ref s.heap.objs.size, _, I.laid (t' := s.toks) (o := .lst (cutV xs lo hi)) (fun b ob q => Heap.get?_push_of_some _ q) (Nat.le_refl _) ?_, rfl, q _ (I.hok.fresh (Nat.le_refl _))⟩
  exact ⟨Nat.le_trans (cutV_length xs lo hi) hz, _, 0, (r.drop (HT.sIx xs.length 0 lo)).take (HT.sIx xs.length xs.length hi - HT.sIx xs.length 0 lo), Heap.get?_push_size _ rfl⟩

/-! ### in, not in: flat items -/
def flatV : V → Bool
  | .non => true
  | .bl _ => true
  | .int _ => true
  | .str _ => true
  | _ => false
def eqV : V → V → Bool
  | .non, .non => true
  | .bl a, .bl b => a == b
  | .bl a, .int b => (if a then 1 else 0) == b
  | .int a, .bl b => a == (if b then 1 else 0)
  | .int a, .int b => a == b
  | .str a, .str b => a == b
  | _, _ => false
theorem eqAt_V {A : Around} {s : Shared} {y x : V} {u v : Value} (ry : RelV y u) (rx : RelV x v) (fy : flatV y = true) (fx : flatV x = true) : SeqAt.EqAt A s u v (eqV y x) := by
  cases y with
  | non =>
    cases ry
    cases x with
    | non => cases rx; exact SeqAt.EqAt.same _
    | bl b => cases rx; exact SeqAt.EqAt.none_bool b
    | int b => obtain ⟨t, rfl⟩ := rx; exact SeqAt.EqAt.none_int b t
    | str b => obtain ⟨t, rfl⟩ := rx; exact SeqAt.EqAt.none_str b t
    | _ => exact absurd (show false = true from fx) Bool.false_ne_true
  | bl a =>
    cases ry
    cases x with
    | non => cases rx; exact SeqAt.EqAt.bool_none a
    | bl b => cases rx; exact SeqAt.EqAt.bool_bool a b
    | int b => obtain ⟨t, rfl⟩ := rx; exact SeqAt.EqAt.bool_int a b t
    | str b => obtain ⟨t, rfl⟩ := rx; exact SeqAt.EqAt.bool_str a b t
    | _ => exact absurd (show false = true from fx) Bool.false_ne_true
  | int a =>
    obtain ⟨t', rfl⟩ := ry
    cases x with
    | non => cases rx; exact SeqAt.EqAt.int_none a t'
    | bl b => cases rx; exact SeqAt.EqAt.int_bool a t' b
    | int b => obtain ⟨t, rfl⟩ := rx; exact SeqAt.EqAt.int_int a t' b t
    | str b => obtain ⟨t, rfl⟩ := rx; exact SeqAt.EqAt.int_str a t' b t
    | _ => exact absurd (show false = true from fx) Bool.false_ne_true
  | str a =>
    obtain ⟨t', rfl⟩ := ry
    cases x with
    | non => cases rx; exact SeqAt.EqAt.str_none a t'
    | bl b => cases rx; exact SeqAt.EqAt.str_bool a t' b
    | int b => obtain ⟨t, rfl⟩ := rx; exact SeqAt.EqAt.str_int a t' b t
    | str b => obtain ⟨t, rfl⟩ := rx; exact SeqAt.EqAt.str_str a t' b t
    | _ => exact absurd (show false = true from fx) Bool.false_ne_true
  | _ => exact absurd (show false = true from fy) Bool.false_ne_true
def eqU (x : V) (u : Value) : Bool := match u with
  | .none => eqV .non x
  | .bool b => eqV (.bl b) x
  | .int i _ => eqV (.int i) x
  | .str z _ => eqV (.str z) x
  | _ => false
theorem eqU_of {x y : V} {u : Value} (r : RelV y u) (f : flatV y = true) : eqU x u = eqV y x := by
  cases y with
  | non => cases r; rfl
  | bl b => cases r; rfl
  | int i => obtain ⟨t, rfl⟩ := r; rfl
  | str z => obtain ⟨t, rfl⟩ := r; rfl
  | _ => exact absurd (show false = true from f) Bool.false_ne_true
theorem any_eqU {x : V} : ∀ {xs : List V} {us : List Value}, Vals xs us → xs.all flatV = true → us.any (eqU x) = xs.any fun y => eqV y x
  | _, _, .nil, _ => rfl
  | y :: xs, u :: us, .cons r t, f => by
    rw [List.all_cons, Bool.and_eq_true] at f
    rw [List.any_cons, List.any_cons, eqU_of r f.1, any_eqU t f.2]
theorem mem_eqAt {A : Around} {s : Shared} {x : V} {v : Value} (rx : RelV x v) (fx : flatV x = true) : ∀ {xs : List V} {us : List Value}, Vals xs us → xs.all flatV = true → ∀ u ∈ us, SeqAt.EqAt A s u v (eqU x u)
  | _, _, .nil, _ => fun u hu => by cases hu
  | y :: xs, u :: us, .cons r t, f => fun u' hu => by
    rw [List.all_cons, Bool.and_eq_true] at f
    rcases List.mem_cons.mp hu with rfl | hu
    · rw [eqU_of r f.1]; exact eqAt_V r rx f.1 fx
    · exact mem_eqAt rx fx t f.2 u' hu
def inV (x : V) (xs : List V) : Bool := xs.any fun y => eqV y x
def rIn (K : PySem.W.Frag) (neg : Bool) : R2 := fun x y H Q => ∃ p xs, y = .ref p ∧ (SqL K H p xs ∨ SqT K H p xs) ∧ flatV x = true ∧ xs.all flatV = true ∧ Q (.bl (if neg then !inV x xs else inV x xs)) H
theorem op_in_seq : OpR X (compareOp .In) (rIn X.K false) := by
  intro pins s σ H x y v u Q I rx ry h
  obtain ⟨p, xs, rfl, hq, fx, fs, q⟩ := h
  cases ry
  rcases hq with hq | hq
  · obtain ⟨its, r, pl, hz⟩ := I.list hq
    refine SeqAt.in_listAt (eqU x) pl.isList (fun w hw => mem_eqAt rx fx r fs w (by simpa using hw)) ⟨.bl _, H, I, rfl, ?_⟩
    rw [show its.toArray.any (eqU x) = its.any (eqU x) by simp, any_eqU r fs]
    exact q
  · obtain ⟨its, r, pl, hz⟩ := I.tuple hq
    refine SeqAt.in_tupleAt (eqU x) pl (fun w hw => mem_eqAt rx fx r fs w (by simpa using hw)) ⟨.bl _, H, I, rfl, ?_⟩
    rw [show its.toArray.any (eqU x) = its.any (eqU x) by simp, any_eqU r fs]
    exact q
theorem op_notIn_seq : OpR X (compareOp .NotIn) (rIn X.K true) := by
  intro pins s σ H x y v u Q I rx ry h
  obtain ⟨p, xs, rfl, hq, fx, fs, q⟩ := h
  cases ry
  rcases hq with hq | hq
  · obtain ⟨its, r, pl, hz⟩ := I.list hq
    refine SeqAt.notIn_listAt (eqU x) pl.isList (fun w hw => mem_eqAt rx fx r fs w (by simpa using hw)) ⟨.bl _, H, I, rfl, ?_⟩
    rw [show its.toArray.any (eqU x) = its.any (eqU x) by simp, any_eqU r fs]
    exact q
  · obtain ⟨its, r, pl, hz⟩ := I.tuple hq
    refine SeqAt.notIn_tupleAt (eqU x) pl (fun w hw => mem_eqAt rx fx r fs w (by simpa using hw)) ⟨.bl _, H, I, rfl, ?_⟩
    rw [show its.toArray.any (eqU x) = its.any (eqU x) by simp, any_eqU r fs]
    exact q
/-! ### len, list(x), tuple(x) of any list or tuple that is read -/
theorem call_len_str : CallR X (.builtin "len") (fun xs H Q => ∃ z, xs = [.str z] ∧ z.length ≤ sizeLine ∧ Q (.int z.length) H) := by
  intro pins s σ H xs us Q I r h
  obtain ⟨z, rfl, hz, q⟩ := h
  obtain ⟨u, rfl, t, rfl⟩ := vals1 r
  have hn := line63
  exact len_str (by omega) ⟨.int z.length, H, I.tok _, ⟨_, rfl⟩, q⟩
theorem CallR.or {f : Value} {r r' : List V → Hp → VK → Prop} (h : CallR X f r) (h' : CallR X f r') : CallR X f (fun xs H Q => r xs H Q ∨ r' xs H Q) := by
  intro pins s σ H xs us Q I rs q
  rcases q with q | q
  · exact h pins s σ H xs us Q I rs q
  · exact h' pins s σ H xs us Q I rs q
/-! ### the call of a builtin's method: o.m(..) -/
def tyV (K : PySem.W.Frag) (T : String) (x : V) (H : Hp) : Prop := match x with
  | .str _ => T = "str"
  | .int _ => T = "int"
  | .ref p => (T = "list" ∧ ∃ xs, SqL K H p xs) ∨ (T = "tuple" ∧ ∃ o, K.lookup p = some o ∧ o.cls = .type "tuple" ∧ o.dict = none) ∨
      (T = "dict" ∧ ((∃ kvs, H p = some (.dK kvs)) ∨ ∃ kvs, H p = some (.dT kvs))) ∨ (T = "set" ∧ ∃ S n, H p = some (.set S n))
  | _ => False
theorem tyV_is {pins : List (Addr × Obj)} {σ : St} {H : Hp} {s : Shared} {T : String} {x : V} {v : Value} (I : Inv X pins σ H s) (r : RelV x v) (ty : tyV X.K T x H) :
    s.TypeIs v T ∧ ∀ a, v = .ref a → ∃ ob, s.heap.get? a = some ob ∧ ob.dict = none := by
  cases x with
  | str z =>
    obtain ⟨t, rfl⟩ := r
    cases (show T = "str" from ty)
    exact ⟨typeIs_str s z t, fun _ e => nomatch e⟩
  | int i =>
    obtain ⟨t, rfl⟩ := r
    cases (show T = "int" from ty)
    exact ⟨typeIs_int s i t, fun _ e => nomatch e⟩
  | ref p =>
    cases r
    rcases ty with ⟨rfl, xs, hq⟩ | ⟨rfl, o, hk, hc, hd⟩ | ⟨rfl, hk⟩ | ⟨rfl, S, n, hk⟩
    · obtain ⟨its, _, pl, _⟩ := I.list hq
      refine ⟨pl.isList.typeIs, fun a e => ?_⟩
      cases e
      obtain ⟨o, n, e, c, hd, _⟩ := pl
      exact ⟨o, e, hd⟩
    · refine ⟨⟨o, I.kIn p o hk, hc⟩, fun a e => ?_⟩
      cases e
      exact ⟨o, I.kIn _ o hk, hd⟩
    · have z : ∃ o, s.heap.get? p = some o ∧ o.ExactDict := by
        rcases hk with ⟨kvs, hk⟩ | ⟨kvs, hk⟩
        · obtain ⟨_, _, _, _, o, _, _, e, ex, _⟩ := I.hok p _ hk
          exact ⟨o, e, ex⟩
        · obtain ⟨_, _, _, _, o, _, _, e, ex, _⟩ := I.hok p _ hk
          exact ⟨o, e, ex⟩
      obtain ⟨o, e, ex⟩ := z
      refine ⟨⟨o, e, ex.1⟩, fun a e2 => ?_⟩
      cases e2
      exact ⟨o, e, ex.2.1⟩
    · obtain ⟨o, _, _, _, e, ex, _⟩ := I.hok p _ hk
      refine ⟨⟨o, e, ex.1⟩, fun a e2 => ?_⟩
      cases e2
      exact ⟨o, e, ex.2.1⟩
  | _ => exact False.elim ty
def tBM0 (K : PySem.W.Frag) (T : String) (r : V → List V → Hp → VK → Prop) (to : TE) : TE := fun σ H Q => to σ H fun x H1 => tyV K T x H1 ∧ r x [] H1 Q
def tBM (K : PySem.W.Frag) (T : String) (r : V → List V → Hp → VK → Prop) (to : TE) (t : TA) : TE := fun σ H Q => to σ H fun x H1 => tyV K T x H1 ∧ t σ H1 fun xs H2 => r x xs H2 Q
variable {o e : Expr} {es : List Expr} {to : TE} {t : TA} {name : Str} {apos cpos : Pos} {T id : String} {r : V → List V → Hp → VK → Prop}
theorem pe_bm0 (pa : PlainAttrs T) (slot : Slot T name id) (hty : typeOf (.builtin id) = pure (.type "method_descriptor")) (hm : MtR X id r) (ho : PE X o to)
    (hbase : attributeBase o name X.env (eval o X.env) = eval o X.env := by rfl) (hline : (apos.endLine == cpos.line) = true := by rfl) : PE X (.Call (.Attribute o name apos) [] [] cpos) (tBM0 X.K T r to) := by
  intro pins s σ H Q I h
  refine wpAny_Call_method0_late hbase hline (thn (ho pins s σ H _ I h) fun v s1 ⟨x, H1, I1, r1, ty, q1⟩ => ?_)
  obtain ⟨h1, h2⟩ := tyV_is I1 r1 ty
  exact ⟨T, id, pa, slot, hty, h1, h2, Calls.callWith_builtin rfl (PySem.evalArgs_none (hm pins s1 σ H1 x [] v [] Q I1 r1 .nil q1))⟩
theorem pe_bm (pa : PlainAttrs T) (slot : Slot T name id) (hty : typeOf (.builtin id) = pure (.type "method_descriptor")) (hm : MtR X id r) (ho : PE X o to) (ha : PA X (e :: es) t)
    (hbase : attributeBase o name X.env (eval o X.env) = eval o X.env := by rfl)
    (hfew : ((backTo cpos (starEach (e :: es) X.env)).all (fun x => !x.1) && (backToKw cpos (keywordEach [] X.env)).all (fun x => x.1.isSome)
      && decide ((e :: es).length + ([] : List Keyword).length + (if ([] : List Keyword).isEmpty then 0 else 1) < 30)) = true := by rfl)
    (hline : (apos.endLine == cpos.line) = true := by rfl) (hs : starEach (e :: es) X.env = (false, eval e X.env) :: starEach es X.env := by rfl) (hplain : (backTo cpos (starEach es X.env)).any (·.1) = false := by rfl) :
    PE X (.Call (.Attribute o name apos) (e :: es) [] cpos) (tBM X.K T r to t) := by
  intro pins s σ H Q I h
  refine wpAny_Call_method_late hbase hfew hline rfl (thn (ho pins s σ H _ I h) fun v s1 ⟨x, H1, I1, r1, ty, q1⟩ => ?_)
  obtain ⟨h1, h2⟩ := tyV_is I1 r1 ty
  refine ⟨T, id, pa, slot, hty, h1, h2, ?_⟩
  have hA := ha cpos pins s1 σ H1 _ I1 q1
  rw [hs] at hA ⊢
  refine Calls.callWith_builtin (by show (false || (backTo cpos (starEach es X.env)).any (·.1)) = false; rw [hplain] <;> rfl) (Calls.evalArgs_plain ?_)
  exact thn hA fun us s2 ⟨vs, H2, I2, r2, q2⟩ => hm pins s2 σ H2 x vs v us Q I2 r1 r2 q2
/- xs.append(e), list.index on a module's tuple .. are MtR facts of 06m -/
end
end L2

namespace L2
open PySem PySem.Spec PyProof.Rows

def MtM (X : Cx) (id : String) (r : V → List V → Hp → VK → Prop) : Prop :=
  ∀ (pins : List (Addr × Obj)) (s : Shared) (σ : St) (H : Hp) (x : V) (xs : List V) (v : Value) (us : List Value) (Q : VK), Inv X pins σ H s → RelV x v → Vals xs us → r x xs H Q →
    wpAny (model X.prog X.w) X.A (call (.builtin id) (v :: us)) (EP X pins σ Q) X.xe s

/-! ### lists of values -/
theorem Vals.one : ∀ {x : V} {us : List Value}, Vals [x] us → ∃ u, us = [u] ∧ RelV x u
  | _, _, .cons r .nil => ⟨_, rfl, r⟩
theorem Vals.two : ∀ {x y : V} {us : List Value}, Vals [x, y] us → ∃ u v, us = [u, v] ∧ RelV x u ∧ RelV y v
  | _, _, _, .cons r (.cons q .nil) => ⟨_, _, rfl, r, q⟩
theorem Vals.zero : ∀ {us : List Value}, Vals [] us → us = []
  | _, .nil => rfl
theorem Vals.dropLast {xs : List V} {us : List Value} (h : Vals xs us) : Vals xs.dropLast us.dropLast := by
  induction h with
  | nil => exact .nil
  | cons r t ih =>
    cases t with
    | nil => exact .nil
    | cons q t' => exact .cons r ih
theorem Vals.eraseIdx : ∀ {xs : List V} {us : List Value} (i : Nat), Vals xs us → Vals (xs.eraseIdx i) (us.eraseIdx i)
  | _, _, _, .nil => .nil
  | _, _, 0, .cons _ t => t
  | _, _, i + 1, .cons r t => .cons r (Vals.eraseIdx i t)
theorem Vals.reverse {xs : List V} {us : List Value} (h : Vals xs us) : Vals xs.reverse us.reverse := by
  induction h with
  | nil => exact .nil
  | cons r t ih => rw [List.reverse_cons, List.reverse_cons]; exact Vals.append ih (.cons r .nil)
theorem Vals.rep {xs : List V} {us : List Value} (h : Vals xs us) : ∀ k : Nat, Vals (List.replicate k xs).flatten (List.replicate k us).flatten
  | 0 => .nil
  | k + 1 => by
    rw [List.replicate_succ, List.replicate_succ, List.flatten_cons, List.flatten_cons]
    exact Vals.append h (Vals.rep h k)
theorem erase_last {α : Type} (l : List α) : l.eraseIdx (l.length - 1) = l.dropLast := by
  induction l with
  | nil => rfl
  | cons a r ih =>
    cases r with
    | nil => rfl
    | cons b r =>
      have e : (a :: b :: r).length - 1 = ((b :: r).length - 1) + 1 := by
        have h1 : (a :: b :: r).length = r.length + 2 := rfl
        have h2 : (b :: r).length = r.length + 1 := rfl
        omega
      rw [e, List.eraseIdx_cons_succ, ih]
      all_goals rfl
theorem foldl_rep (its : List Value) : ∀ (k : Nat) (acc : List Value),
    List.foldl (fun x1 x2 => x1 ++ x2) acc.toArray (List.replicate k its.toArray) = (acc ++ (List.replicate k its).flatten).toArray
  | 0, acc => by simp
  | k + 1, acc => by
    have e : acc.toArray ++ its.toArray = (acc ++ its).toArray := by simp
    have e2 : (acc ++ its) ++ (List.replicate k its).flatten = acc ++ (List.replicate (k + 1) its).flatten := by
      rw [List.replicate_succ, List.flatten_cons, List.append_assoc]
    rw [← e2, ← foldl_rep its k (acc ++ its), ← e, List.replicate_succ, List.foldl_cons]

section
variable {X : Cx} {pins : List (Addr × Obj)} {σ : St} {H : Hp} {s : Shared} {l b : Addr} {xs ys zs : List V}

/-! ### the two steps: a tracked list is rewritten, a new list is laid -/
theorem Inv.lset {its its' : List Value} {n : Nat} {f : Array Value → Array Value} {t' : Nat} (I : Inv X pins σ H s) (hH : H l = some (.lst xs))
    (e : s.heap.get? l = some { cls := .type "list", data := .seq its.toArray n }) (hf : f its.toArray = its'.toArray) (hv : Vals ys its') (hz : ys.length ≤ sizeLine) :
    Inv X pins σ (upd H l (.lst ys)) { s with heap := s.heap.update l (Obj.mapSeq f), toks := t' } := by
  have q := PySem.IsL.update e f
  rw [hf] at q
  refine I.write (x := l) (e := l) (by rw [hH]; exact trivial) (.inl rfl) (fun b' u hb hu => (Heap.get?_update_other s.heap (Obj.mapSeq f) (Ne.symm hb)).trans hu) ⟨_, q⟩ ?_
  exact ⟨hz, its', _, hv, q⟩
theorem Inv.lnew {its : List Value} {t' : Nat} (I : Inv X pins σ H s) (hv : Vals ys its) (hz : ys.length ≤ sizeLine) :
    Inv X pins σ (upd H s.heap.objs.size (.lst ys)) { s with heap := s.heap.push { cls := .type "list", data := .seq its.toArray }, toks := t' } :=
  I.laid (fun _ _ q => Heap.get?_push_of_some _ q) (Nat.le_refl _) ⟨hz, its, 0, hv, Heap.get?_push_size _ rfl⟩
theorem Inv.fresh (I : Inv X pins σ H s) : H s.heap.objs.size = none := I.hok.fresh (Nat.le_refl _)
theorem Inv.lstM (I : Inv X pins σ H s) (hH : H l = some (.lst xs)) : xs.length ≤ sizeLine ∧ ∃ (its : List Value) (n : Nat), Vals xs its ∧ xs.length = its.length ∧ s.heap.get? l = some { cls := .type "list", data := .seq its.toArray n } := by
  obtain ⟨z, its, n, r, e⟩ := I.hok l _ hH
  exact ⟨z, its, n, r, r.length, e⟩

theorem notLongL {n : Nat} (h : n ≤ sizeLine) : Builtin.List.listTooLong n = false := by
  unfold Builtin.List.listTooLong
  exact decide_eq_false (by omega)
end

section
variable {X : Cx}

/-! ### methods -/
def rAppend : V → List V → Hp → VK → Prop := fun x vs H Q => ∃ l xs y, x = .ref l ∧ vs = [y] ∧ H l = some (.lst xs) ∧ xs.length < sizeLine ∧ Q .non (upd H l (.lst (xs ++ [y])))
theorem mt_append : MtM X "list.append" rAppend := by
  intro pins s σ H x vs v us Q I rx rv h
  obtain ⟨l, xs, y, rfl, rfl, hH, hz, q⟩ := h
  cases rx
  obtain ⟨u, rfl, ru⟩ := rv.one
  obtain ⟨z, its, n, r, hl, e⟩ := I.lstM hH
  refine call_meets F.slot_list_append ⟨_, e, rfl⟩ F.entry_list_append (F.args_list_append_2 _ _) (PySem.list_append l its.toArray n u (by rw [List.size_toArray]; omega)) ⟨e, ?_⟩
  refine ⟨.non, _, I.lset (its' := its ++ [u]) hH e (by simp) (r.append (.cons ru .nil)) ?_, rfl, q⟩
  rw [List.length_append, List.length_singleton]
  omega

def rPop : V → List V → Hp → VK → Prop := fun x vs H Q => ∃ l xs y, x = .ref l ∧ vs = [] ∧ H l = some (.lst xs) ∧ xs[xs.length - 1]? = some y ∧ Q y (upd H l (.lst xs.dropLast))
theorem mt_pop : MtM X "list.pop" rPop := by
  intro pins s σ H x vs v us Q I rx rv h
  obtain ⟨l, xs, y, rfl, rfl, hH, hy, q⟩ := h
  cases rx
  have hus := rv.zero
  subst hus
  obtain ⟨z, its, n, r, hl, e⟩ := I.lstM hH
  obtain ⟨u, hu, ru⟩ := r.get hy
  have hy' : its.toArray[its.toArray.size - 1]? = some u := by
    show its.toArray[its.length - 1]? = some u
    rw [← Array.getElem?_toList, ← hl]
    exact hu
  refine call_meets F.slot_list_pop ⟨_, e, rfl⟩ F.entry_list_pop (F.args_list_pop_1 _) (MeetsSeq.list_pop_last l its.toArray n u hy' (by rw [List.size_toArray]; omega)) ⟨e, ?_⟩
  refine ⟨y, _, I.lset (its' := its.dropLast) hH e ?_ r.dropLast ?_, ru, q⟩
  · show its.toArray.eraseIdxIfInBounds (its.toArray.size - 1) = its.dropLast.toArray
    rw [List.size_toArray, List.eraseIdxIfInBounds_toArray, erase_last]
  · rw [List.length_dropLast]
    omega

/-! ### list + list, list += list, list * int -/
def rCat : R2 := fun x y H Q => ∃ l b xs zs, x = .ref l ∧ y = .ref b ∧ H l = some (.lst xs) ∧ H b = some (.lst zs) ∧ xs.length + zs.length ≤ sizeLine ∧ ∀ p, H p = none → Q (.ref p) (upd H p (.lst (xs ++ zs)))
theorem op_cat : OpR X (binaryOp .Add) rCat := by
  intro pins s σ H x y v u Q I rx ry h
  obtain ⟨l, b, xs, zs, rfl, rfl, hH, hB, hz, q⟩ := h
  cases rx
  cases ry
  obtain ⟨z, its, n, r, hl, e⟩ := I.lstM hH
  obtain ⟨z2, its2, n2, r2, hl2, e2⟩ := I.lstM hB
  refine PySem.P.add_list e e2 ?_ (by rw [List.size_toArray, List.size_toArray]; omega)
  have ea : its.toArray ++ its2.toArray = (its ++ its2).toArray := by simp
  rw [ea]
  exact ⟨.ref _, _, I.lnew (t' := s.toks) (r.append r2) (by rw [List.length_append]; omega), rfl, q _ I.fresh⟩
def rRep : R2 := fun x y H Q => ∃ l k xs, x = .ref l ∧ y = .int k ∧ H l = some (.lst xs) ∧ -(2 ^ 63) ≤ k ∧ k < 2 ^ 63 ∧ xs.length * k.toNat ≤ sizeLine ∧
  ∀ p, H p = none → Q (.ref p) (upd H p (.lst (List.replicate k.toNat xs).flatten))
theorem len_rep {α : Type} (xs : List α) (k : Nat) : (List.replicate k xs).flatten.length = k * xs.length := by
  induction k with
  | zero => simp
  | succ k ih => rw [List.replicate_succ, List.flatten_cons, List.length_append, ih, Nat.succ_mul, Nat.add_comm]
theorem op_rep : OpR X (binaryOp .Mult) rRep := by
  intro pins s σ H x y v u Q I rx ry h
  obtain ⟨l, k, xs, rfl, rfl, hH, h1, h2, hz, q⟩ := h
  cases rx
  obtain ⟨t, rfl⟩ := ry
  obtain ⟨z, its, n, r, hl, e⟩ := I.lstM hH
  have hlen : its.toArray.size * k.toNat ≤ sizeLine := by rw [List.size_toArray, ← hl]; exact hz
  have hcap : ¬ its.toArray.size * k.toNat > (2 ^ 63 - 1) / 8 := by
    have : (sizeLine : Nat) ≤ (2 ^ 63 - 1) / 8 := by decide
    omega
  have hfit : ¬ (!Builtin.List.listFitsIndex k) = true := by
    rw [fitsIndex_both h1 h2]
    exact Bool.false_ne_true
  have hlong : ¬ Builtin.List.listTooLong (its.toArray.size * k.toNat) = true := by
    rw [notLongL hlen]
    exact Bool.false_ne_true
  have hnew : List.foldl (fun x1 x2 => x1 ++ x2) #[] (List.replicate (if its.toArray.isEmpty = true then 0 else k.toNat) its.toArray) = (List.replicate k.toNat its).flatten.toArray := by
    have f0 : ∀ m : Nat, List.foldl (fun x1 x2 => x1 ++ x2) #[] (List.replicate m its.toArray) = (List.replicate m its).flatten.toArray := fun m => by
      have := foldl_rep its m []
      rw [List.nil_append] at this
      exact this
    rw [f0]
    cases its with
    | nil => simp
    | cons a r' => rw [if_neg (by simp)]
  refine wpAny_binaryOp_repeat_ref (T := "list") (U := "int") (by decide) ⟨_, e, rfl⟩ (fun s' => typeIs_int s' k t) noFill_list_mul F.fills_int_mul F.slot_int_rmul repeat_list F.slot_int_index.lookup
    (call_meets F.slot_int_rmul (typeIs_int s k t) F.entry_int_rmul (F.args_int_rmul_2 _ _) (int___rmul___int_list k t l its.toArray n)
      ⟨e, rfl, ⟨_, e, rfl⟩, call_meets F.slot_list_mul ⟨_, e, rfl⟩ F.entry_list_mul (F.args_list_mul_2 _ _) (AutoListH.list___mul___list_int_3 l its.toArray n k t hfit hcap hlong) ⟨e, ?_⟩⟩)
  rw [hnew]
  exact ⟨.ref _, _, I.lnew (t' := s.toks) (r.rep k.toNat) (by rw [len_rep, Nat.mul_comm]; exact hz), rfl, q _ I.fresh⟩

/-! ### del xs[i] -/
end

/-! ### xs[a:b] = ys -/
section
variable {prog : Program} {w : World} {A : Around} {E : Value → Shared → Prop} {s : Shared}
end

section
variable {X : Cx}
end
end L2

namespace L2
open PySem PySem.Spec PyProof.Rows

/-! ### lists of pairs as tables -/
section
variable {κ : Type} [DecidableEq κ]
def valV (kvs : List (κ × V)) (k : κ) : Option V := (kvs.find? fun kv => decide (kv.1 = k)).map (·.2)
def putK (kvs : List (κ × V)) (k : κ) (v : V) : List (κ × V) :=
  if (kvs.any fun kv => decide (kv.1 = k)) = true then kvs.map (fun kv => if kv.1 = k then (kv.1, v) else kv) else kvs ++ [(k, v)]
def dropK (kvs : List (κ × V)) (k : κ) : List (κ × V) := kvs.filter fun kv => decide (kv.1 ≠ k)

theorem valV_pos {p : κ × V} {r : List (κ × V)} {k : κ} (e : p.1 = k) : valV (p :: r) k = some p.2 := by simp [valV, List.find?_cons, e]
theorem valV_neg {p : κ × V} {r : List (κ × V)} {k : κ} (e : ¬ p.1 = k) : valV (p :: r) k = valV r k := by simp [valV, List.find?_cons, e]
theorem valV_any (k : κ) : ∀ kvs : List (κ × V), (kvs.any fun kv => decide (kv.1 = k)) = (valV kvs k).isSome
  | [] => rfl
  | p :: r => by
    rw [List.any_cons]
    by_cases e : p.1 = k
    · simp only [valV_pos e, decide_eq_true e, Bool.true_or, Option.isSome_some]
    · rw [valV_neg e, decide_eq_false e, Bool.false_or]; exact valV_any k r
theorem length_putK (kvs : List (κ × V)) (k : κ) (v : V) : (putK kvs k v).length ≤ kvs.length + 1 := by
  unfold putK
  split
  · rw [List.length_map]; omega
  · rw [List.length_append, List.length_cons, List.length_nil]; omega
theorem RelO.isSome_eq {o : Option V} {u : Option Value} (r : RelO o u) : o.isSome = u.isSome := by
  cases o with
  | none => cases u with
    | none => rfl
    | some _ => exact (show False from r).elim
  | some _ => cases u with
    | none => exact (show False from r).elim
    | some _ => rfl
theorem RelO.getD {o : Option V} {u : Option Value} {d : V} {d' : Value} (r : RelO o u) (rd : RelV d d') : RelV (o.getD d) (u.getD d') := by
  cases o with
  | none => cases u with
    | none => exact rd
    | some _ => exact (show False from r).elim
  | some _ => cases u with
    | none => exact (show False from r).elim
    | some _ => exact r

theorem KV.val {kvs : List (κ × V)} {vs : List (κ × Value)} (r : KV kvs vs) (k : κ) : RelO (valV kvs k) (valueAt vs k) := by
  unfold KV at r
  induction r with
  | nil => exact True.intro
  | @cons p q ps qs h t ih =>
    obtain ⟨h1, h2⟩ := h
    by_cases e : p.1 = k
    · have e' : q.1 = k := h1.symm.trans e
      have b : valueAt (q :: qs) k = some q.2 := by simp [valueAt, List.find?_cons, e']
      rw [valV_pos e, b]; exact h2
    · have e' : ¬ q.1 = k := fun z => e (h1.trans z)
      have b : valueAt (q :: qs) k = valueAt qs k := by simp [valueAt, List.find?_cons, e']
      rw [valV_neg e, b]; exact ih
theorem KV.any {kvs : List (κ × V)} {vs : List (κ × Value)} (r : KV kvs vs) (k : κ) : (kvs.any fun kv => decide (kv.1 = k)) = vs.any fun kv => decide (kv.1 = k) := by
  unfold KV at r
  induction r with
  | nil => rfl
  | cons h t ih => rw [List.any_cons, List.any_cons, ih, h.1]
theorem KV.repl {kvs : List (κ × V)} {vs : List (κ × Value)} (r : KV kvs vs) (k : κ) {y : V} {u : Value} (ry : RelV y u) :
    KV (kvs.map fun kv => if kv.1 = k then (kv.1, y) else kv) (vs.map fun kv => if kv.1 = k then (kv.1, u) else kv) := by
  unfold KV at r ⊢
  induction r with
  | nil => exact .nil
  | @cons p q ps qs h t ih =>
    rw [List.map_cons, List.map_cons]
    refine .cons ?_ ih
    obtain ⟨h1, h2⟩ := h
    by_cases e : p.1 = k
    · rw [if_pos e, if_pos (h1.symm.trans e)]; exact ⟨h1, ry⟩
    · rw [if_neg e, if_neg (fun z => e (h1.trans z))]; exact ⟨h1, h2⟩
theorem KV.put {kvs : List (κ × V)} {vs : List (κ × Value)} (r : KV kvs vs) (k : κ) {y : V} {u : Value} (ry : RelV y u) : KV (putK kvs k y) (stored vs k u) := by
  unfold putK stored
  rw [r.any k]
  by_cases e : (vs.any fun kv => decide (kv.1 = k)) = true
  · rw [if_pos e, if_pos e]; exact r.repl k ry
  · rw [if_neg e, if_neg e]; exact Paired.snoc r ⟨rfl, ry⟩
theorem KV.drop {kvs : List (κ × V)} {vs : List (κ × Value)} (r : KV kvs vs) (k : κ) : KV (dropK kvs k) (without vs k) := by
  unfold KV at r ⊢
  unfold dropK without
  induction r with
  | nil => exact .nil
  | @cons p q ps qs h t ih =>
    obtain ⟨h1, h2⟩ := h
    rw [List.filter_cons, List.filter_cons]
    by_cases e : p.1 = k
    · have a : ¬ decide (p.1 ≠ k) = true := by simp [e]
      have b : ¬ decide (q.1 ≠ k) = true := by simp [h1.symm.trans e]
      rw [if_neg a, if_neg b]; exact ih
    · have e' : ¬ q.1 = k := fun z => e (h1.trans z)
      have a : decide (p.1 ≠ k) = true := by simp [e]
      have b : decide (q.1 ≠ k) = true := by simp [e']
      rw [if_pos a, if_pos b]; exact .cons ⟨h1, h2⟩ ih
theorem KV.keys {kvs : List (κ × V)} {vs : List (κ × Value)} (r : KV kvs vs) : kvs.map (·.1) = vs.map (·.1) := by
  unfold KV at r
  induction r with
  | nil => rfl
  | cons h t ih => rw [List.map_cons, List.map_cons, ih, h.1]
theorem KV.length {kvs : List (κ × V)} {vs : List (κ × Value)} (r : KV kvs vs) : kvs.length = vs.length := Paired.length r
end

/-! ### a tracked dict, its keys ints and texts or tuples of these -/
theorem kV_is {P : Program} {w : World} {k : Key} {u : Value} (r : RelV (kV k) u) : (mixKind P w).is k u = true := by
  cases k with
  | inl i => obtain ⟨t, e⟩ := (show ∃ t, u = Value.int i t from r); subst e; exact mixKind_int P w i t
  | inr x => obtain ⟨t, e⟩ := (show ∃ t, u = Value.str x t from r); subst e; exact mixKind_str P w x t
theorem items_are {P : Program} {w : World} : ∀ {ks : List Key} {us : List Value}, Vals (ks.map kV) us → ItemsAre (mixKind P w) ks us
  | [], _, r => by rw [List.map_nil] at r; cases r; exact .nil
  | k :: ks, _, r => by
    rw [List.map_cons] at r
    cases r with
    | cons h t => exact .cons (kV_is h) (items_are t)

abbrev KT (H : Hp) : List (List Key × V) → List (List Key × Addr × Value) → Prop := Paired fun p q => p.1 = q.1 ∧ H q.2.1 = some (.tup (p.1.map kV)) ∧ RelV p.2 q.2.2
theorem KT.val {H : Hp} {kvs : List (List Key × V)} {xs : List (List Key × Addr × Value)} (r : KT H kvs xs) (k : List Key) : RelO (valV kvs k) ((atKey xs k).map (·.2)) := by
  induction r with
  | nil => exact True.intro
  | @cons p q ps qs h t ih =>
    obtain ⟨h1, _, h2⟩ := h
    by_cases e : p.1 = k
    · have e' : q.1 = k := h1.symm.trans e
      have b : atKey (q :: qs) k = some q.2 := by simp [atKey, List.find?_cons, e']
      rw [valV_pos e, b]; exact h2
    · have e' : ¬ q.1 = k := fun z => e (h1.trans z)
      have b : atKey (q :: qs) k = atKey qs k := by simp [atKey, List.find?_cons, e']
      rw [valV_neg e, b]; exact ih
theorem KT.repl {H : Hp} {kvs : List (List Key × V)} {xs : List (List Key × Addr × Value)} (r : KT H kvs xs) (k : List Key) {y : V} {u : Value} (ry : RelV y u) :
    KT H (kvs.map fun kv => if kv.1 = k then (kv.1, y) else kv) (xs.map (putAt k u)) := by
  induction r with
  | nil => exact .nil
  | @cons p q ps qs h t ih =>
    rw [List.map_cons, List.map_cons]
    refine .cons ?_ ih
    obtain ⟨h1, h2, h3⟩ := h
    unfold putAt
    by_cases e : p.1 = k
    · rw [if_pos e, if_pos (h1.symm.trans e)]; exact ⟨h1, h2, ry⟩
    · rw [if_neg e, if_neg (fun z => e (h1.trans z))]; exact ⟨h1, h2, h3⟩
theorem KT.put {H : Hp} {kvs : List (List Key × V)} {xs : List (List Key × Addr × Value)} (r : KT H kvs xs) (k : List Key) {b : Addr} {y : V} {u : Value} (hb : H b = some (.tup (k.map kV))) (ry : RelV y u) :
    KT H (putK kvs k y) (storedH xs k b u) := by
  have e : (kvs.any fun kv => decide (kv.1 = k)) = (atKey xs k).isSome := by
    rw [valV_any, (r.val k).isSome_eq, Option.isSome_map]
  unfold putK storedH
  rw [e]
  by_cases q : (atKey xs k).isSome = true
  · rw [if_pos q, if_pos q]; exact r.repl k ry
  · rw [if_neg q, if_neg q]; exact Paired.snoc r ⟨rfl, hb, ry⟩
theorem KT.keeps {H H' : Hp} {kvs : List (List Key × V)} {xs : List (List Key × Addr × Value)} (r : KT H kvs xs) (ht : ∀ b ys, H b = some (.tup ys) → H' b = some (.tup ys)) : KT H' kvs xs :=
  Paired.mapP r fun _ _ z => ⟨z.1, ht _ _ z.2.1, z.2.2⟩

section
variable {P : Program} {w : World} {H : Hp} {h : Heap} {a : Addr}
theorem rd_of {u : HO} (ok : HOk P w H h) (e : Rd H a u) : ObjOk P w H h a u := e.ok ok
theorem dk_rd {kvs : List (Key × V)} (ok : HOk P w H h) (e : Rd H a (.dK kvs)) : kvs.length ≤ sizeLine ∧ (a == sysModules) = false ∧ ∃ vs, KV kvs vs ∧ h.DictOf (mixKind P w) a vs :=
  show ObjOk P w H h a (.dK kvs) from rd_of ok e
theorem dk_of {kvs : List (Key × V)} (ok : HOk P w H h) (e : H a = some (.dK kvs)) : kvs.length ≤ sizeLine ∧ (a == sysModules) = false ∧ ∃ vs, KV kvs vs ∧ h.DictOf (mixKind P w) a vs := dk_rd ok (.inl e)
theorem key_of {ks : List Key} (ok : HOk P w H h) (e : H a = some (.tup (ks.map kV))) : (tupleKind (mixKind P w)).is h ks a := by
  obtain ⟨_, its, r, o, h1, h2, n, h3⟩ := (show ObjOk P w H h a (.tup (ks.map kV)) from ok a _ e)
  exact ⟨o, its.toArray, n, h1, h2, h3, by simpa using items_are r⟩
theorem dt_rd {kvs : List (List Key × V)} (ok : HOk P w H h) (e : Rd H a (.dT kvs)) : kvs.length ≤ sizeLine ∧ (a == sysModules) = false ∧
    ∃ xs, KT H kvs xs ∧ h.DictOfH (tupleKind (mixKind P w)) a xs := by
  obtain ⟨z, y, xs, r, o, es, ep, h1, h2, h3, h4, h5⟩ := (show ObjOk P w H h a (.dT kvs) from rd_of ok e)
  refine ⟨z, y, xs, r, o, es, ep, h1, h2, h3, h4, fun x hx => ?_, h5⟩
  have all : ∀ {l : List (List Key × V)} {m : List (List Key × Addr × Value)}, KT H l m → ∀ x ∈ m, (tupleKind (mixKind P w)).is h x.1 x.2.1 := by
    intro l m q
    induction q with
    | nil => intro x hx; exact nomatch hx
    | @cons p q ps qs hq t ih =>
      intro x hx
      rcases List.mem_cons.mp hx with e | hx
      · subst e
        exact key_of ok (by rw [← hq.1]; exact hq.2.1)
      · exact ih x hx
  exact all r x hx
theorem dt_of {kvs : List (List Key × V)} (ok : HOk P w H h) (e : H a = some (.dT kvs)) : kvs.length ≤ sizeLine ∧ (a == sysModules) = false ∧
    ∃ xs, KT H kvs xs ∧ h.DictOfH (tupleKind (mixKind P w)) a xs := dt_rd ok (.inl e)
end

def DGet (H : Hp) (a : Addr) (y : V) (r : Option V) : Prop :=
  (∃ kvs k, Rd H a (.dK kvs) ∧ y = kV k ∧ r = valV kvs k) ∨ ∃ kvs k b, Rd H a (.dT kvs) ∧ y = .ref b ∧ H b = some (.tup (k.map kV)) ∧ r = valV kvs k
def DPut (H : Hp) (a : Addr) (y v : V) (H' : Hp) : Prop :=
  (∃ kvs k, H a = some (.dK kvs) ∧ y = kV k ∧ kvs.length < sizeLine ∧ H' = upd H a (.dK (putK kvs k v))) ∨
  ∃ kvs k b, H a = some (.dT kvs) ∧ y = .ref b ∧ H b = some (.tup (k.map kV)) ∧ kvs.length < sizeLine ∧ H' = upd H a (.dT (putK kvs k v))
theorem DGet.k {H : Hp} {a : Addr} {kvs : List (Key × V)} {k : Key} (e : H a = some (.dK kvs)) : DGet H a (kV k) (valV kvs k) := .inl ⟨kvs, k, .inl e, rfl, rfl⟩
theorem DGet.t {H : Hp} {a b : Addr} {kvs : List (List Key × V)} {k : List Key} (e : H a = some (.dT kvs)) (eb : H b = some (.tup (k.map kV))) : DGet H a (.ref b) (valV kvs k) := .inr ⟨kvs, k, b, .inl e, rfl, eb, rfl⟩
theorem DPut.k {H : Hp} {a : Addr} {kvs : List (Key × V)} {k : Key} {v : V} (e : H a = some (.dK kvs)) (hl : kvs.length < sizeLine) : DPut H a (kV k) v (upd H a (.dK (putK kvs k v))) := .inl ⟨kvs, k, e, rfl, hl, rfl⟩
theorem DPut.t {H : Hp} {a b : Addr} {kvs : List (List Key × V)} {k : List Key} {v : V} (e : H a = some (.dT kvs)) (eb : H b = some (.tup (k.map kV))) (hl : kvs.length < sizeLine) :
    DPut H a (.ref b) v (upd H a (.dT (putK kvs k v))) := .inr ⟨kvs, k, b, e, rfl, eb, hl, rfl⟩

section
variable {X : Cx} {pins : List (Addr × Obj)} {σ : St} {H : Hp} {s : Shared} {a : Addr} {y v : V} {u r : Value} {o : Option V} {A : Around} {E : Value → Shared → Prop}

theorem Inv.big (I : Inv X pins σ H s) : sysModules < s.heap.objs.size := by
  have h : mainGlobals < s.heap.objs.size := (I.mod.glob.keeps I.bk).lt
  exact Nat.lt_trans (by decide) h

theorem d_getItem {Q : Value → Shared → Prop} (hu : A.units + 1 < cLine) (I : Inv X pins σ H s) (g : DGet H a y (some v)) (ry : RelV y u) (h : ∀ w' s', Inv X pins σ H s' → RelV v w' → Q w' s') :
    wpAny (model X.prog X.w) A (getItem (.ref a) u) Q E s := by
  rcases g with ⟨kvs, k, e, ey, l⟩ | ⟨kvs, k, b, e, ey, eb, l⟩
  · subst ey
    obtain ⟨z, hd, vs, rel, dd⟩ := dk_rd I.hok e
    obtain ⟨w', hw, rw'⟩ := RelO.some_of (v := v) (o := valueAt vs k) (by rw [l]; exact rel.val k)
    exact wpAny_getItem_of (kV_is ry) dd.mapOf hw (h w' _ (I.tok _) rw')
  · subst ey
    cases (show u = Value.ref b from ry)
    obtain ⟨z, hd, xs, rel, dd⟩ := dt_rd I.hok e
    obtain ⟨w', hw, rw'⟩ := RelO.some_of (v := v) (o := (atKey xs k).map (·.2)) (by rw [l]; exact rel.val k)
    obtain ⟨p, hp, hp2⟩ := Option.map_eq_some_iff.mp hw
    refine wpAny_getItem_heap (tupleKind_room_in1 hu) (key_of I.hok eb) dd hp ?_
    rw [hp2]
    exact h w' _ (I.tok _) rw'
theorem d_in {Q : Value → Shared → Prop} (hu : A.units + 1 < cLine) (I : Inv X pins σ H s) (g : DGet H a y o) (ry : RelV y u) (h : ∀ s', Inv X pins σ H s' → Q (.bool o.isSome) s') :
    wpAny (model X.prog X.w) A (compareOp .In u (.ref a)) Q E s := by
  rcases g with ⟨kvs, k, e, ey, l⟩ | ⟨kvs, k, b, e, ey, eb, l⟩
  · subst ey
    obtain ⟨z, hd, vs, rel, dd⟩ := dk_rd I.hok e
    refine wpAny_in_of (kV_is ry) hd dd.mapOf ?_
    rw [← (rel.val k).isSome_eq, ← l]
    exact h _ (I.tok _)
  · subst ey
    cases (show u = Value.ref b from ry)
    obtain ⟨z, hd, xs, rel, dd⟩ := dt_rd I.hok e
    refine wpAny_in_heap (tupleKind_room_in1 hu) (key_of I.hok eb) hd dd ?_
    have q := (rel.val k).isSome_eq
    rw [Option.isSome_map] at q
    rw [← q, ← l]
    exact h _ (I.tok _)
theorem d_write {h' : Heap} {t' : Nat} {ob : HO} (I : Inv X pins σ H s) (mu : Mut (H a)) (hs : Heap.SameBut a s.heap h') (he : ∃ q, h'.get? a = some q) (new : ObjOk X.prog X.w (upd H a ob) h' a ob) :
    Inv X pins σ (upd H a ob) { s with heap := h', toks := t' } :=
  I.write (x := a) (e := a) mu (.inl rfl) (fun b q hb z => (hs.2 b hb).trans z) he new
theorem dk_new {P : Program} {w : World} {H' : Hp} {h' : Heap} {kvs : List (Key × V)} {vs : List (Key × Value)} (z : kvs.length ≤ sizeLine) (hd : (a == sysModules) = false) (rel : KV kvs vs) (dd : h'.DictOf (mixKind P w) a vs) :
    ObjOk P w H' h' a (.dK kvs) := ⟨z, hd, vs, rel, dd⟩
theorem d_setItem {H' : Hp} {Q : Unit → Shared → Prop} (hu : A.units + 1 < cLine) (I : Inv X pins σ H s) (g : DPut H a y v H') (ry : RelV y u) (rv : RelV v r) (h : ∀ s', Inv X pins σ H' s' → Q () s') :
    wpAny (model X.prog X.w) A (setItem (.ref a) u r) Q E s := by
  rcases g with ⟨kvs, k, e, ey, l, eH⟩ | ⟨kvs, k, b, e, ey, eb, l, eH⟩
  · subst ey eH
    obtain ⟨z, hd, vs, rel, dd⟩ := dk_of I.hok e
    have hz : vs.length ≤ sizeLine := by rw [← rel.length]; exact z
    have hl : (putK kvs k v).length ≤ sizeLine := by have := length_putK kvs k v; omega
    refine wpAny_setItem_pairs (hsz := hz) (kV_is ry) dd fun h' dd' hs => h _ ?_
    have he : ∃ q, h'.get? a = some q := let ⟨q, _, _, hq, _⟩ := dd'; ⟨q, hq⟩
    exact d_write I (by rw [e]; exact True.intro) hs he (dk_new hl hd (rel.put k rv) dd')
  · subst ey eH
    cases (show u = Value.ref b from ry)
    obtain ⟨z, hd, xs, rel, dd⟩ := dt_of I.hok e
    have hz : xs.length ≤ sizeLine := by rw [← Paired.length rel]; exact z
    have hl : (putK kvs k v).length ≤ sizeLine := by have := length_putK kvs k v; omega
    refine wpAny_setItem_heap (hsz := hz) (tupleKind_room_in1 hu) (key_of I.hok eb) dd fun h' dd' hs => h _ ?_
    obtain ⟨q, es, ep, hq, h2, h3, h4, _, h5⟩ := dd'
    refine d_write I (by rw [e]; exact True.intro) hs ⟨q, hq⟩ ⟨hl, hd, _, (rel.put k eb rv).keeps fun c ys ec => ?_, q, es, ep, hq, h2, h3, h4, h5⟩
    rw [upd_ne (ne_of ec e (fun z => nomatch z))]
    exact ec
end

section
variable {X : Cx} {pins : List (Addr × Obj)} {σ : St} {H : Hp} {s : Shared} {a : Addr} {kvs : List (Key × V)} {k : Key} {u : Value} {A : Around} {E : Value → Shared → Prop}
end

/-! ### readings and rules -/
def NoSl (i : Expr) : Prop := ∀ ov iv, subscripted i false ov iv = operate [ov, iv] (getItem ov iv)
theorem subD_of {prog : Program} {w : World} {A : Around} {E : Value → Shared → Prop} {s : Shared} {env : Env} {value slice : Expr} {pos : Pos} {T id : String} {Q : Value → Shared → Prop}
    (hl : typeLookup (.type T) "__getitem__" = pure (some (.builtin id))) (hs : NoSl slice)
    (h : wpAny (model prog w) A (eval value env) (fun o s₁ => wpAny (model prog w) A (eval slice env) (fun i s₂ => s₂.TypeIs o T ∧ wpAny (model prog w) A (getItem o i) Q E s₂) E s₁) E s) :
    wpAny (model prog w) A (eval (.Subscript value slice pos) env) Q E s := by
  refine Subscript_ (wpAny_mono h (fun o s₁ h₁ => wpAny_mono h₁ (fun i s₂ h₂ => ?_) fun _ _ x => x) fun _ _ x => x)
  obtain ⟨hT, h₂⟩ := h₂
  unfold subscriptTail
  refine wpAny_bind ?_
  rw [getitemInPython_of_ne hT.not_modules]
  refine wpAny_bind (wpAny_specialOf hT hl ?_)
  have fin : wpAny (model prog w) A (subscripted slice false o i) (fun r s₃ => wpAny (model prog w) A (letTemporaryGo value o r >>= fun _ => pure r) Q E s₃) E s₂ := by
    rw [hs o i]
    exact wpAny_operating (wpAny_mono h₂ (fun r s₃ h₃ => wpAny_bind (wpAny_letTemporaryGo (wpAny_pure h₃))) fun _ _ x => x)
  first
    | exact wpAny_pure (wpAny_bind fin)
    | exact wpAny_bind (wpAny_pure (wpAny_bind fin))
    | exact wpAny_bind fin

theorem dict_typeIs {X : Cx} {pins : List (Addr × Obj)} {σ : St} {H : Hp} {s : Shared} {a : Addr} {y : V} {o : Option V} (I : Inv X pins σ H s) (g : DGet H a y o) : s.TypeIs (.ref a) "dict" := by
  rcases g with ⟨kvs, k, e, _, _⟩ | ⟨kvs, k, b, e, _, _, _⟩
  · obtain ⟨_, _, vs, _, dd⟩ := dk_rd I.hok e
    exact dd.typeIs
  · obtain ⟨_, _, xs, _, dd⟩ := dt_rd I.hok e
    exact dd.typeIs
section
variable {X : Cx} {o i e value : Expr} {pos pos' tpos : Pos} {td ty tv : TE}
end

/-! ### displays -/
theorem dk_empty {P : Program} {w : World} {H : Hp} (h : Heap) (hb : sysModules < h.objs.size) : ObjOk P w H (h.push { cls := .type "dict", data := .dict #[] }) h.objs.size (.dK []) :=
  ⟨Nat.zero_le _, beq_eq_false_iff_ne.mpr (Ne.symm (Nat.ne_of_lt hb)), [], .nil, Heap.DictOf.new h⟩
def tDNewK : TE := fun _ H Q => ∀ p, H p = none → Q (.ref p) (upd H p (.dK []))
section
variable {X : Cx} {pos : Pos}
end

def tPairs : List (TE × TE) → St → Hp → (List (V × V) → Hp → Prop) → Prop
  | [], _, H, Q => Q [] H
  | (tk, tv) :: r, σ, H, Q => tk σ H fun x H1 => tv σ H1 fun y H2 => tPairs r σ H2 fun ps H3 => Q ((x, y) :: ps) H3
abbrev VV : List (V × V) → List (Value × Value) → Prop := Paired fun p q => RelV p.1 q.1 ∧ RelV p.2 q.2
def PPs (X : Cx) (pos : Pos) (keys : List (Option Expr)) (values : List Expr) (trs : List (TE × TE)) : Prop :=
  ∀ (pins : List (Addr × Obj)) (s : Shared) (σ : St) (H : Hp) (Q : List (V × V) → Hp → Prop), Inv X pins σ H s → tPairs trs σ H Q →
    wpAny (model X.prog X.w) X.A (evalPairs (pairTrees keys values X.env pos)) (fun vs s' => ∃ ps H', Inv X pins σ H' s' ∧ VV ps vs ∧ Q ps H') X.xe s
theorem pps_nil {X : Cx} {pos : Pos} : PPs X pos [] [] [] := fun pins s σ H Q I h => pairTrees_nil_walk ⟨[], H, I, .nil, h⟩
theorem pps_cons {X : Cx} {pos : Pos} {k v : Expr} {ks : List (Option Expr)} {vs : List Expr} {tk tv : TE} {trs : List (TE × TE)} (hk : PE X k tk) (hv : PE X v tv) (hr : PPs X pos ks vs trs) :
    PPs X pos (some k :: ks) (v :: vs) ((tk, tv) :: trs) := fun pins s σ H Q I h =>
  pairTrees_cons_walk (thn (hk pins s σ H _ I h) fun u s1 ⟨x, H1, I1, rx, q1⟩ => thn (hv pins s1 σ H1 _ I1 q1) fun w2 s2 ⟨y, H2, I2, ry, q2⟩ =>
    thn (hr pins s2 σ H2 _ I2 q2) fun ws s3 ⟨ps, H3, I3, rel, q3⟩ => ⟨(x, y) :: ps, H3, I3, .cons ⟨rx, ry⟩ rel, q3⟩)

def mergeK (kvs more : List (Key × V)) : List (Key × V) := more.foldl (fun acc kv => putK acc kv.1 kv.2) kvs
theorem KV.merge : ∀ {more : List (Key × V)} {rs : List (Key × Value)} {kvs : List (Key × V)} {vs : List (Key × Value)}, KV more rs → KV kvs vs → KV (mergeK kvs more) (merged vs rs) := by
  intro more rs kvs vs r
  unfold KV at r
  induction r generalizing kvs vs with
  | nil => intro q; exact q
  | @cons p q ps qs h t ih =>
    intro r0
    have e : KV (putK kvs p.1 p.2) (stored vs q.1 q.2) := by
      have := r0.put p.1 h.2
      rw [← h.1]; exact this
    exact ih e
theorem length_mergeK : ∀ (more kvs : List (Key × V)), (mergeK kvs more).length ≤ kvs.length + more.length
  | [], kvs => by show kvs.length ≤ kvs.length + 0; omega
  | p :: r, kvs => by
    have h1 := length_mergeK r (putK kvs p.1 p.2)
    have h2 := length_putK kvs p.1 p.2
    show (mergeK (putK kvs p.1 p.2) r).length ≤ _
    rw [List.length_cons]; omega
theorem carries_of {P : Program} {w : World} : ∀ {kvs : List (Key × V)} {ws : List (Value × Value)}, VV (kvs.map fun kv => (kV kv.1, kv.2)) ws → ∃ rs, Carries (mixKind P w) ws rs ∧ KV kvs rs
  | [], _, r => by rw [List.map_nil] at r; cases r; exact ⟨[], True.intro, .nil⟩
  | p :: kvs, _, r => by
    rw [List.map_cons] at r
    cases r with
    | @cons a b as bs h t =>
      obtain ⟨rs, c, q⟩ := carries_of (P := P) (w := w) t
      obtain ⟨b1, b2⟩ := b
      exact ⟨(p.1, b2) :: rs, ⟨kV_is h.1, rfl, c⟩, .cons ⟨rfl, h.2⟩ q⟩
/-! ### methods -/
structure M1 (X : Cx) (o : Expr) (m : Str) (apos : Pos) (e : Expr) (cpos : Pos) : Prop where
  base : attributeBase o m X.env (eval o X.env) = eval o X.env
  few : ((backTo cpos (starEach [e] X.env)).all (fun x => !x.1) && (backToKw cpos (keywordEach [] X.env)).all (fun x => x.1.isSome)
    && decide (([e] : List Expr).length + ([] : List Keyword).length + (if ([] : List Keyword).isEmpty then 0 else 1) < 30)) = true
  line : (apos.endLine == cpos.line) = true
  trees : backTo cpos (starEach [e] X.env) = [(false, eval e X.env)]
structure M2 (X : Cx) (o : Expr) (m : Str) (apos : Pos) (e f : Expr) (cpos : Pos) : Prop where
  base : attributeBase o m X.env (eval o X.env) = eval o X.env
  few : ((backTo cpos (starEach [e, f] X.env)).all (fun x => !x.1) && (backToKw cpos (keywordEach [] X.env)).all (fun x => x.1.isSome)
    && decide (([e, f] : List Expr).length + ([] : List Keyword).length + (if ([] : List Keyword).isEmpty then 0 else 1) < 30)) = true
  line : (apos.endLine == cpos.line) = true
  trees : backTo cpos (starEach [e, f] X.env) = [(false, eval e X.env), (false, eval f X.env)]

section
variable {X : Cx} {pins : List (Addr × Obj)} {σ : St} {H : Hp} {s : Shared} {a : Addr} {y d : V} {u r : Value} {o : Option V} {A : Around} {E : Value → Shared → Prop}
end

section
variable {X : Cx} {o e f : Expr} {apos cpos : Pos} {td ty tx : TE}
end

/-! ### dict(d): a copy -/
section
variable {X : Cx} {pins : List (Addr × Obj)} {σ : St} {H : Hp} {s : Shared} {a : Addr} {kvs : List (Key × V)} {A : Around} {E : Value → Shared → Prop}
end

section
variable {X : Cx} {pins : List (Addr × Obj)} {σ : St} {H : Hp} {s : Shared} {a : Addr} {y : V} {u : Value} {A : Around} {E : Value → Shared → Prop}
end
end L2

namespace Att
open PySem PySem.W PySem.Calls PyProof.Rows

/-! ### the script -/
theorem ints_of_wellAll {P : Params} {h : Heap} : ∀ (ns : List Int) (vs : List Value), WellAll P h vs (ns.map WData.int) → IntsAre vs ns := by
  intro ns
  induction ns with
  | nil =>
    intro vs w
    rw [List.map_nil] at w
    cases w
    exact .nil
  | cons n ns ih =>
    intro vs w
    rw [List.map_cons] at w
    cases w with
    | cons a b =>
      cases a
      exact .cons _ _ (ih _ b)

theorem script_of {l : OpenLaw} {n : Nat} (hn : l.most = some n) {P : Params} {h : Heap} {args : List WData} {vals : List Value}
    (hpre : l.row.toRowW.claim.pre args = true) (hwl : WellAll P h vals args) :
    ∃ a vs ns, vals = [Value.ref a] ∧ args = [WData.list (ns.map WData.int)] ∧ h.get? a = some { cls := .type "list", data := .seq vs.toArray } ∧ IntsAre vs ns ∧ ns.length ≤ n := by
  have hsh : WShape.hasAll [] args [.list .int] = true := (pre_splitW hpre).1
  have hc : l.pre.holds [] { args := args } = true := (pre_splitW hpre).2
  obtain ⟨d, r, rfl, h1, h2⟩ := hasAllW_cons hsh
  obtain rfl := hasAllW_nil h2
  obtain ⟨xs, rfl, h3⟩ := hasW_list h1
  obtain ⟨ns, rfl⟩ := items_int h3
  have hlen : ns.length ≤ n := by
    unfold OpenLaw.pre at hc
    have h4 : (WTm.not (.lt (.lit (.int (n : Int))) (.len (.arg 0)))).holds [] { args := [.list (ns.map .int)] } = true := by
      have h4 := (holds_andW hc).1
      rw [hn] at h4
      exact h4
    have h5 := condW_of h4 (w_not (w_lt w_lit (w_len_list (w_arg rfl))))
    rw [List.length_map] at h5
    refine Nat.le_of_not_lt fun q => ?_
    have q' : (n : Int) < ((ns.length : Nat) : Int) := by omega
    first
      | (rw [decide_eq_true q'] at h5; exact absurd h5 (by decide))
      | (simp at h5; omega)
  cases hwl with
  | cons w1 w2 =>
    cases w2
    cases w1 with
    | list ho hall => exact ⟨_, _, ns, rfl, rfl, ho, ints_of_wellAll ns _ hall, hlen⟩

theorem post_true (l : OpenLaw) (args : List WData) : l.row.toRowW.claim.post args (.bool true) args = true :=
  postW_of (r := l.row.toRowW) (X := (true == true))
    (show WShape.has [] (.bool true) .bool = true by first | rfl | decide | simp [WShape.has, WShape.arms, WShape.armsAll])
    (show (WTm.eq .res (.lit (.bool true))).value [] { args := args, res := some (.bool true), after := args } = some (.bool (true == true)) from w_eq_bool (w_res rfl) w_lit) rfl

/-! ### the attachment: holds_open's last premise (the goal 'hc' behind k_head) from a wpAny of the law's body -/
theorem attach_call {l : OpenLaw} {n : Nat} {q : Program} {loose : List Str} {XP : (Str → Option Value) → Heap → Prop} {YP : World → Heap → Prop} {d : DefRec}
    (hn : l.most = some n) (hdf : d.params.defaults = [])
    (call : ∀ (w : World) (s₀ s₁ : Shared) (mg mb : Str → Option Value) (fa : Addr) (o : Obj) (pm cd doc : Value) (a : Addr) (vs : List Value) (ns : List Int),
      Ground q loose [] XP w s₀ mg mb s₁.heap → YP w s₁.heap →
      s₁.heap.get? fa = some o → o.data = .func (docDef d.name d.params d.body d.scope pm cd doc) → s₁.heap.CodeRec cd d.name → mg d.name = some (.ref fa) →
      s₁.heap.get? a = some { cls := .type "list", data := .seq vs.toArray } → IntsAre vs ns → ns.length ≤ n → s₁.gens = #[] →
      codeAny (model l.prog w) callerA (.call (.ref fa) ⟨[.ref a], []⟩) (fun r s' => r = .ok (.ret (.bool true)) ∧ OldK s₁.heap s'.heap ∧ s'.os = s₁.os ∧ AllBare s'.gens) s₁) :
    WalkO q loose XP YP l.row.toRowW d [] (fun f vs => PySem.call f vs) := by
  intro w s₀ s₁ mg mb G Y fa o pm cd doc dV kV ho hd hcd hD hmg hg args vals as hpre hlay hrd hwl hlo
  obtain rfl : dV = .none := Dflts.none hD hdf
  obtain rfl : kV = .none := Dflts.noKw hD
  obtain ⟨a, vs, ns, rfl, rfl, hobj, hints, hlen⟩ := script_of hn hpre hwl
  refine enter_call (codeAny_mono (call w s₀ s₁ mg mb fa o pm cd doc a vs ns G Y ho (fd_plain hd) hcd hmg hobj hints hlen hg) fun r s' hq => ?_)
  obtain ⟨rfl, h2, h3, h4⟩ := hq
  exact ⟨.inl ⟨.bool true, .bool true, [], rfl, fun _ => rfl, .bool true, post_true l _, fun _ => ⟨List.Pairwise.nil, fun _ hm => (nomatch hm)⟩⟩, h2, h3, h4⟩

/-! ### rules over ANY heap (no ledger) from facts about the written part K: the library's own take a ledger (News) for what they write -/
section
variable {prog : Program} {w : World} {A : Around} {E : Value → Shared → Prop} {s : Shared} {K : Frag}

/-! the whole heap as the ledger: makes every rule that writes through a ledger a rule over any heap -/
end
end Att

namespace L2
open PySem PySem.Spec PyProof.Rows

theorem vals_ints : ∀ {vs : List Value} {ns : List Int}, IntsAre vs ns → Vals (ns.map V.int) vs
  | _, _, .nil => .nil
  | _, _, .cons n t h => .cons ⟨t, rfl⟩ (vals_ints h)

def Only (H : Hp) : Prop := ∀ b, H b = none ∨ ∃ o xs, H b = some (.frz o (.lst xs))

theorem law_call {P : Program} {w : World} {K : PySem.W.Frag} {mg mb : Str → Option Value} {CX : CXT} {k : Nat} {fa a : Addr} {fd : FuncData} {x : Str} {sp : Sp} {s₁ : Shared} {vs : List Value} {ns : List Int}
    (KX : K.In s₁.heap) (hns : s₁.heap.Ns mainGlobals mg) (hb : s₁.heap.Ns builtinsNs mb) (hbb : ∀ x : Str, x ≠ "__name__" → mb x = bootBuiltins x) (hlim : s₁.heap.NoLimit) (hg : s₁.gens = #[])
    (ha : s₁.heap.get? a = some { cls := .type "list", data := .seq vs.toArray }) (hi : IntsAre vs ns) (hl : ns.length ≤ sizeLine) (hr : Room k callerA)
    (F : ∀ base : Heap, K.In base → base.Ns mainGlobals mg → FnOk P w K mg base CX k fa fd [x] sp) (hbind : ∀ (s : Shared) (u : Value), BindsTo s fd ⟨[u], []⟩ [(x, u)])
    (hsp : ∀ H : Hp, Only H → SqL K H a (ns.map V.int) → sp [.ref a] H (fun v _ => v = .bl true) fun _ _ _ => False)
    (hCX : ∀ H e s', CX [] H s₁ (fun _ _ _ => False) e s' → False) :
    codeAny (model P w) callerA (.call (.ref fa) ⟨[.ref a], []⟩) (fun r s' => r = .ok (.ret (.bool true)) ∧ OldK s₁.heap s'.heap ∧ s'.os = s₁.os ∧ AllBare s'.gens) s₁ := by
  have rv := vals_ints hi
  have lenV := hi.length
  -- from an abstract heap in which nothing but the script may be tracked
  have core : ∀ H : Hp, Only H → SqL K H a (ns.map V.int) → HOk P w H s₁.heap → (∀ b, H b ≠ none → b = a) → (H a ≠ none → K.lookup a = none) →
      codeAny (model P w) callerA (.call (.ref fa) ⟨[.ref a], []⟩) (fun r s' => r = .ok (.ret (.bool true)) ∧ OldK s₁.heap s'.heap ∧ s'.os = s₁.os ∧ AllBare s'.gens) s₁ := by
    intro H hO hS hok hA hK
    have base_of : ∀ {b : Addr} {o : Obj}, s₁.heap.get? b = some o → H b = none → (hidT s₁.heap H).get? b = some o := fun e n => hidT_get e n
    have noA : ∀ {b : Addr} {o : Obj} {es : Array DictEntry} {ep : Nat}, s₁.heap.get? b = some o → o.data = .dict es ep → H b = none := fun {b o es ep} e d => by
      cases q : H b with
      | none => rfl
      | some u =>
        have e' : b = a := hA b (by rw [q]; simp)
        subst e'
        rw [ha] at e; cases e
        have d' : Data.seq vs.toArray _ = Data.dict es ep := d
        cases d'
    have nsK : ∀ {b : Addr} {m : Str → Option Value}, s₁.heap.Ns b m → (hidT s₁.heap H).Ns b m := fun {b m} ⟨o, es, ep, e, d, r⟩ => ⟨o, es, ep, base_of e (noA e d), d, r⟩
    have hKb : K.In (hidT s₁.heap H) := fun b o e => base_of (KX b o e) (by
      cases q : H b with
      | none => rfl
      | some u =>
        have e' : b = a := hA b (by rw [q]; simp)
        subst e'
        rw [hK (by rw [q]; simp)] at e; cases e)
    have hM : Mod K mg (hidT s₁.heap H) := ⟨hKb, nsK hns, ⟨mb, nsK hb, hbb⟩, let ⟨mc, h1, h2⟩ := hlim; ⟨mc, nsK h1, h2⟩⟩
    have e0 : Env0 P w K mg (hidT s₁.heap H) callerA [] s₁ H := ⟨rfl, hM, fun b o e => of_hidT e, Nat.le_of_eq (hidT_size _ _), trivial, fun b hb => absurd (show b ∈ ([] : List Addr) from hb) (by simp), hok, .of_eq hg⟩
    refine codeAny_mono ((F _ hKb (nsK hns)).run callerA [] s₁ H ⟨[.ref a], []⟩ [.ref a] [.ref a] _ _ hr e0 (hbind s₁ (.ref a)) (.cons rfl .nil) (hsp H hO hS)) fun r s' h => ?_
    cases r with
    | error e => exact (hCX H e s' h).elim
    | ok fl =>
      cases fl with
      | next => exact False.elim h
      | brk => exact False.elim h
      | cont => exact False.elim h
      | ret u =>
        obtain ⟨v, H', os, bare, un, hok', r', q⟩ := h
        have q' : v = .bl true := q
        subst q'
        obtain rfl : u = Value.bool true := r'
        refine ⟨rfl, OldK.of_keep fun b o e => ?_, os, bare⟩
        cases q : H b with
        | none => exact un.keep b o e q (by intro z; exact absurd (show b ∈ ([] : List Addr) from z) (by simp)) (by simp)
        | some u =>
          rcases hO b with z | ⟨ob, xs, z⟩
          · rw [q] at z; cases z
          · have z2 := un.frzs b ob _ z
            obtain ⟨e1, _⟩ := hok b _ z
            obtain ⟨e2, _⟩ := hok' b _ z2
            rw [e] at e1; cases e1
            exact e2
  cases hk : K.lookup a with
  | some o =>
    -- the script is one of the module's own objects
    have e := KX a o hk
    rw [ha] at e
    cases e
    refine core (fun _ => none) (fun _ => .inl rfl) (.inr ⟨_, vs.toArray, _, hk, rfl, rfl, rfl, by rw [List.size_toArray, lenV]; exact hl, by simpa using rv⟩) (fun b u z => by have z' : (none : Option HO) = some u := z; cases z') (fun b z => absurd rfl z) fun z => absurd rfl z
  | none =>
    refine core (fun b => if b = a then some (.frz { cls := .type "list", data := .seq vs.toArray } (.lst (ns.map V.int))) else none) (fun b => ?_) (.inl (.inr ⟨{ cls := .type "list", data := .seq vs.toArray }, if_pos rfl⟩)) (fun b u z => ?_) (fun b z => ?_) fun _ => hk
    · by_cases hb : b = a
      · exact .inr ⟨_, _, if_pos hb⟩
      · exact .inl (if_neg hb)
    · by_cases hb : b = a
      · have z' := (if_pos hb).symm.trans z
        cases z'
        subst hb
        exact ⟨ha, by rw [List.length_map]; exact hl, vs, _, rv, ha⟩
      · have z' := (if_neg hb).symm.trans z
        cases z'
    · by_cases hb : b = a
      · exact hb
      · exact absurd (if_neg hb) z
end L2

namespace L2
open PySem PySem.Spec PyProof.Rows

theorem walk_of {l : PySem.W.OpenLaw} {n k : Nat} {q : Program} {loose : List Str} {XP : (Str → Option Value) → Heap → Prop} {YP : World → Heap → Prop} {d : DefRec} {K : Params → PySem.W.Frag} {CX : World → CXT} {sp : World → Sp} {x : Str}
    (hn : l.most = some n) (hn2 : n ≤ sizeLine) (hdf : d.params.defaults = []) (hr : Room k callerA)
    (hY : ∀ (w : World) (h : Heap), YP w h → (K w.params).In h)
    (F : ∀ (w : World) (mg : Str → Option Value) (fa : Addr) (h : Heap), (K w.params).In h → h.Ns mainGlobals mg → mg d.name = some (.ref fa) →
      ∃ fd : FuncData, (∀ (s : Shared) (u : Value), BindsTo s fd ⟨[u], []⟩ [(x, u)]) ∧
        ∀ base : Heap, (K w.params).In base → base.Ns mainGlobals mg → FnOk l.prog w (K w.params) mg base (CX w) k fa fd [x] (sp w))
    (hsp : ∀ (w : World) (H : Hp) (a : Addr) (ns : List Int), ns.length ≤ n → Only H → SqL (K w.params) H a (ns.map V.int) → sp w [.ref a] H (fun v _ => v = .bl true) fun _ _ _ => False)
    (hCX : ∀ (w : World) (H : Hp) (s : Shared) (e : Value) (s' : Shared), CX w [] H s (fun _ _ _ => False) e s' → False) :
    PySem.W.WalkO q loose XP YP l.row.toRowW d [] (fun f vs => PySem.call f vs) := by
  refine Att.attach_call hn hdf fun w s₀ s₁ mg mb fa o pm cd doc a vs ns G Y ho hd hcd hmg hobj hints hlen hg => ?_
  have KX := hY w _ Y
  obtain ⟨fd, hb, hF⟩ := F w mg fa _ KX G.T.g hmg
  exact law_call KX G.T.g G.T.b G.T.builtins G.T.nolimit hg hobj hints (Nat.le_trans hlen hn2) hr hF hb (fun H hO hS => hsp w H a ns hlen hO hS) fun H e s' => hCX w H s₁ e s'
end L2

/- THE LAST THEOREM (shape; LID, My.* are yours):
   My.Adr: a structure of the addresses that your layer names (classes, functions); My.Txt K t: a structure (Prop) of the equations over K;
   My.txt_mk : {K} {implicit addresses ..} (e1 : nsIn K mainGlobals "law" = some (some (.ref f))) (e2 : K.lookup f = some ⟨oc, od, .func (fnOf "law" "law" params body scope dV kV doc pm an cdv ct), sl⟩) (e3 : codeIn K cdv "law" = true) .. : ∃ t, My.Txt K t

set_option maxRecDepth 100000 in
set_option maxHeartbeats 0 in
theorem PySem.Challenge.cw_LID_holds : PySem.Challenge.rw_LID.Holds := by
  w_on; o_law; k_head; (case hw => w_witness2)
  k_fill
  refine L2.walk_of (l := PySem.Challenge.rw_LID) (n := 63) (k := 40) (x := "script") (CX := fun w => ..) (sp := fun _ => My.sp_law) rfl (by decide) rfl ⟨rfl, by decide, by decide⟩ (fun w h Y => PySem.W.kIn_of Y) ?F ?S ?C
  case F =>
    intro w mg fa h KX G hmg
    have T : ∃ t, My.Txt (L2.KOf KX) t := by
      dsimp only [L2.KOf]                          -- K must stand as «<heap const> w.params» for k_is
      refine' My.txt_mk ?e1 ?e2 ?e3 ..
      (case e1 => PySem.W.k_is)                    -- in the order: a name -> its address -> its object -> its parts
      (case e2 => PySem.W.k_is)
      ..
    obtain ⟨t, T⟩ := T
    have e0 := hmg.symm.trans (PySem.W.mg_of KX G T.law)
    cases e0                                       -- fa is the law's own address
    exact ⟨_, fun s u => .of_eq rfl, fun base kb nb => My.law_fn T kb nb⟩     -- if «.of_eq rfl» comes too early: refine' ⟨_, ?b, fun base kb nb => My.law_fn T kb nb⟩; exact fun s u => .of_eq rfl
  case S => exact fun w H a ns hl hO hS => ..
  case C => exact ..
(the tactic k_is has no namespace: write k_is) -/

/-! SHORT WORDS over the layer: a def of the text, its body, what a loop and a test want. -/
namespace L2
open PySem PySem.Spec PyProof.Rows

/-! ### the text by places -/
def defArgs (s : Stmt) : Arguments := match s with
  | .FunctionDef _ a _ _ _ _ _ _ _ _ => a
  | _ => { posonlyargs := [], args := [], vararg := none, kwonlyargs := [], kw_defaults := [], kwarg := none, defaults := [] }
def defBody (s : Stmt) : List Stmt := match s with
  | .FunctionDef _ _ b _ _ _ _ _ _ _ => b
  | _ => []
def defScope (s : Stmt) : Scope := match s with
  | .FunctionDef _ _ _ _ _ _ sc _ _ _ => sc
  | _ => { kind := .function, names := [], isGenerator := false, isCoroutine := false }

/-! ### no exception leaves a def -/
abbrev CX0 : CXT := fun _ _ _ _ _ _ => False
abbrev E0 : XK := fun _ _ _ => False
theorem pass0 {X : Cx} : Passes CX0 X E0 := fun _ _ _ _ _ _ _ h => h.elim

/-! ### a def (or method) of the text as it stands behind the top -/
structure Fun (K : PySem.W.Frag) (x qual : Str) (st : Stmt) (f : Addr) (fd : FuncData) : Prop where
  ex : ∃ (oc : Value) (od : Option Addr) (kV doc pm : Value) (an : Option Addr) (cdv ct : Value) (osl : Array (Option Value)),
    fd = PySem.W.fnOf x qual (defArgs st) (defBody st) (defScope st) .none kV doc pm an cdv ct ∧ K.lookup f = some ⟨oc, od, .func fd, osl⟩ ∧ PySem.W.codeIn K cdv qual = true
  kp : PySem.W.keepIn K (.ref f) = true
section
variable {P : Program} {w : World} {K : PySem.W.Frag} {mg : Str → Option Value} {base : Heap}
theorem Fun.ok {x qual : Str} {st : Stmt} {f : Addr} {fd : FuncData} {N ps : List Str} {k : Nat} {sp : Sp} (F : Fun K x qual st f fd) (S : FnScope N ps (defScope st)) (len : ∀ vs H Q E, sp vs H Q E → vs.length = ps.length)
    (hbody : ∀ (cdv : Value) (A : Around) (outer : List Env) (s : Shared) (H : Hp) (vs : List V) (Q : VK) (E : XK), Room k (A.deeper (envOfC qual (defScope st) s.heap.objs.size f cdv)) → sp vs H Q E →
      ∃ t, PSs (cxOf CX0 P w K mg base N qual (defScope st) f cdv A outer s H E).nox (defBody st) t ∧ t { nx := fun _ H' => Q .non H', rt := Q } (start N vs) H) : FnOk P w K mg base CX0 (k + 1) f fd ps sp := by
  obtain ⟨oc, od, kV, doc, pm, an, cdv, ct, osl, rfl, lk, hcd⟩ := F.ex
  refine fn_of lk hcd S len fun A outer s H vs Q E hr hsp => ?_
  obtain ⟨t, h, q⟩ := hbody cdv A outer s H vs Q E hr hsp
  exact ⟨t, h.nox, q⟩
theorem Fun.binds {x qual : Str} {st : Stmt} {f : Addr} {fd : FuncData} {ps : List Str} (F : Fun K x qual st f fd)
    (h : ∀ (kV doc pm : Value) (an : Option Addr) (cdv ct : Value) (us : List Value), us.length = ps.length → bindArgs (PySem.W.fnOf x qual (defArgs st) (defBody st) (defScope st) .none kV doc pm an cdv ct) ⟨us, []⟩ = pure (ps.zip us)) : Binds K fd ps [] := by
  obtain ⟨oc, od, kV, doc, pm, an, cdv, ct, osl, rfl, lk, hcd⟩ := F.ex
  exact .all (h kV doc pm an cdv ct)
theorem fun_mk {x qual : Str} {st : Stmt} {f : Addr} {oc : Value} {od an : Option Addr} {osl : Array (Option Value)} {kV doc pm cdv ct : Value} (l : K.lookup f = some ⟨oc, od, .func (PySem.W.fnOf x qual (defArgs st) (defBody st) (defScope st) .none kV doc pm an cdv ct), osl⟩)
    (c : PySem.W.codeIn K cdv qual = true) (k : PySem.W.keepIn K (.ref f) = true) : Fun K x qual st f (PySem.W.fnOf x qual (defArgs st) (defBody st) (defScope st) .none kV doc pm an cdv ct) := ⟨⟨oc, od, kV, doc, pm, an, cdv, ct, osl, rfl, l, c⟩, k⟩
end
theorem hu_of {A : Around} {k : Nat} (hr : Room k A) : A.units + 1 < cLine := Nat.lt_of_le_of_lt (Nat.add_le_add_left (by decide : 1 ≤ 64) _) hr.units
theorem small1000 {n : Nat} (h : n ≤ 1000) : n < sizeLine := Nat.lt_of_le_of_lt h (by decide)

/-! ### expressions in short: the name that stands in the i-th slot -/
section
variable {X : Cx}
theorem pv (i : Nat) {x : Str} {pos : Pos} (hN : X.N[i]? = some x := by rfl) (hv : Vis X.env.scope x := by first | exact Or.inl rfl | exact Or.inr (Or.inl rfl) | exact Or.inr (Or.inr rfl)) (hd : (x == ("__debug__" : Str)) = false := by decide)
    (hcd : (x == ("__classdict__" : Str)) = false := by decide) : PE X (.Name x pos) (tVar i) := pe_var hN hv hd hcd
end

/-! ### tests -/
theorem iteF {A B : Prop} (h : B) : if false = true then A else B := by
  rw [if_neg Bool.false_ne_true]
  exact h
theorem iteT {A B : Prop} (h : A) : if true = true then A else B := by
  rw [if_pos rfl]
  exact h
theorem ite2 {c A B : Prop} [Decidable c] (h1 : c → A) (h2 : ¬ c → B) : if c then A else B := by
  by_cases h : c
  · rw [if_pos h]
    exact h1 h
  · rw [if_neg h]
    exact h2 h
/-! ### heaps -/
def Same (H H' : Hp) : Prop := ∀ b o, H b = some o → H' b = some o
theorem Same.refl (H : Hp) : Same H H := fun _ _ h => h
theorem Same.trans {H H1 H2 : Hp} (a : Same H H1) (b : Same H1 H2) : Same H H2 := fun c o h => b c o (a c o h)
theorem Same.free {H H' : Hp} (e : Same H H') {l : Addr} (h : H' l = Option.none) : H l = Option.none := by
  cases q : H l with
  | none => rfl
  | some o =>
    rw [e l o q] at h
    cases h
theorem Same.seq {K : PySem.W.Frag} {H H' : Hp} {a : Addr} {xs : List V} (e : Same H H') (h : SqL K H a xs) : SqL K H' a xs := by
  rcases h with (h | ⟨o, h⟩) | h
  · exact .inl (.inl (e _ _ h))
  · exact .inl (.inr ⟨o, e _ _ h⟩)
  · exact .inr h

section
variable {X : Cx}
end
/-! ### a dict's pairs: keys that differ -/
section
variable {κ : Type} [DecidableEq κ]
end
end L2

set_option Elab.async false
set_option linter.all false
set_option maxRecDepth 100000
set_option maxHeartbeats 4000000
/-! our own rules over the hand layer -/
namespace L2
open PySem PySem.Spec PyProof.Rows

/-! ### values as data, over the abstract heap -/
mutual
inductive Rp (K : PySem.W.Frag) (H : Hp) : V → PyData → Prop
  | non : Rp K H .non .none
  | bl (b : Bool) : Rp K H (.bl b) (.bool b)
  | int (i : Int) : Rp K H (.int i) (.int i)
  | str (x : Str) : Rp K H (.str x) (.str x)
  | lst {a : Addr} {xs : List V} {ds : List PyData} : H a = some (.lst xs) → RpL K H xs ds → Rp K H (.ref a) (.list ds)
  | tup {a : Addr} {xs : List V} {ds : List PyData} : H a = some (.tup xs) → RpL K H xs ds → Rp K H (.ref a) (.tuple ds)
inductive RpL (K : PySem.W.Frag) (H : Hp) : List V → List PyData → Prop
  | nil : RpL K H [] []
  | cons {x : V} {d : PyData} {xs : List V} {ds : List PyData} : Rp K H x d → RpL K H xs ds → RpL K H (x :: xs) (d :: ds)
end
mutual
theorem Rp.mono {K : PySem.W.Frag} {H H' : Hp} (g : Same H H') : ∀ {v : V} {d : PyData}, Rp K H v d → Rp K H' v d
  | _, _, .non => .non
  | _, _, .bl b => .bl b
  | _, _, .int i => .int i
  | _, _, .str x => .str x
  | _, _, .lst h r => .lst (g _ _ h) (RpL.mono g r)
  | _, _, .tup h r => .tup (g _ _ h) (RpL.mono g r)
theorem RpL.mono {K : PySem.W.Frag} {H H' : Hp} (g : Same H H') : ∀ {vs : List V} {ds : List PyData}, RpL K H vs ds → RpL K H' vs ds
  | _, _, .nil => .nil
  | _, _, .cons h r => .cons (Rp.mono g h) (RpL.mono g r)
end
mutual
theorem Rp.reads {X : Cx} {pins : List (Addr × Obj)} {σ : St} {H : Hp} {s : Shared} (I : Inv X pins σ H s) : ∀ {v : V} {d : PyData} {u : Value}, Rp X.K H v d → RelV v u → ∃ as, Reads s.heap u d as
  | _, _, _, .non, r => by cases r; exact ⟨_, .none⟩
  | _, _, _, .bl b, r => by cases r; exact ⟨_, .bool b⟩
  | _, _, _, .int i, r => by obtain ⟨t, rfl⟩ := r; exact ⟨_, .int i t⟩
  | _, _, _, .str x, r => by obtain ⟨t, rfl⟩ := r; exact ⟨_, .str x t⟩
  | _, _, _, .lst h q, r => by
    cases r
    obtain ⟨its, rv, ⟨o, n, e, hc, hd, hs⟩, _⟩ := I.list (SqL.of h)
    obtain ⟨as, ra⟩ := RpL.reads I q rv
    exact ⟨_, .list e hc hs (by simpa using ra)⟩
  | _, _, _, .tup h q, r => by
    cases r
    obtain ⟨its, rv, ⟨o, e, hc, n, hs⟩, _⟩ := I.tuple (SqT.of h)
    obtain ⟨as, ra⟩ := RpL.reads I q rv
    exact ⟨_, .tuple e hc hs (by simpa using ra)⟩
theorem RpL.reads {X : Cx} {pins : List (Addr × Obj)} {σ : St} {H : Hp} {s : Shared} (I : Inv X pins σ H s) : ∀ {vs : List V} {ds : List PyData} {us : List Value}, RpL X.K H vs ds → Vals vs us → ∃ as, ReadsAll s.heap us ds as
  | _, _, _, .nil, .nil => ⟨_, .nil⟩
  | _, _, _, .cons h q, .cons r t => by
    obtain ⟨as, ra⟩ := Rp.reads I h r
    obtain ⟨bs, rb⟩ := RpL.reads I q t
    exact ⟨_, .cons ra rb⟩
end
theorem same_new {H : Hp} {p : Addr} (h : H p = none) (o : HO) : Same H (upd H p o) := fun b u q => by rw [upd_ne (ne_of_none q h)]; exact q

section
variable {X : Cx}
/-! ### == and != of data (lists, tuples, flat values, at any depth) -/
def rNeD (K : PySem.W.Frag) : R2 := fun x y H Q => ∃ d e, Rp K H x d ∧ Rp K H y e ∧ SeqAt.shaped d = true ∧ SeqAt.shaped e = true ∧ Q (.bl (!PyData.eqv d e)) H
theorem op_neD (hu : X.A.units + 64 < cLine) : OpR X (compareOp .NotEq) (rNeD X.K) := by
  intro pins s σ H x y v u Q I rx ry h
  obtain ⟨d, e, hx, hy, sd, se, q⟩ := h
  obtain ⟨as, ra⟩ := hx.reads I rx
  obtain ⟨bs, rb⟩ := hy.reads I ry
  exact ne_dataH ra rb sd se hu ⟨.bl _, H, I, rfl, q⟩
/-! ### != of two dicts that hold the same flat pairs -/
/-! ### dict(d) -/
/-! ### isinstance(x, T), T a built-in type -/
end

/-! ### items of tracked lists and tuples -/
def rIxG : R2 := fun x y H Q => ∃ p i xs v, x = .ref p ∧ y = .int i ∧ (H p = some (.tup xs) ∨ H p = some (.lst xs)) ∧ atI xs i = some v ∧ Q v H
theorem ix_g {X : Cx} : IxR X rIxG := by
  intro value slice pins s σ H x y v u Q I rx ry h hs
  obtain ⟨p, i, xs, z, rfl, rfl, hq, he, q⟩ := h
  rcases hq with hq | hq
  · exact ix_tup value slice pins s σ H _ _ v u Q I rx ry ⟨p, xs, i, z, rfl, rfl, SqT.of hq, he, q⟩ hs
  · exact ix_list value slice pins s σ H _ _ v u Q I rx ry ⟨p, xs, i, z, rfl, rfl, SqL.of hq, he, q⟩ hs
theorem atI_0 {α : Type} {a : α} {l : List α} : atI (a :: l) 0 = some a := atI_nat (j := 0) rfl
theorem atI_1 {α : Type} {a b : α} {l : List α} : atI (a :: b :: l) 1 = some b := atI_nat (j := 1) rfl
theorem atI_2 {α : Type} {a b c : α} {l : List α} : atI (a :: b :: c :: l) 2 = some c := atI_nat (j := 2) rfl
theorem atI_3 {α : Type} {a b c d : α} {l : List α} : atI (a :: b :: c :: d :: l) 3 = some d := atI_nat (j := 3) rfl
theorem atI_4 {α : Type} {a b c d e : α} {l : List α} : atI (a :: b :: c :: d :: e :: l) 4 = some e := atI_nat (j := 4) rfl
theorem atI_in {α : Type} {xs : List α} {i : Int} (h0 : 0 ≤ i) (h1 : i < xs.length) : ∃ v, atI xs i = some v ∧ v ∈ xs ∧ xs[i.toNat]? = some v := by
  have hk : i.toNat < xs.length := by omega
  have e : ((i.toNat : Nat) : Int) = i := by omega
  refine ⟨xs[i.toNat], ?_, List.getElem_mem hk, List.getElem?_eq_getElem hk⟩
  have := atI_nat (xs := xs) (j := i.toNat) (v := xs[i.toNat]) (List.getElem?_eq_getElem hk)
  rwa [e] at this
theorem fresh_any {H : Hp} {o : HO} {R : Addr → Hp → Prop} (h : ∀ p H', H p = none → Same H H' → H' p = some o → R p H') : ∀ p, H p = none → R p (upd H p o) := fun p hp => h p _ hp (same_new hp o) upd_same
theorem sz {n : Nat} (h : n ≤ 1000) : (n ≤ sizeLine) = True := eq_true (Nat.le_of_lt (small1000 h))
theorem mn1 {n : Nat} : min 1 (n + 1) = 1 := by omega
theorem mn2 {n : Nat} : min 2 (n + 2) = 2 := by omega
theorem na2 : Int.natAbs 2 = 2 := rfl
theorem na10 : Int.natAbs 10 = 10 := rfl
theorem sz0 : (0 ≤ sizeLine) = True := sz (by decide)
theorem sz1 : (1 ≤ sizeLine) = True := sz (by decide)
theorem sz2 : (2 ≤ sizeLine) = True := sz (by decide)
theorem sz3 : (3 ≤ sizeLine) = True := sz (by decide)
theorem sz4 : (4 ≤ sizeLine) = True := sz (by decide)
theorem sz5 : (5 ≤ sizeLine) = True := sz (by decide)
theorem sz6 : (6 ≤ sizeLine) = True := sz (by decide)
theorem sz8 : (8 ≤ sizeLine) = True := sz (by decide)
theorem ofString_inj {a b : String} : (Str.ofString a = Str.ofString b) = (a = b) := by
  apply propext
  constructor
  · intro h
    rw [Str.ofString_eq_toList, Str.ofString_eq_toList] at h
    injection h with h
    have h2 : a.toList.map Char.toNat = b.toList.map Char.toNat := by simpa using congrArg Array.toList h
    have inj : ∀ c d : Char, c.toNat = d.toNat → c = d := fun c d e => Char.ext (UInt32.toNat_inj.mp e)
    exact String.toList_inj.mp (List.map_inj_right (fun c d e => inj c d e) |>.mp h2)
  · rintro rfl; rfl
theorem RpL.nil_inv {K : PySem.W.Frag} {H : Hp} {vs : List V} (h : RpL K H vs []) : vs = [] := by cases h; rfl
theorem RpL.cons_inv {K : PySem.W.Frag} {H : Hp} {vs : List V} {d : PyData} {ds : List PyData} (h : RpL K H vs (d :: ds)) : ∃ x xs, vs = x :: xs ∧ Rp K H x d ∧ RpL K H xs ds := by cases h with | cons a b => exact ⟨_, _, rfl, a, b⟩
theorem Rp.str_inv {K : PySem.W.Frag} {H : Hp} {v : V} {x : Str} (h : Rp K H v (.str x)) : v = .str x := by cases h; rfl
theorem Rp.int_inv {K : PySem.W.Frag} {H : Hp} {v : V} {x : Int} (h : Rp K H v (.int x)) : v = .int x := by cases h; rfl
theorem Rp.non_inv {K : PySem.W.Frag} {H : Hp} {v : V} (h : Rp K H v .none) : v = .non := by cases h; rfl
theorem Rp.tup_inv {K : PySem.W.Frag} {H : Hp} {v : V} {ds : List PyData} (h : Rp K H v (.tuple ds)) : ∃ a xs, v = .ref a ∧ H a = some (.tup xs) ∧ RpL K H xs ds := by cases h with | tup a b => exact ⟨_, _, rfl, a, b⟩
theorem Rp.tup1 {K : PySem.W.Frag} {H : Hp} {v : V} {d : PyData} (h : Rp K H v (.tuple [d])) : ∃ a x, v = .ref a ∧ H a = some (.tup [x]) ∧ Rp K H x d := by
  obtain ⟨a, xs, rfl, ha, r⟩ := h.tup_inv
  obtain ⟨x, xs, rfl, hx, r⟩ := r.cons_inv
  cases r.nil_inv
  exact ⟨a, x, rfl, ha, hx⟩
theorem Rp.tup2 {K : PySem.W.Frag} {H : Hp} {v : V} {d e : PyData} (h : Rp K H v (.tuple [d, e])) : ∃ a x y, v = .ref a ∧ H a = some (.tup [x, y]) ∧ Rp K H x d ∧ Rp K H y e := by
  obtain ⟨a, xs, rfl, ha, r⟩ := h.tup_inv
  obtain ⟨x, xs, rfl, hx, r⟩ := r.cons_inv
  obtain ⟨y, xs, rfl, hy, r⟩ := r.cons_inv
  cases r.nil_inv
  exact ⟨a, x, y, rfl, ha, hx, hy⟩
theorem Rp.tup3 {K : PySem.W.Frag} {H : Hp} {v : V} {d e f : PyData} (h : Rp K H v (.tuple [d, e, f])) : ∃ a x y z, v = .ref a ∧ H a = some (.tup [x, y, z]) ∧ Rp K H x d ∧ Rp K H y e ∧ Rp K H z f := by
  obtain ⟨a, xs, rfl, ha, r⟩ := h.tup_inv
  obtain ⟨x, xs, rfl, hx, r⟩ := r.cons_inv
  obtain ⟨y, xs, rfl, hy, r⟩ := r.cons_inv
  obtain ⟨z, xs, rfl, hz, r⟩ := r.cons_inv
  cases r.nil_inv
  exact ⟨a, x, y, z, rfl, ha, hx, hy, hz⟩
theorem valV_mem {kvs : List (Key × V)} {k : Key} {v : V} (h : valV kvs k = some v) : ∃ kv ∈ kvs, kv.2 = v := by
  unfold valV at h
  cases q : kvs.find? (fun kv => decide (kv.1 = k)) with
  | none => rw [q] at h; cases h
  | some p => rw [q] at h; exact ⟨p, List.mem_of_find?_eq_some q, Option.some.inj h⟩

/-! ### dicts, by what the key is -/
def keyOf : V → Option Key
  | .int i => some (.inl i)
  | .str x => some (.inr x)
  | _ => none
theorem kV_of {y : V} {k : Key} (h : keyOf y = some k) : y = kV k := by
  cases y <;> simp only [keyOf, Option.some.injEq, reduceCtorEq] at h <;> subst h <;> rfl
section
variable {X : Cx} {i o e value : Expr} {ty td te tv : TE} {pos pos' apos cpos : Pos}
def tDInG (ty td : TE) : TE := fun σ H Q => ty σ H fun y H1 => td σ H1 fun x H2 => ∃ a kvs k, x = .ref a ∧ H2 a = some (.dK kvs) ∧ keyOf y = some k ∧ Q (.bl (valV kvs k).isSome) H2
def tDNotInG (ty td : TE) : TE := fun σ H Q => ty σ H fun y H1 => td σ H1 fun x H2 => ∃ a kvs k, x = .ref a ∧ H2 a = some (.dK kvs) ∧ keyOf y = some k ∧ Q (.bl (!(valV kvs k).isSome)) H2
def tDGetG (td ty : TE) : TE := fun σ H Q => td σ H fun x H1 => ty σ H1 fun y H2 => ∃ a kvs k v, x = .ref a ∧ H2 a = some (.dK kvs) ∧ keyOf y = some k ∧ valV kvs k = some v ∧ Q v H2
def sDPutG (td ty tv : TE) : TS := fun D σ H => tv σ H fun v H1 => td σ H1 fun x H2 => ty σ H2 fun y H3 => ∃ a kvs k, x = .ref a ∧ H3 a = some (.dK kvs) ∧ keyOf y = some k ∧ kvs.length < sizeLine ∧ D.nx σ (upd H3 a (.dK (putK kvs k v)))
theorem pe_dgetG (hu : X.A.units + 1 < cLine) (ho : PE X o td) (hi : PE X i ty) (hs : NoSl i) : PE X (.Subscript o i pos) (tDGetG td ty) := by
  intro pins s σ H Q I h
  refine subD_of PySem.F.slot_dict_getitem.lookup hs (thn (ho pins s σ H _ I h) fun u s1 ⟨x, H1, I1, rx, q1⟩ => thn (hi pins s1 σ H1 _ I1 q1) fun iv s2 ⟨y, H2, I2, ry, a, kvs, k, v, ex, ha, ek, ev, q2⟩ => ?_)
  subst ex
  obtain rfl : u = Value.ref a := rx
  have g : DGet H2 a y (some v) := by rw [kV_of ek, ← ev]; exact DGet.k ha
  exact ⟨dict_typeIs I2 g, d_getItem hu I2 g ry fun w' s3 I3 rw' => ⟨v, H2, I3, rw', q2⟩⟩
theorem pc_dinG (hu : X.A.units + 1 < cLine) (hi : PE X i ty) (ho : PE X o td) : PC X .In i o (tDInG ty td) := by
  intro pins s σ H Q I h
  refine thn (hi pins s σ H _ I h) fun iv s1 ⟨y, H1, I1, ry, q1⟩ => thn (ho pins s1 σ H1 _ I1 q1) fun u s2 ⟨x, H2, I2, rx, a, kvs, k, ex, ha, ek, q2⟩ => ?_
  subst ex
  obtain rfl : u = Value.ref a := rx
  have g : DGet H2 a y (valV kvs k) := by rw [kV_of ek]; exact DGet.k ha
  exact d_in hu I2 g ry fun s3 I3 => ⟨.bl _, H2, I3, rfl, q2⟩
theorem ps_dputG (hu : X.A.units + 1 < cLine) (ho : PE X o td) (hi : PE X i ty) (hv : PE X value tv) (hs : swapsWith value (some (.Subscript o i pos')) pos.line X.env = pure false := by rfl) :
    PS X (.Assign [.Subscript o i pos'] value pos) (sDPutG td ty tv) := by
  intro pins s σ H D I h
  refine wpAny_Assign_Subscript (thn (hv pins s σ H _ I h) fun r s1 ⟨v, H1, I1, rv, q1⟩ => thn (ho pins s1 σ H1 _ I1 q1) fun u s2 ⟨x, H2, I2, rx, q2⟩ => thn (hi pins s2 σ H2 _ I2 q2) fun iv s3 ⟨y, H3, I3, ry, a, kvs, k, ex, ha, ek, hz, q3⟩ => ?_) hs
  subst ex
  obtain rfl : u = Value.ref a := rx
  have g : DPut H3 a y v (upd H3 a (.dK (putK kvs k v))) := by rw [kV_of ek]; exact DPut.k ha hz
  exact d_setItem hu I3 g ry rv fun s4 I4 => ⟨σ, _, I4, q3⟩
def tApp (to te : TE) : TE := fun σ H Q => to σ H fun x H1 => ∃ l xs, x = .ref l ∧ H1 l = some (.lst xs) ∧ te σ H1 fun y H2 => rAppend (.ref l) [y] H2 Q
theorem pe_app (ho : PE X o td) (he : PE X e te)
    (hbase : attributeBase o "append" X.env (eval o X.env) = eval o X.env := by rfl)
    (hfew : ((backTo cpos (starEach [e] X.env)).all (fun x => !x.1) && (backToKw cpos (keywordEach [] X.env)).all (fun x => x.1.isSome)
      && decide ([e].length + ([] : List Keyword).length + (if ([] : List Keyword).isEmpty then 0 else 1) < 30)) = true := by rfl)
    (hline : (apos.endLine == cpos.line) = true := by rfl) (hs : starEach [e] X.env = [(false, eval e X.env)] := by rfl) :
    PE X (.Call (.Attribute o "append" apos) [e] [] cpos) (tApp td te) := by
  intro pins s σ H Q I h
  refine wpAny_Call_method_late hbase hfew hline rfl (thn (ho pins s σ H _ I h) fun v s1 ⟨x, H1, I1, r1, l, xs, ex, hl, q1⟩ => ?_)
  subst ex
  obtain ⟨h1, h2⟩ := tyV_is (T := "list") I1 r1 (Or.inl ⟨rfl, xs, SqL.of hl⟩)
  refine ⟨"list", _, PySem.F.plainAttrs_list, PySem.F.slot_list_append, PySem.F.type_list_append, h1, h2, ?_⟩
  have hA := (pa_cons he pa_nil (hs := by rw [hs]; rfl)) cpos pins s1 σ H1 (fun vs H2 => rAppend (.ref l) vs H2 Q) I1 q1
  rw [hs] at hA ⊢
  refine Calls.callWith_builtin (by rfl) (Calls.evalArgs_plain ?_)
  exact thn hA fun us s2 ⟨vs, H2, I2, r2, q2⟩ => mt_append pins s2 σ H2 _ vs v us Q I2 r1 r2 q2
end

/-! ### facts that simp uses -/
theorem scal_ss {a b : Str} : scal (.str a) (.str b) = true := rfl
theorem scal_ii {a b : Int} : scal (.int a) (.int b) = true := rfl
theorem scal_bb {a b : Bool} : scal (.bl a) (.bl b) = true := rfl
theorem scal_nn : scal .non .non = true := rfl
theorem scal_ns {b : Str} : scal .non (.str b) = true := rfl
theorem scal_sn {b : Str} : scal (.str b) .non = true := rfl
theorem scal_ni {b : Int} : scal .non (.int b) = true := rfl
theorem scal_in {b : Int} : scal (.int b) .non = true := rfl
theorem keyOf_s {a : Str} : keyOf (.str a) = some (.inr a) := rfl
theorem keyOf_i {a : Int} : keyOf (.int a) = some (.inl a) := rfl
theorem flat_s {a : Str} : flatV (.str a) = true := rfl
theorem flat_i {a : Int} : flatV (.int a) = true := rfl
theorem flat_n : flatV .non = true := rfl
theorem flat_b {a : Bool} : flatV (.bl a) = true := rfl
theorem inV_nil {x : V} : inV x [] = false := rfl
theorem inV_cons {x y : V} {l : List V} : inV x (y :: l) = (eqV y x || inV x l) := rfl
theorem eqV_ss {a b : Str} : eqV (.str a) (.str b) = decide (a = b) := by
  show (a == b) = _
  rw [Bool.eq_iff_iff]; simp
theorem eqV_ii {a b : Int} : eqV (.int a) (.int b) = decide (a = b) := by
  show (a == b) = _
  rw [Bool.eq_iff_iff]; simp
theorem cx_K {CX : CXT} {P : Program} {w : World} {K : PySem.W.Frag} {mg : Str → Option Value} {base : Heap} {N : List Str} {qual : Str} {scope : Scope} {f : Addr} {cd : Value} {A : Around} {outer : List Env} {s : Shared} {H : Hp} {E : XK} : (cxOf CX P w K mg base N qual scope f cd A outer s H E).K = K := rfl
section
variable {X : Cx}
def rInG (neg : Bool) : R2 := fun x y H Q => ∃ p xs, y = .ref p ∧ (H p = some (.tup xs) ∨ H p = some (.lst xs)) ∧ flatV x = true ∧ xs.all flatV = true ∧ Q (.bl (if neg then !inV x xs else inV x xs)) H
theorem op_inG : OpR X (compareOp .In) (rInG false) := by
  intro pins s σ H x y v u Q I rx ry h
  obtain ⟨p, xs, rfl, hq, fx, fs, q⟩ := h
  exact op_in_seq pins s σ H x _ v u Q I rx ry ⟨p, xs, rfl, hq.symm.imp SqL.of SqT.of, fx, fs, q⟩
theorem op_notInG : OpR X (compareOp .NotIn) (rInG true) := by
  intro pins s σ H x y v u Q I rx ry h
  obtain ⟨p, xs, rfl, hq, fx, fs, q⟩ := h
  exact op_notIn_seq pins s σ H x _ v u Q I rx ry ⟨p, xs, rfl, hq.symm.imp SqL.of SqT.of, fx, fs, q⟩
def gTupG (n : Nat) (t : TGs) : TG := fun v σ H Q => ∃ a xs, v = .ref a ∧ H a = some (.tup xs) ∧ xs.length = n ∧ t xs σ H Q
theorem pg_tupG {es : List Expr} {k : Nat} {t : TGs} {pos : Pos} (n : Nat) (hc : X.calm = true) (h : PGs X es t)
    (hn : (assignEach es X.env).length = n := by rfl) (hst : (assignEach es X.env).findIdx? (·.1) = none := by rfl) : PG X (.Tuple es k pos) (gTupG n t) := by
  intro pins s σ H v u Q I r hw
  obtain ⟨a, xs, e1, hq, hl, hw⟩ := hw
  exact pg_tup hc h hn hst pins s σ H v u Q I r ⟨a, xs, e1, SqT.of hq, hl, hw⟩
def tM (t : TE) : TE := fun σ H Q => ∃ Q1 : VK, t σ H Q1 ∧ ∀ v H', Q1 v H' → Q v H'
theorem PE.up {e : Expr} {t : TE} (h : PE X e t) : PE X e (tM t) := by
  intro pins s σ H Q I hq
  obtain ⟨Q1, h1, h2⟩ := hq
  exact thn (h pins s σ H Q1 I h1) fun u s' ⟨v, H', I', r, q⟩ => ⟨v, H', I', r, h2 v H' q⟩
def rSlG : V → Option Int → Option Int → Hp → VK → Prop := fun x lo hi H Q => ∃ a xs, x = .ref a ∧
  ((H a = some (.tup xs) ∧ ¬ (HT.sIx xs.length 0 lo = 0 ∧ HT.sIx xs.length xs.length hi = xs.length) ∧ ∀ p H', H p = none → Same H H' → H' p = some (.tup (cutV xs lo hi)) → Q (.ref p) H') ∨
   (H a = some (.lst xs) ∧ ∀ p H', H p = none → Same H H' → H' p = some (.lst (cutV xs lo hi)) → Q (.ref p) H'))
theorem sl_g : SlR X rSlG := by
  intro pins s σ H x v vl vu lo hi sl Q I rx hs pl pu h
  obtain ⟨a, xs, rfl, ⟨ha, hn, q⟩ | ⟨ha, q⟩⟩ := h
  · exact sl_tup pins s σ H _ v vl vu lo hi sl Q I rx hs pl pu ⟨a, xs, rfl, SqT.of ha, hn, fresh_any q⟩
  · exact sl_list pins s σ H _ v vl vu lo hi sl Q I rx hs pl pu ⟨a, xs, rfl, SqL.of ha, fresh_any q⟩
def rSlK (K : PySem.W.Frag) : V → Option Int → Option Int → Hp → VK → Prop := fun x lo hi H Q => ∃ a xs, x = .ref a ∧ SqL K H a xs ∧ ∀ p H', H p = none → Same H H' → H' p = some (.lst (cutV xs lo hi)) → Q (.ref p) H'
theorem sl_k : SlR X (rSlK X.K) := by
  intro pins s σ H x v vl vu lo hi sl Q I rx hs pl pu h
  obtain ⟨a, xs, rfl, ha, q⟩ := h
  exact sl_list pins s σ H _ v vl vu lo hi sl Q I rx hs pl pu ⟨a, xs, rfl, ha, fresh_any q⟩
theorem cut_upto {xs : List V} {n : Nat} (h : xs.length ≤ n) : cutV xs none (some (n : Int)) = xs := by
  have e : HT.sIx xs.length xs.length (some (n : Int)) = xs.length := by
    show (if (n : Int) < 0 then ((n : Int) + (xs.length : Int)).toNat else min (n : Int).toNat xs.length) = xs.length
    rw [if_neg (by omega)]
    omega
  unfold cutV
  rw [e]
  show List.take (xs.length - 0) (List.drop 0 xs) = xs
  rw [List.drop_zero]
  exact List.take_of_length_le (by omega)
/-! ### what is made lies in some heap that has all that was there -/
def tMA (t : TA) : TA := fun σ H Q => ∃ Q1 : List V → Hp → Prop, t σ H Q1 ∧ ∀ vs H', Q1 vs H' → Q vs H'
theorem PA.up {es : List Expr} {t : TA} (h : PA X es t) : PA X es (tMA t) := by
  intro pos pins s σ H Q I hq
  obtain ⟨Q1, h1, h2⟩ := hq
  exact thn (h pos pins s σ H Q1 I h1) fun us s' ⟨vs, H', I', r, q⟩ => ⟨vs, H', I', r, h2 vs H' q⟩
def tTupG (t : TA) : TE := fun σ H Q => t σ H fun xs H1 => xs.length ≤ sizeLine ∧ ∀ p H', H1 p = none → Same H1 H' → H' p = some (.tup xs) → Q (.ref p) H'
def tLstG (t : TA) : TE := fun σ H Q => t σ H fun xs H1 => xs.length ≤ sizeLine ∧ ∀ p H', H1 p = none → Same H1 H' → H' p = some (.lst xs) → Q (.ref p) H'
theorem pe_tupG {es : List Expr} {t : TA} {pos : Pos} {x1} (h : PA X es t) : PE X (.Tuple es x1 pos) (tTupG t) := fun pins s σ H Q I hq =>
  pe_tup h.up pins s σ H Q I ⟨_, hq, fun _ _ q => ⟨q.1, fresh_any q.2⟩⟩
theorem pe_lstG {es : List Expr} {t : TA} {pos : Pos} (h : PA X es t) : PE X (.List es pos) (tLstG t) := fun pins s σ H Q I hq =>
  pe_lst h.up pins s σ H Q I ⟨_, hq, fun _ _ q => ⟨q.1, fresh_any q.2⟩⟩
def tDNewG : TE := fun _ H Q => ∀ p H', H p = none → Same H H' → H' p = some (.dK []) → Q (.ref p) H'
def rDictG : List V → Hp → VK → Prop := fun xs H Q => ∃ a kvs, xs = [.ref a] ∧ H a = some (.dK kvs) ∧ ∀ p H', H p = none → Same H H' → H' p = some (.dK kvs) → Q (.ref p) H'
structure Mu (H : Hp) (l : Addr) (o : HO) (H' : Hp) : Prop where
  at_ : H' l = some o
  else_ : ∀ a, a ≠ l → H' a = H a
theorem Mu.mk' {H : Hp} {l : Addr} {o : HO} : Mu H l o (upd H l o) := ⟨upd_same, fun _ h => upd_ne h⟩
theorem Mu.old {H H' : Hp} {l a : Addr} {o u : HO} (m : Mu H l o H') (h : H a = some u) (n : a ≠ l) : H' a = some u := by rw [m.else_ a n]; exact h
theorem Mu.same {H0 H H' : Hp} {l : Addr} {o : HO} (m : Mu H l o H') (g : Same H0 H) (n : H0 l = none) : Same H0 H' := fun a u h => m.old (g a u h) (ne_of_none h n)
def tAppG (to te : TE) : TE := fun σ H Q => to σ H fun x H1 => ∃ l xs, x = .ref l ∧ H1 l = some (.lst xs) ∧ te σ H1 fun y H2 => ∃ ys, H2 l = some (.lst ys) ∧ ys.length < sizeLine ∧ ∀ H3, Mu H2 l (.lst (ys ++ [y])) H3 → Q .non H3
theorem pe_appG {o e : Expr} {td te : TE} {apos cpos : Pos} (ho : PE X o td) (he : PE X e te)
    (hbase : attributeBase o "append" X.env (eval o X.env) = eval o X.env := by rfl)
    (hfew : ((backTo cpos (starEach [e] X.env)).all (fun x => !x.1) && (backToKw cpos (keywordEach [] X.env)).all (fun x => x.1.isSome)
      && decide ([e].length + ([] : List Keyword).length + (if ([] : List Keyword).isEmpty then 0 else 1) < 30)) = true := by rfl)
    (hline : (apos.endLine == cpos.line) = true := by rfl) (hs : starEach [e] X.env = [(false, eval e X.env)] := by rfl) :
    PE X (.Call (.Attribute o "append" apos) [e] [] cpos) (tAppG td te) := fun pins s σ H Q I h =>
  pe_app ho.up he.up hbase hfew hline hs pins s σ H Q I ⟨_, h, fun _ _ ⟨l, xs, e1, h1, q⟩ => ⟨l, xs, e1, h1, _, q, fun y _ ⟨ys, h2, hz, q⟩ => ⟨l, ys, y, rfl, rfl, h2, hz, q _ .mk'⟩⟩⟩
def sDPutG2 (td ty tv : TE) : TS := fun D σ H => tv σ H fun v H1 => td σ H1 fun x H2 => ty σ H2 fun y H3 => ∃ a kvs k, x = .ref a ∧ H3 a = some (.dK kvs) ∧ keyOf y = some k ∧ kvs.length < sizeLine ∧ ∀ H4, Mu H3 a (.dK (putK kvs k v)) H4 → D.nx σ H4
theorem ps_dputG2 {i o value : Expr} {ty td tv : TE} {pos pos' : Pos} (hu : X.A.units + 1 < cLine) (ho : PE X o td) (hi : PE X i ty) (hv : PE X value tv) (hs : swapsWith value (some (.Subscript o i pos')) pos.line X.env = pure false := by rfl) :
    PS X (.Assign [.Subscript o i pos'] value pos) (sDPutG2 td ty tv) := fun pins s σ H D I h =>
  ps_dputG hu ho.up hi.up hv.up hs pins s σ H D I ⟨_, h, fun _ _ q => ⟨_, q, fun _ _ q => ⟨_, q, fun _ _ ⟨a, kvs, k, e1, e2, e3, e4, q⟩ => ⟨a, kvs, k, e1, e2, e3, e4, q _ .mk'⟩⟩⟩⟩
def pairsOf : List (V × V) → Option (List (Key × V))
  | [] => some []
  | (x, y) :: r => (keyOf x).bind fun k => (pairsOf r).bind fun l => some ((k, y) :: l)
theorem pairsOf_map : ∀ {ps : List (V × V)} {kvs : List (Key × V)}, pairsOf ps = some kvs → ps = kvs.map fun kv => (kV kv.1, kv.2)
  | [], kvs, h => by cases h; rfl
  | (x, y) :: r, kvs, h => by
    cases hk : keyOf x with
    | none => simp [pairsOf, hk] at h
    | some k =>
      cases hr : pairsOf r with
      | none => simp [pairsOf, hk, hr] at h
      | some l =>
        simp [pairsOf, hk, hr] at h
        subst h
        rw [List.map_cons, ← pairsOf_map hr, ← kV_of hk]
theorem PPs.up {pos : Pos} {keys : List (Option Expr)} {values : List Expr} {trs : List (TE × TE)} (h : PPs X pos keys values trs) {pins : List (Addr × Obj)} {s : Shared} {σ : St} {H : Hp} {Q Q1 : List (V × V) → Hp → Prop} (I : Inv X pins σ H s) (h1 : tPairs trs σ H Q1) (h2 : ∀ ps H', Q1 ps H' → Q ps H') :
    wpAny (model X.prog X.w) X.A (evalPairs (pairTrees keys values X.env pos)) (fun vs s' => ∃ ps H', Inv X pins σ H' s' ∧ VV ps vs ∧ Q ps H') X.xe s :=
  thn (h pins s σ H Q1 I h1) fun vs s' ⟨ps, H', I', r, q⟩ => ⟨ps, H', I', r, h2 ps H' q⟩
def tDispG (trs : List (TE × TE)) : TE := fun σ H Q => ∀ p H', H p = none → Same H H' → H' p = some (.dK []) → tPairs trs σ H' fun ps H2 => H2 p = some (.dK []) ∧ ∃ kvs, pairsOf ps = some kvs ∧ kvs.length ≤ 15 ∧ ∀ H3, Mu H2 p (.dK (mergeK [] kvs)) H3 → Q (.ref p) H3
theorem pe_dispG {pos : Pos} {keys : List (Option Expr)} {values : List Expr} {trs : List (TE × TE)} (h : PPs X pos keys values trs) (hall : keys.all (·.isSome) = true) (hl : keys.length = values.length) (h0 : keys ≠ [])
    (h15 : keys.length ≤ 15) : PE X (.Dict keys values pos) (tDispG trs) := by
  intro pins s σ H Q I q
  have hn := I.hok.fresh (Nat.le_refl s.heap.objs.size)
  have I1 := I.laid (a := s.heap.objs.size) (o := .dK []) (h' := s.heap.push { cls := .type "dict", data := .dict #[] }) (t' := s.toks) (fun _ _ q => Heap.get?_push_of_some _ q) (Nat.le_refl _) (dk_empty s.heap I.big)
  refine wpAny_Dict_walk (knd := mixKind X.prog X.w) hall hl h0 h15 (thn (h pins _ σ _ _ I1 (q _ _ hn (same_new hn _) upd_same)) fun ws s2 ⟨ps, H2, I2, rel, e, kvs, ep, lk, q2⟩ => ?_)
  have ep := pairsOf_map ep
  subst ep
  obtain ⟨rs, c, rk⟩ := carries_of (P := X.prog) (w := X.w) rel
  obtain ⟨z, hd, vs0, r0, dd⟩ := dk_of I2.hok e
  cases r0
  refine ⟨rs, c, dd, fun h' dd' hs => ⟨.ref s.heap.objs.size, _, ?_, rfl, q2 _ .mk'⟩⟩
  have hz : (mergeK [] kvs).length ≤ sizeLine := by
    have h1 := length_mergeK kvs []
    rw [List.length_nil] at h1
    rw [sizeLine_eq]; omega
  have he : ∃ q, h'.get? s.heap.objs.size = some q := let ⟨q, _, _, hq, _⟩ := dd'; ⟨q, hq⟩
  exact d_write I2 (by rw [e]; exact True.intro) hs he (dk_new hz hd (rk.merge .nil) dd')
/-! ### a loop over a tracked list or tuple, turn by turn -/
def turns (a : Addr) (o : HO) (g : TG) (tb : TS) (D : Ends) : List V → St → Hp → Prop
  | [], σ, H => H a = some o ∧ D.nx σ H
  | x :: r, σ, H => H a = some o ∧ g x σ H fun σ2 H2 => tb { D with nx := turns a o g tb D r, ct := turns a o g tb D r, bk := D.nx } σ2 H2
def tForT (tl : TE) (g : TG) (tb : TS) : TS := fun D σ H => tl σ H fun x H1 => ∃ a xs, x = .ref a ∧ H1 a = some (.tup xs) ∧ turns a (.tup xs) g tb D xs σ H1
def tForL (tl : TE) (g : TG) (tb : TS) : TS := fun D σ H => tl σ H fun x H1 => ∃ a xs, x = .ref a ∧ H1 a = some (.lst xs) ∧ turns a (.lst xs) g tb D xs σ H1
end

/-! ### isinstance, by what stands in the heap -/
def hoT : HO → Option String
  | .lst _ => some "list"
  | .tup _ => some "tuple"
  | .dK _ => some "dict"
  | _ => none
def tyG (H : Hp) : V → Option String
  | .non => some "NoneType"
  | .bl _ => some "bool"
  | .int _ => some "int"
  | .str _ => some "str"
  | .ref a => (H a).bind hoT
  | _ => none
theorem tyG_n {H : Hp} : tyG H .non = some "NoneType" := rfl
theorem tyG_b {H : Hp} {x : Bool} : tyG H (.bl x) = some "bool" := rfl
theorem tyG_i {H : Hp} {x : Int} : tyG H (.int x) = some "int" := rfl
theorem tyG_s {H : Hp} {x : Str} : tyG H (.str x) = some "str" := rfl
theorem tyG_r {H : Hp} {a : Addr} : tyG H (.ref a) = (H a).bind hoT := rfl
theorem hoT_l {xs : List V} : hoT (.lst xs) = some "list" := rfl
theorem hoT_t {xs : List V} : hoT (.tup xs) = some "tuple" := rfl
theorem hoT_d {xs : List (Key × V)} : hoT (.dK xs) = some "dict" := rfl
def rIsiG (K : PySem.W.Frag) : List V → Hp → VK → Prop := fun xs H Q => ∃ x T t b, xs = [x, .ty T] ∧ tyG H x = some t ∧ PySem.W.kitOne K (.type t) (.type T) = some b ∧ Q (.bl b) H
theorem kit_ii {K : PySem.W.Frag} : PySem.W.kitOne K (.type "int") (.type "int") = some true := rfl
theorem kit_it {K : PySem.W.Frag} : PySem.W.kitOne K (.type "int") (.type "tuple") = some false := rfl
theorem kit_il {K : PySem.W.Frag} : PySem.W.kitOne K (.type "int") (.type "list") = some false := rfl
theorem kit_is {K : PySem.W.Frag} : PySem.W.kitOne K (.type "int") (.type "str") = some false := rfl
theorem kit_ib {K : PySem.W.Frag} : PySem.W.kitOne K (.type "int") (.type "bool") = some false := rfl
theorem kit_id {K : PySem.W.Frag} : PySem.W.kitOne K (.type "int") (.type "dict") = some false := rfl
theorem kit_ni {K : PySem.W.Frag} : PySem.W.kitOne K (.type "NoneType") (.type "int") = some false := rfl
theorem kit_nt {K : PySem.W.Frag} : PySem.W.kitOne K (.type "NoneType") (.type "tuple") = some false := rfl
theorem kit_nl {K : PySem.W.Frag} : PySem.W.kitOne K (.type "NoneType") (.type "list") = some false := rfl
theorem kit_ns {K : PySem.W.Frag} : PySem.W.kitOne K (.type "NoneType") (.type "str") = some false := rfl
theorem kit_nb {K : PySem.W.Frag} : PySem.W.kitOne K (.type "NoneType") (.type "bool") = some false := rfl
theorem kit_nd {K : PySem.W.Frag} : PySem.W.kitOne K (.type "NoneType") (.type "dict") = some false := rfl
theorem kit_ti {K : PySem.W.Frag} : PySem.W.kitOne K (.type "tuple") (.type "int") = some false := rfl
theorem kit_tt {K : PySem.W.Frag} : PySem.W.kitOne K (.type "tuple") (.type "tuple") = some true := rfl
theorem kit_tl {K : PySem.W.Frag} : PySem.W.kitOne K (.type "tuple") (.type "list") = some false := rfl
theorem kit_ts {K : PySem.W.Frag} : PySem.W.kitOne K (.type "tuple") (.type "str") = some false := rfl
theorem kit_tb {K : PySem.W.Frag} : PySem.W.kitOne K (.type "tuple") (.type "bool") = some false := rfl
theorem kit_td {K : PySem.W.Frag} : PySem.W.kitOne K (.type "tuple") (.type "dict") = some false := rfl
theorem kit_li {K : PySem.W.Frag} : PySem.W.kitOne K (.type "list") (.type "int") = some false := rfl
theorem kit_lt {K : PySem.W.Frag} : PySem.W.kitOne K (.type "list") (.type "tuple") = some false := rfl
theorem kit_ll {K : PySem.W.Frag} : PySem.W.kitOne K (.type "list") (.type "list") = some true := rfl
theorem kit_ls {K : PySem.W.Frag} : PySem.W.kitOne K (.type "list") (.type "str") = some false := rfl
theorem kit_lb {K : PySem.W.Frag} : PySem.W.kitOne K (.type "list") (.type "bool") = some false := rfl
theorem kit_ld {K : PySem.W.Frag} : PySem.W.kitOne K (.type "list") (.type "dict") = some false := rfl
theorem kit_si {K : PySem.W.Frag} : PySem.W.kitOne K (.type "str") (.type "int") = some false := rfl
theorem kit_st {K : PySem.W.Frag} : PySem.W.kitOne K (.type "str") (.type "tuple") = some false := rfl
theorem kit_sl {K : PySem.W.Frag} : PySem.W.kitOne K (.type "str") (.type "list") = some false := rfl
theorem kit_ss {K : PySem.W.Frag} : PySem.W.kitOne K (.type "str") (.type "str") = some true := rfl
theorem kit_sb {K : PySem.W.Frag} : PySem.W.kitOne K (.type "str") (.type "bool") = some false := rfl
theorem kit_sd {K : PySem.W.Frag} : PySem.W.kitOne K (.type "str") (.type "dict") = some false := rfl
theorem kit_bi {K : PySem.W.Frag} : PySem.W.kitOne K (.type "bool") (.type "int") = some true := rfl
theorem kit_bt {K : PySem.W.Frag} : PySem.W.kitOne K (.type "bool") (.type "tuple") = some false := rfl
theorem kit_bl {K : PySem.W.Frag} : PySem.W.kitOne K (.type "bool") (.type "list") = some false := rfl
theorem kit_bs {K : PySem.W.Frag} : PySem.W.kitOne K (.type "bool") (.type "str") = some false := rfl
theorem kit_bb {K : PySem.W.Frag} : PySem.W.kitOne K (.type "bool") (.type "bool") = some true := rfl
theorem kit_bd {K : PySem.W.Frag} : PySem.W.kitOne K (.type "bool") (.type "dict") = some false := rfl
theorem kit_di {K : PySem.W.Frag} : PySem.W.kitOne K (.type "dict") (.type "int") = some false := rfl
theorem kit_dt {K : PySem.W.Frag} : PySem.W.kitOne K (.type "dict") (.type "tuple") = some false := rfl
theorem kit_dl {K : PySem.W.Frag} : PySem.W.kitOne K (.type "dict") (.type "list") = some false := rfl
theorem kit_ds {K : PySem.W.Frag} : PySem.W.kitOne K (.type "dict") (.type "str") = some false := rfl
theorem kit_db {K : PySem.W.Frag} : PySem.W.kitOne K (.type "dict") (.type "bool") = some false := rfl
theorem kit_dd {K : PySem.W.Frag} : PySem.W.kitOne K (.type "dict") (.type "dict") = some true := rfl
/-! ### arguments without a star, for any frame -/
def notStar : Expr → Bool
  | .Starred _ _ => false
  | _ => true
theorem star_of {e : Expr} {es : List Expr} {env : Env} (h : notStar e = true) : starEach (e :: es) env = (false, eval e env) :: starEach es env := by
  cases e with
  | Starred v q => exact absurd (show false = true from h) Bool.false_ne_true
  | _ => rfl
theorem star_all {pos : Pos} {env : Env} : ∀ {es : List Expr}, es.all notStar = true → (backTo pos (starEach es env)).any (·.1) = false
  | [], _ => rfl
  | e :: es, h => by
    rw [List.all_cons, Bool.and_eq_true] at h
    rw [star_of h.1]
    show (false || (backTo pos (starEach es env)).any (·.1)) = false
    rw [star_all h.2]
    rfl
section
variable {X : Cx} {e : Expr} {es : List Expr} {te : TE} {t : TA} {x : Str} {p pos : Pos} {id T : String} {r : List V → Hp → VK → Prop}
theorem pa_c (ha : PE X e te) (hr : PA X es t) (hn : notStar e = true := by rfl) : PA X (e :: es) (tCons te t) := pa_cons ha hr (star_of hn)
theorem pe_cB (hc : CallR X (.builtin id) r) (hg : Gl X x) (hm : X.mg x = none) (hv : bootBuiltins x = some (.builtin id)) (ha : PA X (e :: es) t) (hn : x ≠ "__name__" := by decide) (hdb : (x == ("__debug__" : Str)) = false := by decide)
    (hs : (e :: es).all notStar = true := by rfl) : PE X (.Call (.Name x p) (e :: es) [] pos) (tCB r t) :=
  pe_callB hc hg hm hv ha hn hdb (star_of (Bool.and_eq_true_iff.mp hs).1) (star_all (Bool.and_eq_true_iff.mp hs).2)
theorem pe_cTy (hc : CallR X (.type T) r) (hg : Gl X x) (hm : X.mg x = none) (hv : bootBuiltins x = some (.type T)) (ha : PA X (e :: es) t) (hn : x ≠ "__name__" := by decide) (hdb : (x == ("__debug__" : Str)) = false := by decide)
    (hs : (e :: es).all notStar = true := by rfl) : PE X (.Call (.Name x p) (e :: es) [] pos) (tCB r t) :=
  pe_callTy hc hg hm hv ha hn hdb (star_of (Bool.and_eq_true_iff.mp hs).1) (star_all (Bool.and_eq_true_iff.mp hs).2)
end

/-! ### a def by its name -/
structure DefAt (K : PySem.W.Frag) (mg : Str → Option Value) (x : Str) (st : Stmt) (ps : List Str) : Prop where
  ex : ∃ f fd, mg x = some (.ref f) ∧ Fun K x x st f fd ∧ Binds K fd ps []
structure OkD (P : Program) (w : World) (K : PySem.W.Frag) (mg : Str → Option Value) (base : Heap) (n : Nat) (x : Str) (ps : List Str) (sp : Sp) : Prop where
  ex : ∃ f fd, mg x = some (.ref f) ∧ PySem.W.keepIn K (.ref f) = true ∧ Binds K fd ps [] ∧ FnOk P w K mg base CX0 n f fd ps sp
def tDef (sp : Sp) (t : TA) : TE := fun σ H Q => t σ H fun vs H1 => sp vs H1 Q E0
section
variable {P : Program} {w : World} {K : PySem.W.Frag} {mg : Str → Option Value} {base : Heap} {x : Str} {st : Stmt} {N ps : List Str} {k : Nat} {sp : Sp}
theorem DefAt.ok (D : DefAt K mg x st ps) (S : FnScope N ps (defScope st)) (len : ∀ vs H Q E, sp vs H Q E → vs.length = ps.length)
    (hbody : ∀ (f : Addr) (cdv : Value) (A : Around) (outer : List Env) (s : Shared) (H : Hp) (vs : List V) (Q : VK) (E : XK), Room k (A.deeper (envOfC x (defScope st) s.heap.objs.size f cdv)) → sp vs H Q E →
      ∃ t, PSs (cxOf CX0 P w K mg base N x (defScope st) f cdv A outer s H E).nox (defBody st) t ∧ t { nx := fun _ H' => Q .non H', rt := Q } (start N vs) H) : OkD P w K mg base (k + 1) x ps sp := by
  obtain ⟨f, fd, hm, F, hb⟩ := D.ex
  exact ⟨f, fd, hm, F.kp, hb, F.ok S len (hbody f)⟩
theorem OkD.mono {n m : Nat} (G : OkD P w K mg base n x ps sp) (h : n ≤ m) : OkD P w K mg base m x ps sp := by
  obtain ⟨f, fd, a, b, c, d⟩ := G.ex
  exact ⟨f, fd, a, b, c, d.mono h⟩
theorem DefAt.never (D : DefAt K mg x st ps) (n : Nat) (h : ∀ vs H Q E, ¬ sp vs H Q E) : OkD P w K mg base n x ps sp := by
  obtain ⟨f, fd, hm, F, hb⟩ := D.ex
  exact ⟨f, fd, hm, F.kp, hb, ⟨fun vs H Q E q => absurd q (h vs H Q E), fun A outer s H args us vs Q E _ _ _ _ q => absurd q (h vs H Q E)⟩⟩
theorem DefAt.mk' {h : Heap} {f : Addr} {oc : Value} {od an : Option Addr} {osl : Array (Option Value)} {kV doc pm cdv ct : Value} (X : K.In h) (G : h.Ns mainGlobals mg) (a : PySem.W.nsIn K mainGlobals x = some (some (.ref f)))
    (l : K.lookup f = some ⟨oc, od, .func (PySem.W.fnOf x x (defArgs st) (defBody st) (defScope st) .none kV doc pm an cdv ct), osl⟩) (c : PySem.W.codeIn K cdv x = true) (k : PySem.W.keepIn K (.ref f) = true)
    (b : ∀ (kV doc pm : Value) (an : Option Addr) (cdv ct : Value) (us : List Value), us.length = ps.length → bindArgs (PySem.W.fnOf x x (defArgs st) (defBody st) (defScope st) .none kV doc pm an cdv ct) ⟨us, []⟩ = pure (ps.zip us)) : DefAt K mg x st ps :=
  have F := fun_mk (st := st) l c k
  ⟨f, _, PySem.W.mg_of X G a, F, F.binds b⟩
end
section
variable {X : Cx} {k n : Nat} {ps : List Str} {sp : Sp} {x : Str} {p pos : Pos} {e : Expr} {es : List Expr} {t : TA}
theorem pe_def (G : OkD X.prog X.w X.K X.mg X.base k x ps sp) (hr : Room n X.A) (hg : Gl X x) (ha : PA X (e :: es) t) (hk : k ≤ n := by omega) (hdb : (x == ("__debug__" : Str)) = false := by decide)
    (hs : (e :: es).all notStar = true := by rfl) : PE X (.Call (.Name x p) (e :: es) [] pos) (tDef sp t) := by
  obtain ⟨f, fd, hm, kp, hb, F⟩ := G.ex
  intro pins s σ H Q I h
  refine pe_call F (hr.mono hk) hg hm kp hb .nil pass0 ha hdb (star_of (Bool.and_eq_true_iff.mp hs).1) (star_all (Bool.and_eq_true_iff.mp hs).2) pins s σ H Q I ?_
  have e : (fun vs H1 => sp (vs ++ []) H1 Q E0) = fun vs H1 => sp vs H1 Q E0 := by funext vs H1; rw [List.append_nil]
  show t σ H fun vs H1 => sp (vs ++ []) H1 Q E0
  rw [e]
  exact h
end
def spLaw (K : PySem.W.Frag) : Sp := fun vs H Q _ => ∃ (a : Addr) (ns : List Int), vs = [.ref a] ∧ SqL K H a (ns.map V.int) ∧ ns.length ≤ 63 ∧ ∀ H', Q (.bl true) H'
end L2

set_option Elab.async false
set_option linter.all false
set_option maxRecDepth 100000
set_option maxHeartbeats 4000000
/-! our own rules: exceptions of own classes, raised, passed on, caught -/
namespace L2
open PySem PySem.Spec PyProof.Rows

structure Fly (h : Heap) (x T : Addr) (cls fl : Value) : Prop where
  ex : ∃ oe vs oT ts, h.get? x = some oe ∧ oe.cls = cls ∧ oe.dict = none ∧ oe.data = .fields vs ∧ vs[1]? = some (.ref T) ∧ T ≠ x ∧ h.get? T = some oT ∧ oT.data = .fields ts ∧ ts[3]? = some fl
def CXr (P : Program) (w : World) : CXT := fun outer H s E e s' => ∃ (x T : Addr) (cls : Value) (H' : Hp), e = .ref x ∧ s'.os = s.os ∧ AllBare s'.gens ∧ Un (frs outer) [] H H' s.heap s'.heap ∧ HOk P w H' s'.heap ∧
  Fly s'.heap x T cls .none ∧ s.heap.get? x = none ∧ s.heap.get? T = none ∧ H' x = none ∧ H' T = none ∧ E cls none H'

structure Kept (x : Addr) (ts fr : List Addr) (h h' : Heap) : Prop where
  keep : ∀ b o, h.get? b = some o → b ≠ x → b ∉ ts → b ∉ fr → h'.get? b = some o
  slot : ∀ b o, h.get? b = some o → b ≠ x → b ∉ ts → ∃ sl, h'.get? b = some { o with slots := sl }
theorem dict_mapFields (o : Obj) (f : Array Value → Array Value) : (o.mapFields f).dict = o.dict := by
  cases o with | mk c d dt sl => cases dt <;> rfl
section
variable {M : Model} {A : Around} {E : Value → Shared → Prop} {s : Shared} {base : Heap} {env : Env} {outer : List Env} {L x : Addr} {oe : Obj} {vs : Array Value} {Q : Unit → Shared → Prop}
theorem entry_exact {head : Value} {had : Bool} (hfr : A.frames = some (env :: outer)) (hl : s.heap.FunFrames base (env :: outer)) (hf : env.frame = some L) (hx : s.heap.get? x = some oe) (hd : oe.data = .fields vs) (hsz : 1 < vs.size) (hdc : oe.dict = none)
    (h : ∀ h' T, Kept x [] (frs (env :: outer)) s.heap h' → s.heap.get? T = none → Fly h' x T oe.cls (rawInt L) → Q () { s with heap := h' }) :
    wpAny M A (do let a ← frameOf env; let pl ← entryPlaceOf L had; let b ← EntryCells.newEntry head a .none (rawInt L) .none pl; setField (.ref x) 1 b) Q E s := by
  have xfr : x ∉ frs (env :: outer) := fun z => by
    obtain ⟨_, o, q, no⟩ := hl.mem z
    exact no vs (by rw [hx] at q; cases q; exact hd)
  refine wpAny_bind (wpAny_frameOf_fun hfr hl hf fun g so => wpAny_bind (wpAny_entryPlaceOf fun pl hpl => ?_))
  unfold EntryCells.newEntry newFields
  refine wpAny_bind (wpAny_newObj_type ?_ (hpl.sizeOk5 _ _ _ _ _))
  have gx : g.get? x = some oe := (so.2.1 x xfr).trans hx
  have gx' := Heap.get?_push_of_some (h := g) { cls := .type "traceback", dict := none, data := .fields ([head, .ref L, .none, rawInt L, .none] ++ (if pl.isEmpty then List.replicate 6 Value.none else pl)).toArray } gx
  have ne : g.objs.size ≠ x := Nat.ne_of_gt (Heap.lt_size gx)
  have nd := Obj.data_mapFields hd (·.setIfInBounds 1 (Value.ref g.objs.size))
  have hT := (Heap.get?_update_other (g.push { cls := .type "traceback", dict := none, data := .fields ([head, .ref L, .none, rawInt L, .none] ++ (if pl.isEmpty then List.replicate 6 Value.none else pl)).toArray }) (Obj.mapFields (·.setIfInBounds 1 (Value.ref g.objs.size))) (Ne.symm ne)).trans (Heap.get?_push_size g rfl)
  refine wpAny_setField gx' hd hsz (h _ g.objs.size ⟨fun b o q n1 _ n3 => ?_, fun b o q n1 _ => ?_⟩ (Heap.get?_none_of_le (by rw [so.1]; exact Nat.le_refl _)) ⟨_, _, _, _, Heap.get?_update_self _ gx' (Obj.isFreed_of_fields nd), Obj.cls_mapFields _ _, (dict_mapFields _ _).trans hdc, nd, by simp [hsz], ne, hT, rfl, by simp⟩)
  · rw [Heap.get?_update_other _ _ (Ne.symm n1)]
    exact Heap.get?_push_of_some _ ((so.2.1 b n3).trans q)
  · obtain ⟨sl, r⟩ := so.2.2 b o q
    exact ⟨sl, by rw [Heap.get?_update_other _ _ (Ne.symm n1)]; exact Heap.get?_push_of_some _ r⟩
theorem note_first (hfr : A.frames = some (env :: outer)) (hl : s.heap.FunFrames base (env :: outer)) (hf : env.frame = some L) (hx : s.heap.get? x = some oe) (hd : oe.data = .fields vs) (h1 : vs[1]? = some .none) (hdc : oe.dict = none)
    (h : ∀ h' T, Kept x [] (frs (env :: outer)) s.heap h' → s.heap.get? T = none → Fly h' x T oe.cls (rawInt L) → Q () { s with heap := h' }) : wpAny M A (noteFrame (.ref x) env) Q E s := by
  unfold noteFrame
  simp only [hf]
  refine wpAny_bind (wpAny_field hx hd h1 ?_)
  rw [if_neg (by decide)]
  exact entry_exact hfr hl hf hx hd (Array.getElem?_eq_some_iff.mp h1).1 hdc h
theorem note_next {T : Addr} {cls : Value} (hfr : A.frames = some (env :: outer)) (hl : s.heap.FunFrames base (env :: outer)) (hf : env.frame = some L) (F : Fly s.heap x T cls .none)
    (h : ∀ h' T', Kept x [T] (frs (env :: outer)) s.heap h' → s.heap.get? T' = none → Fly h' x T' cls (rawInt L) → Q () { s with heap := h' }) : wpAny M A (noteFrame (.ref x) env) Q E s := by
  obtain ⟨oe, vs, oT, ts, hx, hc, hdc, hd, h1, ne, hT, hdT, h3⟩ := F.ex
  subst hc
  unfold noteFrame
  simp only [hf]
  refine wpAny_bind (wpAny_field hx hd h1 ?_)
  rw [if_pos (by simp)]
  refine wpAny_bind (wpAny_field hT hdT h3 ?_)
  rw [if_neg (by simp [rawInt])]
  refine wpAny_bind (wpAny_setField hT hdT (Array.getElem?_eq_some_iff.mp h3).1 ?_)
  have ot : ∀ b, b ≠ T → (s.heap.update T (Obj.mapFields (·.setIfInBounds 3 Value.none))).get? b = s.heap.get? b := fun b n => Heap.get?_update_other _ _ (Ne.symm n)
  have Tself := Heap.get?_update_self (Obj.mapFields (·.setIfInBounds 3 Value.none)) hT (Obj.isFreed_of_fields (Obj.data_mapFields hdT _))
  refine entry_exact (base := base) hfr (hl.of_keeps fun b o q no => ⟨o, (ot b fun z => no ts (by rw [z, hT] at q; cases q; exact hdT)).trans q, rfl⟩) hf ((ot x (Ne.symm ne)).trans hx) hd (Array.getElem?_eq_some_iff.mp h1).1 hdc fun h' T' k n f => h h' T' ⟨fun b o q n1 n2 n3 => ?_, fun b o q n1 n2 => ?_⟩ ?_ f
  · exact k.keep b o ((ot b fun z => n2 (by rw [z]; exact List.mem_singleton_self _)).trans q) n1 (by simp) n3
  · exact k.slot b o ((ot b fun z => n2 (by rw [z]; exact List.mem_singleton_self _)).trans q) n1 (by simp)
  · by_cases z : T' = T
    · subst z; rw [Tself] at n; cases n
    · exact (ot T' z).symm.trans n
theorem flight_exact {T : Addr} {cls fl : Value} (F : Fly s.heap x T cls fl) (h : ∀ h', (∀ b, b ≠ T → h'.get? b = s.heap.get? b) → Fly h' x T cls .none → Q () { s with heap := h' }) : wpAny M A (setFlight (.ref x) none) Q E s := by
  obtain ⟨oe, vs, oT, ts, hx, hc, hdc, hd, h1, ne, hT, hdT, h3⟩ := F.ex
  unfold setFlight
  refine wpAny_bind (wpAny_field hx hd h1 ?_)
  rw [if_pos (by simp)]
  have ot : ∀ b, b ≠ T → (s.heap.update T (Obj.mapFields (·.setIfInBounds 3 ((none : Option Addr).elim Value.none fun f => rawInt f)))).get? b = s.heap.get? b := fun b n => Heap.get?_update_other _ _ (Ne.symm n)
  have sz := (Array.getElem?_eq_some_iff.mp h3).1
  exact wpAny_setField hT hdT sz (h _ ot ⟨oe, vs, _, _, (ot x (Ne.symm ne)).trans hx, hc, hdc, hd, h1, ne, Heap.get?_update_self _ hT (Obj.isFreed_of_fields (Obj.data_mapFields hdT _)), Obj.data_mapFields hdT _, by simp [sz]⟩)
end

section
variable {X : Cx} {pins : List (Addr × Obj)} {σ : St} {H1 : Hp} {s1 : Shared}
theorem Inv.tracked (I : Inv X pins σ H1 s1) {b : Addr} {u : HO} (h : H1 b = some u) : ∃ o, s1.heap.get? b = some o := by
  have hb := I.hok.lt h
  have := I.hok b u h
  cases u with
  | lst xs => obtain ⟨_, _, _, _, e⟩ := this; exact ⟨_, e⟩
  | tup xs => obtain ⟨_, _, _, o, e, _⟩ := this; exact ⟨_, e⟩
  | dK kvs => obtain ⟨_, _, _, _, o, _, _, e, _⟩ := this; exact ⟨_, e⟩
  | dT kvs => obtain ⟨_, _, _, _, o, _, _, e, _⟩ := this; exact ⟨_, e⟩
  | set S n => obtain ⟨o, _, _, _, e, _⟩ := this; exact ⟨_, e⟩
  | ins C dx fs => obtain ⟨_, _, _, e, _⟩ := this; exact ⟨_, e⟩
  | own y => exact this
  | xd fs => obtain ⟨_, ⟨_, _, _, e, _⟩, _⟩ := this; exact ⟨_, e⟩
  | rng lo hi => obtain ⟨_, _, _, e⟩ := this; exact ⟨_, e⟩
  | frz ob u => obtain ⟨e, _⟩ := this; exact ⟨_, e⟩
  | tbl ps => exact ⟨_, this⟩
  | met f y => exact ⟨_, this⟩
  | ext φ => obtain ⟨_, e, _⟩ := this; exact e
end

section
variable {P : Program} {w : World} {K : PySem.W.Frag} {mg : Str → Option Value} {base : Heap} {N : List Str} {qual : Str} {scope : Scope} {f : Addr} {cd : Value} {A : Around} {outer : List Env} {s : Shared} {H : Hp} {E : XK}
theorem left_cx {CX : CXT} {pins : List (Addr × Obj)} {σ : St} {H1 : Hp} {s1 : Shared} (I : Inv (cxOf CX P w K mg base N qual scope f cd A outer s H E) pins σ H1 s1) {x T : Addr} {ts : List Addr} {cls : Value} {h' : Heap}
    (hx : s.heap.get? x = none) (hxt : H1 x = none) (hts : ∀ b ∈ ts, s.heap.get? b = none ∧ H1 b = none) (he : E cls none H1) (k : Kept x ts (frs (cxOf CX P w K mg base N qual scope f cd A outer s H E).stack) s1.heap h')
    (hT : s1.heap.get? T = none) (F : Fly h' x T cls .none) : CXr P w outer H s E (.ref x) { s1 with heap := h' } := by
  have Lf : s.heap.objs.size ≤ (envOfC qual scope s.heap.objs.size f cd).locals := I.ok.above
  have trk : ∀ b u, H1 b = some u → ∀ o, s1.heap.get? b = some o → h'.get? b = some o := fun b u hb o e => by
    refine k.keep b o e (fun z => (by rw [z, hxt] at hb; cases hb)) (fun z => (by rw [(hts b z).2] at hb; cases hb)) fun z => ?_
    rw [I.stkFree b z] at hb; cases hb
  have old : ∀ b o, s.heap.get? b = some o → b ≠ x ∧ b ∉ ts ∧ (b ∉ frs outer → b ∉ frs (cxOf CX P w K mg base N qual scope f cd A outer s H E).stack) := fun b o e => by
    refine ⟨fun z => (by rw [z, hx] at e; cases e), fun z => (by rw [(hts b z).1] at e; cases e), fun n z => ?_⟩
    rcases List.mem_cons.mp (I.stkSub b z) with q | q
    · have : b < s.heap.objs.size := Heap.lt_size e
      have q' : b = (envOfC qual scope s.heap.objs.size f cd).locals := q
      rw [q'] at this
      exact absurd (Nat.lt_of_lt_of_le this Lf) (Nat.lt_irrefl _)
    · exact n q
  have ub : Un (frs outer) [] H H1 s.heap s1.heap := I.base
  have hTs : s.heap.get? T = none := by
    cases q : s.heap.get? T with
    | none => rfl
    | some o =>
      obtain ⟨o1, r⟩ := ub.there T o q (by simp)
      rw [hT] at r; cases r
  have hTH : H1 T = none := by
    cases q : H1 T with
    | none => rfl
    | some u =>
      obtain ⟨o1, r⟩ := I.tracked q
      rw [hT] at r; cases r
  refine ⟨x, T, cls, H1, rfl, I.os, I.bare, ?_, ?_, F, hx, hTs, hxt, hTH, he⟩
  · refine ⟨fun b o e n1 n2 n3 => ?_, fun b o e n1 n2 n3 => ?_, ub.free, fun b o e n3 => ?_, ub.tups, ub.frzs, ub.tbls⟩
    · obtain ⟨m1, m2, m3⟩ := old b o e
      exact k.keep b o (ub.keep b o e n1 n2 n3) m1 m2 (m3 n2)
    · obtain ⟨sl, q⟩ := ub.slot b o e n1 n2 n3
      obtain ⟨m1, m2, _⟩ := old b o e
      obtain ⟨sl', r⟩ := k.slot b _ q m1 m2
      exact ⟨sl', r⟩
    · obtain ⟨o1, r⟩ := ub.there b o e n3
      obtain ⟨m1, m2, _⟩ := old b o e
      obtain ⟨sl, q⟩ := k.slot b o1 r m1 m2
      exact ⟨_, q⟩
  · intro a o q
    refine (I.hok a o q).stay (fun b u hb r => ?_) (fun _ z => z) fun _ _ z => z
    rcases hb with rfl | hb
    · exact trk b o q u r
    · exact trk b _ hb u r
theorem Kept.flew {x T : Addr} {ts fr : List Addr} {h h' h'' : Heap} (k : Kept x ts fr h h') (hT : h.get? T = none) (o : ∀ b, b ≠ T → h''.get? b = h'.get? b) : Kept x ts fr h h'' :=
  have n : ∀ b o, h.get? b = some o → b ≠ T := fun b o q z => by rw [z, hT] at q; cases q
  ⟨fun b u q n1 n2 n3 => (o b (n b u q)).trans (k.keep b u q n1 n2 n3), fun b u q n1 n2 => let ⟨sl, r⟩ := k.slot b u q n1 n2; ⟨sl, (o b (n b u q)).trans r⟩⟩
theorem Inv.raised {X : Cx} {pins : List (Addr × Obj)} {σ : St} {H1 H' : Hp} {s1 s' : Shared} (I : Inv X pins σ H1 s1) (os : s'.os = s1.os) (bare : AllBare s'.gens) (un : Un (frs X.stack) [] H1 H' s1.heap s'.heap) (hok : HOk X.prog X.w H' s'.heap) : Inv X pins σ H' s' := by
  obtain ⟨hh, g, d, t, os'⟩ := s'
  obtain rfl : os' = s1.os := os
  exact I.call (h' := hh) (g' := g) (d' := d) (t' := t) (ch := []) un hok bare (fun b z => absurd z (by simp))
theorem passR : Passes (CXr P w) (cxOf (CXr P w) P w K mg base N qual scope f cd A outer s H E) E := by
  intro pins σ H1 s1 e s' I h
  obtain ⟨x, T, cls, H', rfl, os, bare, un, hok, F, hx, hT, hxH, hTH, he⟩ := h
  have I' := I.raised os bare un hok
  have fresh : ∀ b, s1.heap.get? b = none → s.heap.get? b = none := fun b hb => by
    cases q : s.heap.get? b with
    | none => rfl
    | some o =>
      obtain ⟨o1, r⟩ := I.base.there b o q (by simp [cxOf])
      rw [hb] at r; cases r
  show wpAny (model P w) (A.deeper (envOfC qual scope s.heap.objs.size f cd)) (leaving (envOfC qual scope s.heap.objs.size f cd) (.ref x)) _ _ s'
  unfold leaving
  refine wpAny_bind (note_next (base := base) I'.ok.frames I'.stack rfl F fun h' T' k n f' => ?_)
  refine flight_exact f' fun h'' o f'' => ?_
  exact left_cx I' (ts := [T]) (fresh x hx) hxH (fun b hb => by cases List.mem_singleton.mp hb; exact ⟨fresh T hT, hTH⟩) he (k.flew n o) n f''
theorem raiseR {pins : List (Addr × Obj)} {σ : St} {H1 : Hp} {s1 : Shared} (I : Inv (cxOf (CXr P w) P w K mg base N qual scope f cd A outer s H E) pins σ H1 s1) {x : Addr} {cls : Value} {us : List Value} {h1 : Heap} (hm : Heap.MadeExcOf s1.heap h1 x cls us) (he : E cls none H1) :
    (cxOf (CXr P w) P w K mg base N qual scope f cd A outer s H E).xe (.ref x) { s1 with heap := h1 } := by
  have I' : Inv (cxOf (CXr P w) P w K mg base N qual scope f cd A outer s H E) pins σ H1 { s1 with heap := h1 } := I.kept (t' := s1.toks) hm.keeps
  have fresh : s.heap.get? x = none := by
    cases q : s.heap.get? x with
    | none => rfl
    | some o =>
      obtain ⟨o1, r⟩ := I.base.there x o q (by simp [cxOf])
      rw [hm.new] at r; cases r
  have hxH : H1 x = none := by
    cases q : H1 x with
    | none => rfl
    | some u =>
      obtain ⟨o1, r⟩ := I.tracked q
      rw [hm.new] at r; cases r
  obtain ⟨t, ht, _, _⟩ := hm.there
  show wpAny (model P w) (A.deeper (envOfC qual scope s.heap.objs.size f cd)) (leaving (envOfC qual scope s.heap.objs.size f cd) (.ref x)) _ _ { s1 with heap := h1 }
  unfold leaving
  refine wpAny_bind (note_first (base := base) I'.ok.frames I'.stack rfl ht rfl rfl rfl fun h' T' k n f' => ?_)
  refine flight_exact f' fun h'' o f'' => ?_
  exact left_cx I' (ts := []) fresh hxH (fun b hb => by cases hb) he (k.flew n o) n f''
end
/-! ### own classes of ValueError's line -/
def veM : List Value := [.type "ValueError", .type "Exception", .type "BaseException", .type "object"]
structure ExcAt (K : PySem.W.Frag) (mg : Str → Option Value) (x : Str) (C : Addr) : Prop where
  gl : mg x = some (.ref C)
  ok : PySem.W.excIn K C veM "ValueError.__new__" = true
theorem exc_obj {K : PySem.W.Frag} {h : Heap} {C : Addr} {bmB : List Value} {newId : String} (kin : K.In h) (ok : PySem.W.excIn K C bmB newId = true) :
    ∃ (tl : List Value) (N : Addr) (nm qn : Str) (bs : List Value) (hd : Bool) (sn : List Str) (sub : List Value) (ab : Bool) (col : Option Bool) (dd : Option Addr) (k0 k1 k2 k3 k5 : Option Value) (mN : Str → Option Value),
      h.get? C = some (excClassObj nm qn C N bs tl hd sn sub ab col dd k0 k1 k2 k3 k5 newId) ∧ h.Ns N mN ∧ mN "__init__" = none ∧ OwnTail h bmB tl := by
  unfold PySem.W.excIn at ok
  split at ok
  next dd cd sl lk =>
    split at ok
    next C1 tl k0 k1 k2 k3 nn k5 em es =>
      have parts : ((((C1 = C ∧ nn = newId) ∧ cd.hasDel = false) ∧ PySem.W.tailIn K bmB tl = true) ∧ PySem.W.nsOkIn K cd.ns = true) ∧ PySem.W.nsIn K cd.ns "__init__" = some none := by
        simpa only [Bool.and_eq_true, beq_iff_eq, Bool.not_eq_true'] using ok
      obtain ⟨⟨⟨⟨⟨p1, p2⟩, p3⟩, p4⟩, p5⟩, p6⟩ := parts
      subst p1 p2
      cases cd
      simp only at em p3 p5 p6
      subst em p3
      have : sl = #[k0, k1, k2, k3, some (.builtin nn), k5] := by
        cases sl
        simp only at es
        rw [es]
      subst this
      exact ⟨tl, _, _, _, _, _, _, _, _, _, dd, k0, k1, k2, k3, k5, _, kin _ _ lk, Heap.Ns.of_isNs (PySem.W.isNs_of_in kin p5), PySem.W.nsMap_none_of_in kin p5 p6, PySem.W.tail_of_in kin p4⟩
    next => cases ok
  next => cases ok
def Raises (X : Cx) (E : XK) : Prop := ∀ (pins : List (Addr × Obj)) (σ : St) (H : Hp) (s : Shared) (x : Addr) (cls : Value) (us : List Value) (h1 : Heap), Inv X pins σ H s → Heap.MadeExcOf s.heap h1 x cls us → E cls none H → X.xe (.ref x) { s with heap := h1 }
def tRaise (C : Addr) (t : TA) (E : XK) : TS := fun _ σ H => t σ H fun vs H1 => vs.length ≤ sizeLine ∧ E (.ref C) none H1
section
variable {X : Cx} {E : XK} {x : Str} {C : Addr} {np cpos pos : Pos} {e : Expr} {es : List Expr} {t : TA}
theorem ps_raise (hx : Raises X E) (hc : X.calm = true) (O : ExcAt X.K X.mg x C) (hg : Gl X x) (ha : PA X (e :: es) t) (hdb : (x == ("__debug__" : Str)) = false := by decide) (hs : (e :: es).all notStar = true := by rfl) :
    PS X (.Raise (some (.Call (.Name x np) (e :: es) [] cpos)) none pos) (tRaise C t E) := by
  intro pins s σ H D I h
  obtain ⟨tl, N, nm, qn, bs, hd, sn, sub, ab, col, dd, k0, k1, k2, k3, k5, mN, hC, hN, hni, T⟩ := exc_obj I.mod.kin O.ok
  have h1 := star_of (es := es) (env := X.env) (Bool.and_eq_true_iff.mp hs).1
  refine wpAny_Raise_call_subU (C := C) (nm := nm) (q := qn) (N := N) (bs := bs) (bm := tl) (hdct := hd) (sn := sn) (sub := sub) (ab := ab) (col := col) (dd := dd) (k0 := k0) (k1 := k1) (k2 := k2) (k3 := k3) (k5 := k5)
    PySem.F.excBase_ValueError (by decide +kernel) PySem.F.excBase_ValueError (mN := mN) (T.hasType (by decide +kernel)) (I.ok.hd hc) (star_all hs) hni (ld_glob I hg O.gl ⟨rfl, ?_⟩ hdb)
  have hA := ha cpos pins s σ H _ I h
  rw [h1] at hA ⊢
  refine Calls.evalArgs_plain (thn hA fun us s2 ⟨vs, H2, I2, r, z, q⟩ => ⟨rfl, by show us.length ≤ sizeLine; rw [← r.length]; exact z, I2.bk _ _ hC, hN.keeps I2.bk, T.keeps I2.bk, fun h' x' hm => hx pins σ H2 s2 x' _ us h' I2 hm q⟩)
end
section
variable {P : Program} {w : World} {K : PySem.W.Frag} {mg : Str → Option Value} {base : Heap} {N : List Str} {qual : Str} {scope : Scope} {f : Addr} {cd : Value} {A : Around} {outer : List Env} {s : Shared} {H : Hp} {E : XK}
theorem raises_def : Raises (cxOf (CXr P w) P w K mg base N qual scope f cd A outer s H E) E := fun _ _ _ _ _ _ _ _ I hm he => raiseR I hm he
theorem owns_def : PassesOwn (model P w) (cxOf (CXr P w) P w K mg base N qual scope f cd A outer s H E).A (cxOf (CXr P w) P w K mg base N qual scope f cd A outer s H E).env (cxOf (CXr P w) P w K mg base N qual scope f cd A outer s H E).xe := PassesOwn.leaving
end

/-! ### a def that may raise, by its name -/
structure OkR (P : Program) (w : World) (K : PySem.W.Frag) (mg : Str → Option Value) (base : Heap) (n : Nat) (x : Str) (ps : List Str) (sp : Sp) : Prop where
  ex : ∃ f fd, mg x = some (.ref f) ∧ PySem.W.keepIn K (.ref f) = true ∧ Binds K fd ps [] ∧ FnOk P w K mg base (CXr P w) n f fd ps sp
def tDefR (sp : Sp) (E : XK) (t : TA) : TE := fun σ H Q => t σ H fun vs H1 => sp vs H1 Q E
section
variable {P : Program} {w : World} {K : PySem.W.Frag} {mg : Str → Option Value} {base : Heap} {x : Str} {st : Stmt} {N ps : List Str} {k : Nat} {sp : Sp}
theorem OkD.toR {n : Nat} (G : OkD P w K mg base n x ps sp) : OkR P w K mg base n x ps sp := by
  obtain ⟨f, fd, a, b, c, d⟩ := G.ex
  refine ⟨f, fd, a, b, c, d.len, fun A outer s H args us vs Q E hr he hb hv hs => ?_⟩
  refine codeAny_mono (d.run A outer s H args us vs Q E hr he hb hv hs) fun r s' h => ?_
  cases r with
  | error e => exact False.elim h
  | ok fl => cases fl <;> exact h
theorem OkR.mono {n m : Nat} (G : OkR P w K mg base n x ps sp) (h : n ≤ m) : OkR P w K mg base m x ps sp := by
  obtain ⟨f, fd, a, b, c, d⟩ := G.ex
  exact ⟨f, fd, a, b, c, d.mono h⟩
theorem DefAt.okR (D : DefAt K mg x st ps) (S : FnScope N ps (defScope st)) (len : ∀ vs H Q E, sp vs H Q E → vs.length = ps.length)
    (hbody : ∀ (f : Addr) (cdv : Value) (A : Around) (outer : List Env) (s : Shared) (H : Hp) (vs : List V) (Q : VK) (E : XK), Room k (A.deeper (envOfC x (defScope st) s.heap.objs.size f cdv)) → sp vs H Q E →
      ∃ t, PSs (cxOf (CXr P w) P w K mg base N x (defScope st) f cdv A outer s H E) (defBody st) t ∧ t { nx := fun _ H' => Q .non H', rt := Q } (start N vs) H) : OkR P w K mg base (k + 1) x ps sp := by
  obtain ⟨f, fd, hm, F, hb⟩ := D.ex
  refine ⟨f, fd, hm, F.kp, hb, ?_⟩
  obtain ⟨oc, od, kV, doc, pm, an, cdv, ct, osl, rfl, lk, hcd⟩ := F.ex
  exact fn_of lk hcd S len fun A outer s H vs Q E hr hsp => hbody f cdv A outer s H vs Q E hr hsp
theorem DefAt.neverR (D : DefAt K mg x st ps) (n : Nat) (h : ∀ vs H Q E, ¬ sp vs H Q E) : OkR P w K mg base n x ps sp := (D.never n h).toR
end
section
variable {X : Cx} {E : XK} {k n : Nat} {ps : List Str} {sp : Sp} {x : Str} {p pos : Pos} {e : Expr} {es : List Expr} {t : TA}
theorem pe_defR (G : OkR X.prog X.w X.K X.mg X.base k x ps sp) (hx : Passes (CXr X.prog X.w) X E) (hr : Room n X.A) (hg : Gl X x) (ha : PA X (e :: es) t) (hk : k ≤ n := by omega) (hdb : (x == ("__debug__" : Str)) = false := by decide)
    (hs : (e :: es).all notStar = true := by rfl) : PE X (.Call (.Name x p) (e :: es) [] pos) (tDefR sp E t) := by
  obtain ⟨f, fd, hm, kp, hb, F⟩ := G.ex
  intro pins s σ H Q I h
  refine pe_call F (hr.mono hk) hg hm kp hb .nil hx ha hdb (star_of (Bool.and_eq_true_iff.mp hs).1) (star_all (Bool.and_eq_true_iff.mp hs).2) pins s σ H Q I ?_
  have e : (fun vs H1 => sp (vs ++ []) H1 Q E) = fun vs H1 => sp vs H1 Q E := by funext vs H1; rw [List.append_nil]
  show t σ H fun vs H1 => sp (vs ++ []) H1 Q E
  rw [e]
  exact h
end

/-! ### caught -/
section
variable {X : Cx} {pins : List (Addr × Obj)} {σ : St} {H : Hp} {s : Shared}
structure Far (X : Cx) (pins : List (Addr × Obj)) (b : Addr) : Prop where
  old : X.s₀.heap.get? b = none
  loc : b ≠ X.env.locals
  cel : ∀ y c, X.env.cells.lookup y = some c → c ≠ b
  pin : ∀ p ∈ X.pn ++ pins, p.1 ≠ b
theorem Inv.far (I : Inv X pins σ H s) {b : Addr} (h : s.heap.get? b = none) (hex : X.ex = []) : Far X pins b where
  old := by
    cases q : X.s₀.heap.get? b with
    | none => rfl
    | some o =>
      obtain ⟨o1, r⟩ := I.base.there b o q (by rw [hex]; simp)
      rw [h] at r; cases r
  loc := fun z => by
    obtain ⟨m, ⟨o, _, _, q, _⟩, _⟩ := I.loc
    rw [← z, h] at q; cases q
  cel := fun y c e z => by
    obtain ⟨v, o, q, _⟩ := I.cell y c e
    rw [z, h] at q; cases q
  pin := fun p hp z => by
    have q := (I.pin p hp).1
    rw [z, h] at q; cases q
end

/-! ### a caught exception as a value -/
def ExcIs (x C : Addr) (h : Heap) : Prop := ∃ ox, PySem.W.InstAt h x ox C none
def excO (x C : Addr) : HO := .ext (ExcIs x C)
section
open PySem.W
end
structure PlainX (K : PySem.W.Frag) (C : Addr) : Prop where
  ga : PySem.W.findIn K (.ref C) "__getattribute__" = some (some (.builtin "BaseException.__getattribute__"))
  gt : PySem.W.findIn K (.ref C) "__getattr__" = some none
  mroB : PySem.W.mroIn K C (.type "BaseException") = some true
  cls : (PySem.W.clsIn K C).isSome = true
  fnd : PySem.W.findIn K (.ref C) "__class__" = some (some (.builtin "object.__class__"))
  spc : PySem.W.specialIn K (.builtin "object.__class__") "__get__" = some (some (.builtin "getset_descriptor.__get__"))
  tak : PySem.W.takesIn K (.builtin "object.__class__") = some true
  mro : PySem.W.mroIn K C (.type "object") = some true
def rIsiX (K : PySem.W.Frag) : List V → Hp → VK → Prop := fun xs H Q => ∃ x C c cv b, xs = [.ref x, c] ∧ H x = some (excO x C) ∧ PlainX K C ∧ (c = .ref cv ∧ PySem.W.kitOne K (.ref C) (.ref cv) = some b ∧ Q (.bl b) H)
def rIsiXT (K : PySem.W.Frag) : List V → Hp → VK → Prop := fun xs H Q => ∃ x C T b, xs = [.ref x, .ty T] ∧ H x = some (excO x C) ∧ PlainX K C ∧ PySem.W.kitOne K (.ref C) (.type T) = some b ∧ Q (.bl b) H
/-! ### try: f(..) -/
abbrev TX := St → Hp → VK → XK → Prop
def tCallX (sp : Sp) (t : TA) : TX := fun σ H Q E => t σ H fun vs H1 => sp vs H1 Q E
section
variable {X : Cx} {k n : Nat} {ps : List Str} {sp : Sp} {x : Str} {p pos : Pos} {e : Expr} {es : List Expr} {t : TA}
end
def tTry1 (K : PySem.W.Frag) (B : Addr) (i : Nat) (t : TX) (th : TS) : TS := fun D σ H => t σ H (fun _ H1 => D.nx σ H1) fun cls _ H1 => ∃ C, cls = .ref C ∧ PySem.W.exmOne K (.ref C) (.ref B) = some true ∧
  ∀ x H2, H1 x = none → Same H1 H2 → H2 x = some (excO x C) → th { nx := fun σ' H' => D.nx (σ'.set i none) H', rt := D.rt, bk := fun σ' H' => D.bk (σ'.set i none) H', ct := fun σ' H' => D.ct (σ'.set i none) H' } (σ.set i (some (.ref x))) H2
section
variable {X : Cx} {B : Addr} {i : Nat} {n cx : Str} {e : Expr} {b0 : Stmt} {suite : List Stmt} {ep np hpos pos : Pos} {t : TX} {th : TS}
end
end L2

set_option Elab.async false
set_option linter.all false
set_option maxRecDepth 100000
set_option maxHeartbeats 4000000
/-! our own rules: [elt for x in iter if c], nothing raised inside -/
namespace L2
open PySem PySem.Spec PyProof.Rows
abbrev Cx.comp (X : Cx) (scope : Scope) (cl : List (Str × Addr)) (N : List Str) (C : Addr) (fp : List Addr) (s₀ : Shared) (H₀ : Hp) : Cx :=
  { X with N := N, s₀ := s₀, H₀ := H₀, env := compEnvC scope cl C X.env, outer := X.stack, ex := fp, fn := fun _ => false, pn := [], xe := fun _ _ => False }
structure CompScope (X : Cx) (scope : Scope) (cl : List (Str × Addr)) (N : List Str) (cap : List Nat) : Prop where
  kind : scope.kind = .function
  clos : X.Ok → closureFor scope X.env = pure cl
  ncell : ∀ y ∈ scope.names, y.2 ≠ .cell
  names : ∀ y ∈ scope.names, y.2 = .local → scope.names.lookup y.1 = some .local
  nd : N.Nodup
  has : ∀ y, ((relabel scope X.env).names.lookup y = some .cell ∨ (relabel scope X.env).names.lookup y = some .free) → ∃ c, cl.lookup y = some c
  sub : X.Ok → ∀ y c, cl.lookup y = some c → X.env.cells.lookup y = some c
  len : N.length = cap.length + 1
  cap : ∀ (j i : Nat) (y : Str), N[j + 1]? = some y → cap[j]? = some i → X.N[i]? = some y ∧ Vis X.env.scope y ∧ X.env.kindOf y ≠ some .local ∧ ((relabel scope X.env).names.lookup y = some .cell ∨ (relabel scope X.env).names.lookup y = some .free)
def capOf (σ : St) (cap : List Nat) : St := cap.map fun i => (σ[i]?).join
def tComp (cap : List Nat) (wi : TI) (tc : TT) (te : TE) : TE := fun σ H Q => wi σ H fun J H1 => ∀ D, H1 D = none → ∃ W : Nat → Nat → Hp → Prop, (∃ m, W 0 m (upd H1 D (.lst []))) ∧ ∀ i m H, W i m H →
  (J.stop i H ∧ Q (.ref D) H) ∨ (J.go i H ∧ ∀ x H', J.yld i H x H' → tc (some x :: capOf σ cap) H' fun b H2 => if b = true then te (some x :: capOf σ cap) H2 fun v H3 => ∃ ys, H3 D = some (.lst ys) ∧ ys.length < sizeLine ∧ ∃ m', m' < m ∧ W (i + 1) m' (upd H3 D (.lst (ys ++ [v])))
    else ∃ m', m' < m ∧ W (i + 1) m' H2)
section
variable {X : Cx} {pins : List (Addr × Obj)} {σ : St} {H : Hp} {s : Shared} {scope : Scope} {cl : List (Str × Addr)} {N : List Str} {cap : List Nat}
theorem Inv.enter {fp : List Addr} {h' : Heap} {tk : Nat} (S : CompScope X scope cl N cap) (I : Inv X pins σ H s) (f : ∀ b ∈ fp, FpOk X pins H b ∧ b < s.heap.objs.size) (hn : h'.Ns s.heap.objs.size fun _ => none)
    (k : ∀ b o, s.heap.get? b = some o → h'.get? b = some o) : Inv (X.comp scope cl N s.heap.objs.size fp s H) [] (none :: capOf σ cap) H { s with heap := h', toks := tk } := by
  have nC : ∀ b o, s.heap.get? b = some o → b ≠ s.heap.objs.size := fun b o e => Nat.ne_of_lt (Heap.lt_size e)
  have ok := I.ok
  have cellOut : ∀ y c, cl.lookup y = some c → ∃ v, s.heap.IsCell c v := fun y c e => I.cell y c (S.sub I.ok y c e)
  refine ⟨⟨ok.mod, ?_, ok.glob, ok.blt, Nat.le_refl _, fun x y c a b => ok.inj x y c (S.sub I.ok x c a) (S.sub I.ok y c b), S.has, fun _ _ z => absurd z Bool.false_ne_true, ok.hd, ok.frames, .inl rfl, fun b hb => ⟨Nat.ne_of_lt (f b hb).2, fun y c e => (f b hb).1.2.2.2.2.1 y c (S.sub I.ok y c e)⟩, I.bs, Nat.le_trans ok.bsz I.sz, fun b o e hb => ?_, fun b hb z => ?_, I.stack, I.stkFree⟩,
    rfl, I.bare, Un.kept k, ⟨_, hn, fun i y v a b c => ?_⟩, fun y c e => ?_, I.hok.fresh (Nat.le_refl _), fun y c e => I.freeC y c (S.sub I.ok y c e), fun p hp => by simp at hp, I.hok.kept k, ?_⟩
  · exact S.kind
  · have := (f b hb).1.2.2.2.1
    rcases this with z | z
    · exact ok.noex b o e z
    · have l1 := Heap.lt_size e
      exact absurd (Nat.lt_of_lt_of_le l1 (Nat.le_trans ok.bsz z)) (Nat.lt_irrefl _)
  · rcases List.mem_cons.mp (I.stkSub b z) with q | q
    · exact (f b hb).1.2.1 q
    · exact (f b hb).1.2.2.1 q
  · cases i with
    | zero => simp at b
    | succ j =>
      simp only [List.getElem?_cons_succ] at b
      unfold capOf at b
      rw [List.getElem?_map] at b
      cases e : cap[j]? with
      | none => rw [e] at b; cases b
      | some i =>
        rw [e] at b
        have b : (σ[i]?).join = some v := by simpa using b
        obtain ⟨p1, p2, p3, p4⟩ := S.cap j i y a e
        have b' : σ[i]? = some (some v) := by
          cases q : σ[i]? with
          | none => rw [q] at b; cases b
          | some w => rw [q] at b; exact congrArg some b
        obtain ⟨m, hm, hl⟩ := I.loc
        obtain ⟨u, ru, l⟩ := hl i y v p1 b' p2
        refine ⟨u, ru, .inr ⟨p4, ?_⟩⟩
        rcases l with l | ⟨l, c0, e0, o', q', hd'⟩
        · exact absurd l.1 p3
        · obtain ⟨c, ec⟩ := S.has y p4
          have := S.sub I.ok y c ec
          rw [e0] at this
          cases this
          exact ⟨c0, ec, o', k _ _ q', hd'⟩
  · obtain ⟨v, o, q, hd⟩ := cellOut y c e
    exact ⟨v, o, k _ _ q, hd⟩
  · show (none :: capOf σ cap).length = N.length
    rw [S.len, List.length_cons]
    unfold capOf
    rw [List.length_map]
end

def PTs (X : Cx) (ifs : List Expr) (t : TT) : Prop :=
  ∀ (pins : List (Addr × Obj)) (s : Shared) (σ : St) (H : Hp) (Q : Bool → Hp → Prop), Inv X pins σ H s → t σ H Q →
    wpAny (model X.prog X.w) X.A (forIn ifs true fun c r => if r = true then do let ok ← isTrue c X.env (eval c X.env); pure (ForInStep.yield ok) else pure (ForInStep.yield r)) (TP X pins σ Q) X.xe s
def tYes : TT := fun _ H Q => Q true H
theorem pts_nil {X : Cx} : PTs X [] tYes := fun _ _ _ H _ I h => wpAny_tests_nil ⟨H, I, h⟩
theorem pts_one {X : Cx} {c : Expr} {t : TT} (h : PT X c t) : PTs X [c] t := fun pins s σ H Q I q => wpAny_tests_one (h pins s σ H Q I q)
section
variable {X : Cx} {scope : Scope} {cl : List (Str × Addr)} {N : List Str} {cap : List Nat} {x : Str} {px pos : Pos} {iter elt : Expr} {ifs : List Expr} {wi : TI} {tc : TT} {te : TE}
theorem comp_core {use : Option (Value → Sem Unit)} {Qv : Value → Shared → Prop} {pins : List (Addr × Obj)} {s : Shared} {σ : St} {H : Hp} {Q : VK} {pos' : Pos} (S : CompScope X scope cl N cap) (hc : X.calm = true) (hi : PI X (.Name x px) iter wi) (hx : N[0]? = some x) (hxl : scope.names.lookup x = some .local)
    (ht : ∀ C fp s₀ H₀, PTs (X.comp scope cl N C fp s₀ H₀) ifs tc) (he : ∀ C fp s₀ H₀, PE (X.comp scope cl N C fp s₀ H₀) elt te) (hs : ∀ x, foldedSetIterable iter X.env x = pure x)
    (I : Inv X pins σ H s) (h : tComp cap wi tc te σ H Q)
    (fin : ∀ (D C : Addr) (H6 : Hp) (s6 : Shared) (m : Str → Option Value), Inv X pins σ H6 s6 → FpOk X pins H6 C → s6.heap.Ns C m → Q (.ref D) H6 → compPost (model X.prog X.w) X.A X.xe use Qv (.ref D) C (.ok .next) s6) :
    wpAny (model X.prog X.w) X.A (comprehension (.ListComp elt [⟨.Name x px, iter, ifs, 0⟩] scope pos) scope X.env pos' (newList []) false (eval iter X.env) use) Qv X.xe s := by
  refine wpAny_comprehension_free (use := use) rfl hs (S.clos I.ok) S.kind S.names (thn (hi pins s σ H _ I h) fun v s1 h1 => thn h1 fun itv s2 h2 => ?_)
  obtain ⟨it, fp, tn, J, H2, rfl, I2, T, st2, f2, q⟩ := h2
  obtain ⟨W, ⟨m0, w0⟩, turn⟩ := q s2.heap.objs.size (I2.hok.fresh (Nat.le_refl _))
  have I3 : Inv X pins σ (upd H2 s2.heap.objs.size (.lst [])) { s2 with heap := s2.heap.push { cls := .type "list", dict := none, data := .seq ([] : List Value).toArray } } :=
    I2.laid (t' := s2.toks) (fun b u e => Heap.get?_push_of_some _ e) (Nat.le_refl _) ⟨Nat.zero_le _, [], 0, .nil, Heap.get?_push_size _ rfl⟩
  refine wpAny_newObj_type (wpAny_newFunctionEnv S.ncell (by intro y hy; simp at hy) (fun h4 hns hsb => ?_) S.kind)
  generalize hs3 : ({ s2 with heap := s2.heap.push { cls := .type "list", dict := none, data := .seq ([] : List Value).toArray } } : Shared) = s3 at I3 hns hsb ⊢
  have f3 : ∀ b ∈ fp, FpOk X pins (upd H2 s2.heap.objs.size (.lst [])) b ∧ b < s3.heap.objs.size := fun b hb => by
    obtain ⟨o, ho, _⟩ := T.obj _ _ st2 b hb
    have l1 : b < s2.heap.objs.size := Heap.lt_size ho
    refine ⟨⟨?_, (f2 b hb).2⟩, ?_⟩
    · rw [upd_ne (Nat.ne_of_lt l1)]; exact (f2 b hb).1
    · rw [← hs3, Heap.size_push]; exact Nat.lt_succ_of_lt l1
  have nsN : h4.Ns s3.heap.objs.size fun _ => none := by
    have := hns
    simpa using this
  have keep4 : ∀ b o, s3.heap.get? b = some o → h4.get? b = some o := fun b o e => (hsb.2 b (Nat.ne_of_lt (Heap.lt_size e))).trans (Heap.get?_push_of_some _ e)
  have Ic := I3.enter (tk := s3.toks + ([] : List (Str × Value)).length) S f3 nsN keep4
  have st4 : tn 0 h4 := T.keep _ _ _ st2 fun b hb o e => keep4 b o (by rw [← hs3]; exact Heap.get?_push_of_some _ e)
  have stat : ∀ {H' : Hp}, (∀ b ∈ fp, H' b = none) → ∀ b ∈ fp, FpOk (X.comp scope cl N s3.heap.objs.size fp s3 (upd H2 s2.heap.objs.size (.lst []))) [] H' b := fun hn b hb =>
    ⟨hn b hb, Nat.ne_of_lt (f3 b hb).2, fun z => (List.mem_cons.mp (I3.stkSub b z)).elim (fun q => (f3 b hb).1.2.1 q) fun q => (f3 b hb).1.2.2.1 q, .inl hb, fun y c e => (f3 b hb).1.2.2.2.2.1 y c (S.sub I.ok y c e), fun p hp => by simp at hp⟩
  have out : ∀ {ox : Option V} {H6 : Hp} {s6 : Shared}, Inv (X.comp scope cl N s3.heap.objs.size fp s3 (upd H2 s2.heap.objs.size (.lst []))) [] (ox :: capOf σ cap) H6 s6 → Q (.ref s2.heap.objs.size) H6 →
      compPost (model X.prog X.w) X.A X.xe use Qv (Value.ref s2.heap.objs.size) s3.heap.objs.size (.ok .next) s6 := fun {ox H6 s6} I6 q6 => by
    obtain ⟨m, hm, _⟩ := I6.loc
    have Io : Inv X pins σ H6 s6 := I3.call' I6.os I6.base I6.hok I6.bare fun b hb => ⟨(f3 b hb).1.2.2.2.1, (f3 b hb).1.2.1, (f3 b hb).1.2.2.2.2.1, (f3 b hb).1.2.2.2.2.2⟩
    exact fin _ _ _ _ m Io (I3.fpOk (b := s3.heap.objs.size) (H' := H6) (Nat.le_refl _) I6.free) hm q6
  have loop : codeAny (model X.prog X.w) X.A (.compLoop (.ListComp elt [⟨.Name x px, iter, ifs, 0⟩] scope pos) 0 (.ref it) (.ref s2.heap.objs.size) (compEnvC scope cl s3.heap.objs.size X.env))
      (compPost (model X.prog X.w) X.A X.xe use Qv (Value.ref s2.heap.objs.size) s3.heap.objs.size) { s3 with heap := h4, toks := s3.toks + ([] : List (Str × Value)).length } := by
    refine codeAny_compLoop_tests (fun n s' => ∃ i ox H', Inv (X.comp scope cl N s3.heap.objs.size fp s3 (upd H2 s2.heap.objs.size (.lst []))) [] (ox :: capOf σ cap) H' s' ∧ tn i s'.heap ∧ (∀ b ∈ fp, H' b = none) ∧ W i n H') ?_ m0 ⟨0, none, _, Ic, st4, fun b hb => (f3 b hb).1.1, w0⟩
    rintro n s5 ⟨i, ox, H5, I5, st5, fr5, w5⟩
    rcases turn i n H5 w5 with ⟨stop, qd⟩ | ⟨go, step⟩
    · refine wpAny_mono (T.done (X.comp scope cl N s3.heap.objs.size fp s3 (upd H2 s2.heap.objs.size (.lst []))) rfl rfl rfl hc i [] s5 _ H5 (fun _ _ => False) I5 (stat fr5) st5 stop) (fun r s6 ⟨hr, I6⟩ => ?_) fun _ _ z => z.elim
      subst hr
      exact out I6 qd
    · refine wpAny_mono (T.item (X.comp scope cl N s3.heap.objs.size fp s3 (upd H2 s2.heap.objs.size (.lst []))) rfl rfl rfl hc i [] s5 _ H5 (fun _ _ => False) I5 (stat fr5) st5 go) (fun r s6 ⟨u, hr, h6⟩ => ?_) fun _ _ z => z.elim
      subst hr
      have hgx : PG (X.comp scope cl N s3.heap.objs.size fp s3 (upd H2 s2.heap.objs.size (.lst []))) (.Name x px) (gName 0) := pg_name (i := 0) S.nd hx (.inl (lookup_relabel_local hxl)) (.inr (lookup_relabel_local hxl))
      refine (show wpAny (model X.prog X.w) X.A (letOwnedTupleGo (.Name x px) (.ref it) u >>= fun _ => assign (.Name x px) (compEnvC scope cl s3.heap.objs.size X.env) u) _ _ s6 from wpAny_bind (wpAny_mono h6 (fun _ s7 ⟨v, H7, I7, r7, y7, st7, fr7⟩ => ?_) fun _ _ z => z.elim))
      have I7' := I7.pinned (stat fr7) (T.obj _ _ st7)
      have again : ∀ {v' : V} {H9 : Hp} {s9 : Shared}, Inv (X.comp scope cl N s3.heap.objs.size fp s3 (upd H2 s2.heap.objs.size (.lst []))) ([] ++ pinsAt fp s7.heap) (some v' :: capOf σ cap) H9 s9 → (∃ m', m' < n ∧ W (i + 1) m' H9) →
          ∃ m', m' < n ∧ ∃ i ox H', Inv (X.comp scope cl N s3.heap.objs.size fp s3 (upd H2 s2.heap.objs.size (.lst []))) [] (ox :: capOf σ cap) H' s9 ∧ tn i s9.heap ∧ (∀ b ∈ fp, H' b = none) ∧ W i m' H' := fun {v' H9 s9} I9 ⟨m', lt, w'⟩ => by
        refine ⟨m', lt, i + 1, some v', H9, I9.unpinned, T.keep _ _ _ st7 fun b hb o e => (I9.pin (b, o) (List.mem_append_right _ (List.mem_append_right _ (mem_pinsAt hb e)))).1, fun b hb => ?_, w'⟩
        obtain ⟨o, e, d⟩ := T.obj _ _ st7 b hb
        exact (I9.pin (b, o) (List.mem_append_right _ (List.mem_append_right _ (mem_pinsAt hb e)))).2.1
      refine wpAny_mono (hgx _ s7 (ox :: capOf σ cap) H7 v u (fun σ' H' => σ' = some v :: capOf σ cap ∧ H' = H7) I7' r7 ⟨rfl, rfl⟩) (fun _ s8 ⟨σ8, H8, I8, e8, e8'⟩ => ?_) fun _ _ z => z.elim
      subst e8 e8'
      refine wpAny_mono (ht _ _ _ _ _ s8 _ H8 _ I8 (step v H8 y7)) (fun b s9 ⟨H9, I9, q9⟩ => ?_) fun _ _ z => z.elim
      cases b with
      | false => exact again I9 q9
      | true =>
        refine wpAny_mono (he _ _ _ _ _ s9 _ H9 _ I9 q9) (fun u' s10 ⟨v', H10, I10, r10, ys, hD, hz, q10⟩ => ?_) fun _ _ z => z.elim
        refine wpAny_mono (mt_append (X := X.comp scope cl N s3.heap.objs.size fp s3 (upd H2 s2.heap.objs.size (.lst []))) _ s10 _ H10 (.ref s2.heap.objs.size) [v'] (.ref s2.heap.objs.size) [u'] (fun _ H' => ∃ m', m' < n ∧ W (i + 1) m' H') I10 rfl (.cons r10 .nil) ⟨_, ys, v', rfl, rfl, hD, hz, q10⟩) (fun _ s11 ⟨_, H11, I11, _, q11⟩ => again I11 q11) fun _ _ z => z.elim
  exact codeAny_compStart_list loop (T.self _ 0 _ _ _ st4 loop)
theorem pe_comp (S : CompScope X scope cl N cap) (hc : X.calm = true) (hi : PI X (.Name x px) iter wi) (hx : N[0]? = some x) (hxl : scope.names.lookup x = some .local)
    (ht : ∀ C fp s₀ H₀, PTs (X.comp scope cl N C fp s₀ H₀) ifs tc) (he : ∀ C fp s₀ H₀, PE (X.comp scope cl N C fp s₀ H₀) elt te) (hs : ∀ x, foldedSetIterable iter X.env x = pure x := by intro _; rfl) :
    PE X (.ListComp elt [⟨.Name x px, iter, ifs, 0⟩] scope pos) (tComp cap wi tc te) := by
  intro pins s σ H Q I h
  rw [eval_ListComp]
  refine comp_core S hc hi hx hxl ht he hs I h fun D C H6 s6 m Io Cf hm q6 => ?_
  exact ⟨m, hm, fun h' sb => ⟨.ref D, H6, Io.turned (it := C) (t' := s6.toks) (fun b o n e => (sb.2 b n).trans e) Cf.1 Cf.2.1 Cf.2.2.2.1 Cf.2.2.2.2.1 Cf.2.2.2.2.2, rfl, q6⟩⟩
end
end L2

set_option Elab.async false
set_option linter.all false
set_option maxRecDepth 100000
set_option maxHeartbeats 4000000
/-! our own rules: texts -/
namespace L2
open PySem PySem.Spec PyProof.Rows
def Its (x : Str) : It := ⟨fun i _ => i < x.cps.size, fun i H v H' => H' = H ∧ ∃ c, x.cps[i]? = some c ∧ v = .str ⟨#[c]⟩, fun i _ => x.cps.size ≤ i⟩
theorem turn_ascii {P : Program} {w : World} {K : PySem.W.Frag} {tg : Expr} (x : Str) (t : Tok) (it : Addr) : Turn P w K tg (Its x) [it] it (fun i h => h.IsStrIter it "str_ascii_iterator" x t i) where
  mem := List.mem_singleton_self _
  obj := fun i h st b hb => by
    obtain rfl := List.mem_singleton.mp hb
    obtain ⟨o, e, c, d⟩ := st
    exact ⟨o, e, fun v z => by rw [d] at z; cases z⟩
  keep := fun i h h' ⟨o, e, c, d⟩ k => ⟨o, k it (List.mem_singleton_self _) o e, c, d⟩
  item := by
    intro X hP hw hK hc i pins s σ H E I hf st hg
    subst hP hw hK
    obtain ⟨f0, f1, f2, f3, f4, f5⟩ := hf it (List.mem_singleton_self _)
    have hi : i < x.cps.size := hg
    refine wpAny_pyNext_ascii_item st (c := x.cps[i]) (Array.getElem?_eq_getElem hi) fun h' st' sb => ?_
    have I1 : Inv X pins σ H { s with heap := h', toks := s.toks + 1 } := I.turned (t' := s.toks + 1) (fun b o hb e => (sb.2 b hb).trans e) f0 f1 f3 f4 f5
    obtain ⟨o, e, c, d⟩ := id st'
    exact ⟨_, rfl, go_of (s := { s with heap := h', toks := s.toks + 1 }) e c d (by decide) ⟨.str ⟨#[x.cps[i]]⟩, H, I1, ⟨_, rfl⟩, ⟨rfl, _, Array.getElem?_eq_getElem hi, rfl⟩, st', fun b hb => (hf b hb).1⟩⟩
  done := by
    intro X hP hw hK hc i pins s σ H E I hf st hg
    subst hP hw hK
    obtain ⟨f0, f1, f2, f3, f4, f5⟩ := hf it (List.mem_singleton_self _)
    have hi : x.cps.size ≤ i := hg
    exact wpAny_pyNext_ascii_end (I.ok.hd hc) st (Array.getElem?_eq_none hi) fun h' eb => ⟨rfl, I.turned (t' := s.toks) (fun b o hb e => eb b o hb e) f0 f1 f3 f4 f5⟩
  self := fun _ _ _ _ _ st h => wpAny_pyIter_striter_ascii st h
theorem turn_wide {P : Program} {w : World} {K : PySem.W.Frag} {tg : Expr} (x : Str) (t : Tok) (it : Addr) : Turn P w K tg (Its x) [it] it (fun i h => h.IsStrIter it "str_iterator" x t i) where
  mem := List.mem_singleton_self _
  obj := fun i h st b hb => by
    obtain rfl := List.mem_singleton.mp hb
    obtain ⟨o, e, c, d⟩ := st
    exact ⟨o, e, fun v z => by rw [d] at z; cases z⟩
  keep := fun i h h' ⟨o, e, c, d⟩ k => ⟨o, k it (List.mem_singleton_self _) o e, c, d⟩
  item := by
    intro X hP hw hK hc i pins s σ H E I hf st hg
    subst hP hw hK
    obtain ⟨f0, f1, f2, f3, f4, f5⟩ := hf it (List.mem_singleton_self _)
    have hi : i < x.cps.size := hg
    refine wpAny_pyNext_wide_item st (c := x.cps[i]) (Array.getElem?_eq_getElem hi) fun h' st' sb => ?_
    have I1 : Inv X pins σ H { s with heap := h', toks := s.toks + 1 } := I.turned (t' := s.toks + 1) (fun b o hb e => (sb.2 b hb).trans e) f0 f1 f3 f4 f5
    obtain ⟨o, e, c, d⟩ := id st'
    exact ⟨_, rfl, go_of (s := { s with heap := h', toks := s.toks + 1 }) e c d (by decide) ⟨.str ⟨#[x.cps[i]]⟩, H, I1, ⟨_, rfl⟩, ⟨rfl, _, Array.getElem?_eq_getElem hi, rfl⟩, st', fun b hb => (hf b hb).1⟩⟩
  done := by
    intro X hP hw hK hc i pins s σ H E I hf st hg
    subst hP hw hK
    obtain ⟨f0, f1, f2, f3, f4, f5⟩ := hf it (List.mem_singleton_self _)
    have hi : x.cps.size ≤ i := hg
    exact wpAny_pyNext_wide_end (I.ok.hd hc) st (Array.getElem?_eq_none hi) fun h' eb => ⟨rfl, I.turned (t' := s.toks) (fun b o hb e => eb b o hb e) f0 f1 f3 f4 f5⟩
  self := fun _ _ _ _ _ st h => wpAny_pyIter_striter_wide st h
def iStr (tl : TE) : TI := fun σ H R => tl σ H fun v H1 => ∃ x, v = .str x ∧ R (Its x) H1
theorem pi_str {X : Cx} {tg l : Expr} {tl : TE} (hl : PE X l tl) : PI X tg l (iStr tl) := by
  intro pins s σ H R I h
  refine thn (hl pins s σ H _ I h) fun v s1 ⟨y, H1, I1, r1, x, e, q⟩ => ?_
  subst e
  obtain ⟨t, rfl⟩ := r1
  have new : ∀ {o : Obj}, Inv X pins σ H1 { s1 with heap := s1.heap.push o } := fun {o} => I1.kept (t' := s1.toks) fun b u e => Heap.get?_push_of_some _ e
  have fp : ∀ b ∈ [s1.heap.objs.size], FpOk X pins H1 b := fun b hb => by
    obtain rfl := List.mem_singleton.mp hb
    exact I1.fpOk (Nat.le_refl _) (I1.hok.fresh (Nat.le_refl _))
  cases ha : x.cps.all (· < 128)
  · exact wpAny_pyIter_wide ha ⟨_, _, _, _, H1, rfl, new, turn_wide x t _, ⟨_, Heap.get?_push_size _ rfl, rfl, rfl⟩, fp, q⟩
  · exact wpAny_pyIter_ascii ha ⟨_, _, _, _, H1, rfl, new, turn_ascii x t _, ⟨_, Heap.get?_push_size _ rfl, rfl, rfl⟩, fp, q⟩

/-! ### all([..]) of bools -/
def rAll : List V → Hp → VK → Prop := fun xs H Q => ∃ (p : Addr) (bs : List Bool), xs = [.ref p] ∧ H p = some (.lst (bs.map V.bl)) ∧ Q (.bl (bs.all id)) H
theorem call_all {X : Cx} (hc : X.calm = true) : CallR X (.builtin "all") rAll := by
  intro pins s σ H xs us Q I r h
  obtain ⟨p, bs, rfl, hp, q⟩ := h
  obtain ⟨u, rfl, ru⟩ := vals1 r
  cases ru
  obtain ⟨its, rv, pl, hz⟩ := I.list (SqL.of hp)
  have hlt : p < s.heap.objs.size := I.hok.lt hp
  have item : ∀ (i : Nat) (v : Value), its.toArray[i]? = some v → ∃ b : Bool, bs[i]? = some b ∧ v = Value.bool b := fun i v e => by
    have e' : its[i]? = some v := by simpa using e
    have hi : i < its.length := (List.getElem?_eq_some_iff.mp e').1
    have hi' : i < (bs.map V.bl).length := by rw [rv.length]; exact hi
    obtain ⟨w', e2, rw'⟩ := rv.get (i := i) (x := (bs.map V.bl)[i]) (List.getElem?_eq_getElem hi')
    rw [e'] at e2; cases e2
    rw [List.getElem_map] at rw'
    exact ⟨_, List.getElem?_eq_getElem (by simpa using hi'), rw'⟩
  refine call_all_walk (wpAny_pyIter_list pl.isList ⟨_, _, _, _, _, _, fun i => bs.getD i false, rfl, Walks.list (A := X.A.in1) (show X.A.in1.handled = none from I.ok.hd hc) _ p (Nat.ne_of_lt hlt) its.toArray, ⟨?_, ?_⟩, ?_, fun h' tk k => ?_⟩)
  · exact ⟨_, Heap.get?_push_size _ rfl, rfl, rfl⟩
  · exact pl.isList.at fun o e => Heap.get?_push_of_some _ e
  · intro i v s' Q' E' hv hq
    obtain ⟨b, hb, rfl⟩ := item i v hv
    refine wpAny_truthy_bool ?_
    have e : bs.getD i false = b := by rw [List.getD_eq_getElem?_getD, hb]; rfl
    have hq : Q' (bs.getD i false) s' := hq
    rw [e] at hq
    exact hq
  · have e : (List.range its.toArray.size).all (fun i => bs.getD i false) = bs.all id := by
      have l : its.toArray.size = bs.length := by
        have := rv.length
        simp at this
        simp [this]
      rw [l]
      clear q hp rv item
      rw [Bool.eq_iff_iff]
      simp only [List.all_eq_true, List.mem_range, id]
      constructor
      · intro a b hb
        obtain ⟨i, hi, rfl⟩ := List.getElem_of_mem hb
        have := a i hi
        rw [List.getD_eq_getElem?_getD, List.getElem?_eq_getElem hi] at this
        exact this
      · intro a i hi
        rw [List.getD_eq_getElem?_getD, List.getElem?_eq_getElem hi]
        exact a _ (List.getElem_mem hi)
    rw [e]
    exact ⟨.bl _, H, I.kept (t' := tk) fun b o z => k b o (fun m => absurd (Heap.lt_size z) (by rw [List.mem_singleton.mp m]; exact Nat.lt_irrefl _)) (Heap.get?_push_of_some _ z), rfl, q⟩
/-! ### int(text) -/
theorem call_int_str {X : Cx} : CallR X (.type "int") (fun xs H Q => ∃ x n, xs = [.str x] ∧ PySem.intText? x = some n ∧ x.length ≤ 640 ∧ Q (.int n) H) := by
  intro pins s σ H xs us Q I r h
  obtain ⟨x, n, rfl, hn, hl, q⟩ := h
  obtain ⟨u, rfl, ru⟩ := vals1 r
  obtain ⟨t, rfl⟩ := ru
  exact PySem.W.KIN.call_text hn hl ⟨.int n, H, I.tok _, ⟨_, rfl⟩, q⟩

/-! ### a comprehension that only reads: what it gives -/
structure Over (J : It) (xs : List V) (ok : Hp → Prop) : Prop where
  go : ∀ i H, ok H → i < xs.length → J.go i H
  stop : ∀ i H, ok H → xs.length ≤ i → J.stop i H
  yld : ∀ i H x H', ok H → i < xs.length → J.yld i H x H' → H' = H ∧ xs[i]? = some x
theorem over_str (x : Str) : Over (Its x) (x.cps.toList.map fun c => V.str ⟨#[c]⟩) (fun _ => True) where
  go := fun i H _ h => (show i < x.cps.size by simpa using h)
  stop := fun i H _ h => (show x.cps.size ≤ i by simpa using h)
  yld := fun i H v H' _ h y => by
    obtain ⟨e, c, hc, rfl⟩ := y
    refine ⟨e, ?_⟩
    rw [List.getElem?_map]
    have : x.cps.toList[i]? = some c := by simpa using hc
    rw [this]; rfl
theorem over_list {K : PySem.W.Frag} {a : Addr} {xs : List V} : Over (Itl K a) xs (fun H => H a = some (.lst xs)) where
  go := fun i H e h => ⟨xs, xs[i], SqL.of e, List.getElem?_eq_getElem h⟩
  stop := fun i H e h => ⟨xs, SqL.of e, h⟩
  yld := fun i H v H' e h y => ⟨y.1, y.2 xs (SqL.of e)⟩
theorem comp_pure {J : It} {xs : List V} {ok : Hp → Prop} (O : Over J xs ok) (p : V → Bool) (f : V → V) {tc : TT} {te : TE} {cs : St} {H1 : Hp} {Q : VK} {D : Addr} (hD : H1 D = none) (hok : ∀ ys, ok (upd H1 D (.lst ys))) (sz : xs.length < sizeLine)
    (htc : ∀ x ∈ xs, ∀ H Q, Q (p x) H → tc (some x :: cs) H Q) (hte : ∀ x ∈ xs, p x = true → ∀ H Q, Q (f x) H → te (some x :: cs) H Q)
    (q : ∀ H', Same H1 H' → H' D = some (.lst ((xs.filter p).map f)) → Q (.ref D) H') :
    ∃ W : Nat → Nat → Hp → Prop, (∃ m, W 0 m (upd H1 D (.lst []))) ∧ ∀ i m H, W i m H →
      (J.stop i H ∧ Q (.ref D) H) ∨ (J.go i H ∧ ∀ x H', J.yld i H x H' → tc (some x :: cs) H' fun b H2 => if b = true then te (some x :: cs) H2 fun v H3 => ∃ ys, H3 D = some (.lst ys) ∧ ys.length < sizeLine ∧ ∃ m', m' < m ∧ W (i + 1) m' (upd H3 D (.lst (ys ++ [v])))
        else ∃ m', m' < m ∧ W (i + 1) m' H2) := by
  refine ⟨fun i m H => m = xs.length - i ∧ i ≤ xs.length ∧ H = upd H1 D (.lst (((xs.take i).filter p).map f)), ⟨_, rfl, Nat.zero_le _, by simp⟩, ?_⟩
  rintro i m H ⟨rfl, hi, rfl⟩
  by_cases hlt : i < xs.length
  · refine .inr ⟨O.go i _ (hok _) hlt, fun x H' y => ?_⟩
    obtain ⟨rfl, hx⟩ := O.yld i _ x H' (hok _) hlt y
    have hm := List.mem_of_getElem? hx
    have tk : (xs.take (i + 1)).filter p = (xs.take i).filter p ++ (if p x then [x] else []) := take_succ_filter p xs i x hx
    refine htc x hm _ _ ?_
    cases hp : p x with
    | true =>
      refine iteT (hte x hm hp _ _ ⟨_, upd_same, ?_, xs.length - (i + 1), by omega, rfl, hlt, ?_⟩)
      · rw [List.length_map]
        exact Nat.lt_of_le_of_lt (Nat.le_trans (List.length_filter_le _ _) (List.length_take_le _ _)) (Nat.lt_of_lt_of_le (by omega) (Nat.le_refl _))
      · rw [upd_upd, tk, hp]; simp
    | false =>
      refine iteF ⟨xs.length - (i + 1), by omega, rfl, hlt, ?_⟩
      rw [tk, hp]; simp
  · have e : i = xs.length := by omega
    subst e
    refine .inl ⟨O.stop _ _ (hok _) (Nat.le_refl _), q _ (same_new hD _) ?_⟩
    rw [upd_same, List.take_length]

/-! ### a comprehension that captures nothing -/
theorem lookup_mem {names : List (Str × NameKind)} {y : Str} {k : NameKind} (h : names.lookup y = some k) : (y, k) ∈ names := PySem.mem_of_lookup h
theorem comp_scope0 {X : Cx} {scope : Scope} {x : Str} (hk : scope.kind = .function) (h1 : scope.names.all (fun y => y.2 != .free && y.2 != .cell) = true) (h2 : scope.names.all (fun y => y.2 != .local || scope.names.lookup y.1 == some .local) = true) :
    CompScope X scope [] [x] [] := by
  have nf : ∀ y ∈ scope.names, y.2 ≠ .free ∧ y.2 ≠ .cell := fun y hy => by
    have := List.all_eq_true.mp h1 y hy
    simpa using this
  have rl : (relabel scope X.env).names = scope.names := by
    show scope.names.map _ = _
    refine map_eq_self fun y hy => ?_
    obtain ⟨n, k⟩ := y
    have q : (k == NameKind.free) = false := by
      have := (nf _ hy).1
      simpa using this
    simp [q]
  refine ⟨hk, fun _ => closureFor_none fun y hy => (nf y hy).1, fun y hy => (nf y hy).2, fun y hy e => ?_, List.nodup_cons.mpr ⟨by simp, List.nodup_nil⟩, fun y hy => ?_, fun _ y c e => (by cases e), rfl, fun j i y a b => (by simp at b)⟩
  · have := List.all_eq_true.mp h2 y hy
    simpa [e] using this
  · rw [rl] at hy
    rcases hy with hy | hy
    · exact absurd rfl (nf _ (lookup_mem hy)).2
    · exact absurd rfl (nf _ (lookup_mem hy)).1
/-! ### f-strings of texts and ints -/
def tFmt (te : TE) : TE := fun σ H Q => te σ H fun v H1 => (∃ x, v = .str x ∧ x.length ≤ sizeLine ∧ Q (.str x) H1) ∨ ∃ i : Int, v = .int i ∧ i.natAbs.log2 < 1920 ∧ Q (.str (toString i)) H1
theorem pe_fmt {X : Cx} {e : Expr} {te : TE} {pos : Pos} (he : PE X e te) : PE X (.FormattedValue e (-1) none pos) (tFmt te) := by
  intro pins s σ H Q I h
  refine PySem.wpAny_FormattedValue_plain (thn (he pins s σ H _ I h) fun v s1 ⟨y, H1, I1, r1, q1⟩ => ?_)
  rcases q1 with ⟨x, rfl, hz, q⟩ | ⟨i, rfl, hz, q⟩
  · obtain ⟨t, rfl⟩ := r1
    exact wpAny_formatField_str ⟨.str x, H1, I1, ⟨_, rfl⟩, q⟩ ⟨.str x, H1, I1.tok _, ⟨_, rfl⟩, q⟩ hz
  · obtain ⟨t, rfl⟩ := r1
    exact wpAny_formatField_int hz ⟨.str _, H1, (I1.tok _).tok _, ⟨_, rfl⟩, q⟩
abbrev TJ := Str → St → Hp → (Str → Hp → Prop) → Prop
def PJ (X : Cx) (es : List Expr) (t : TJ) : Prop := ∀ (pins : List (Addr × Obj)) (s : Shared) (σ : St) (H : Hp) (out : Str) (Q : Str → Hp → Prop), Inv X pins σ H s → t out σ H Q →
  wpAny (model X.prog X.w) X.A (joinParts out (evalEach es X.env)) (fun u s' => ∃ x t H', u = .str x t ∧ Inv X pins σ H' s' ∧ Q x H') X.xe s
def jNil : TJ := fun out _ H Q => out.length ≤ sizeLine ∧ Q out H
def jCons (te : TE) (t : TJ) : TJ := fun out σ H Q => te σ H fun v H1 => ∃ x, v = .str x ∧ (out ++ x).length ≤ sizeLine ∧ t (out ++ x) σ H1 Q
theorem pj_nil {X : Cx} : PJ X [] jNil := fun pins s σ H out Q I h => joinParts_nil ⟨out, _, H, rfl, I.tok _, h.2⟩ h.1
theorem pj_cons {X : Cx} {e : Expr} {es : List Expr} {te : TE} {t : TJ} (he : PE X e te) (hr : PJ X es t) : PJ X (e :: es) (jCons te t) := by
  intro pins s σ H out Q I h
  refine joinParts_cons (thn (he pins s σ H _ I h) fun v s1 ⟨y, H1, I1, r1, x, e, hz, q⟩ => ?_)
  subst e
  obtain ⟨t, rfl⟩ := r1
  exact ⟨hz, hr pins s1 σ H1 _ Q I1 q⟩
def tJoin (t : TJ) : TE := fun σ H Q => t Str.empty σ H fun x H1 => Q (.str x) H1
theorem pe_fstr {X : Cx} {e1 e2 : Expr} {es : List Expr} {t : TJ} {pos : Pos} (h : PJ X (e1 :: e2 :: es) t) : PE X (.JoinedStr (e1 :: e2 :: es) pos) (tJoin t) := fun pins s σ H Q I q =>
  JoinedStr_many (thn (h pins s σ H Str.empty _ I q) fun u s' ⟨x, t, H', e, I', q'⟩ => ⟨.str x, H', I', ⟨t, e⟩, q'⟩)
end L2

set_option Elab.async false
set_option linter.all false
set_option maxRecDepth 100000
set_option maxHeartbeats 4000000
/-! our own rules: methods and slices of texts, a module's tuple -/
namespace L2
open PySem PySem.Spec PyProof.Rows
section
variable {X : Cx}
def rStarts : V → List V → Hp → VK → Prop := fun x vs H Q => ∃ a b, x = .str a ∧ vs = [.str b] ∧ Q (.bl (PySem.Txt.startswith a b)) H
theorem mt_startswith : MtR X "str.startswith" rStarts := by
  intro pins s σ H x vs v us Q I rx rv h
  obtain ⟨a, b, rfl, rfl, q⟩ := h
  obtain ⟨t, rfl⟩ := rx
  obtain ⟨u, rfl, ⟨t', rfl⟩⟩ := rv.one
  exact SC.startswith ⟨.bl _, H, I, rfl, q⟩
theorem pe_startswith {o e : Expr} {to te : TE} {apos cpos : Pos} (ho : PE X o to) (he : PE X e te) (hn : notStar e = true := by rfl)
    (hbase : attributeBase o "startswith" X.env (eval o X.env) = eval o X.env := by rfl)
    (hfew : ((backTo cpos (starEach [e] X.env)).all (fun x => !x.1) && (backToKw cpos (keywordEach [] X.env)).all (fun x => x.1.isSome)
      && decide (([e] : List Expr).length + ([] : List Keyword).length + (if ([] : List Keyword).isEmpty then 0 else 1) < 30)) = true := by rfl)
    (hline : (apos.endLine == cpos.line) = true := by rfl) (hs : starEach [e] X.env = (false, eval e X.env) :: starEach [] X.env := by rfl) (hplain : (backTo cpos (starEach [] X.env)).any (·.1) = false := by rfl) :
    PE X (.Call (.Attribute o "startswith" apos) [e] [] cpos) (tBM X.K "str" rStarts to (tCons te tNil)) :=
  pe_bm F.plainAttrs_str F.slot_str_startswith F.type_str_startswith mt_startswith ho (pa_c he pa_nil hn) hbase hfew hline hs hplain
def rMulS : R2 := fun x y H Q => ∃ a n, x = .str a ∧ y = .int n ∧ MulOk a n ∧ Q (.str (PySem.Txt.mul a n)) H
def rSlS : V → Option Int → Option Int → Hp → VK → Prop := fun x lo hi H Q => ∃ a, x = .str a ∧ a.length ≤ sizeLine ∧ Q (.str (PySem.Txt.slice a lo hi)) H
theorem vals_strs : ∀ {ys : List Str} {us : List Value}, Vals (ys.map V.str) us → ∃ l : List (Str × Tok), us = strValues l ∧ l.map (·.1) = ys
  | [], _, .nil => ⟨[], rfl, rfl⟩
  | y :: ys, _, .cons r t => by
    obtain ⟨k, rfl⟩ := r
    obtain ⟨l, rfl, e⟩ := vals_strs t
    exact ⟨(y, k) :: l, rfl, by rw [List.map_cons, e]⟩
def rJoinS : V → List V → Hp → VK → Prop := fun x vs H Q => ∃ a l ys, x = .str a ∧ vs = [.ref l] ∧ H l = some (.lst (ys.map V.str)) ∧ JoinOk a ys = true ∧ Q (.str (PySem.Txt.join a ys)) H
theorem mt_join : MtR X "str.join" rJoinS := by
  intro pins s σ H x vs v us Q I rx rv h
  obtain ⟨a, l, ys, rfl, rfl, hl, hok, q⟩ := h
  obtain ⟨t, rfl⟩ := rx
  obtain ⟨u, rfl, ru⟩ := rv.one
  cases ru
  obtain ⟨z, its, n, r, hlen, e⟩ := I.lstM hl
  obtain ⟨m, rfl, e2⟩ := vals_strs r
  exact SC.join ⟨_, e, rfl, _, rfl⟩ e2 hok fun t' k => ⟨.str _, H, I.tok _, ⟨_, rfl⟩, q⟩
theorem pe_join {o e : Expr} {to te : TE} {apos cpos : Pos} (ho : PE X o to) (he : PE X e te) (hn : notStar e = true := by rfl)
    (hbase : attributeBase o "join" X.env (eval o X.env) = eval o X.env := by rfl)
    (hfew : ((backTo cpos (starEach [e] X.env)).all (fun x => !x.1) && (backToKw cpos (keywordEach [] X.env)).all (fun x => x.1.isSome)
      && decide (([e] : List Expr).length + ([] : List Keyword).length + (if ([] : List Keyword).isEmpty then 0 else 1) < 30)) = true := by rfl)
    (hline : (apos.endLine == cpos.line) = true := by rfl) (hs : starEach [e] X.env = (false, eval e X.env) :: starEach [] X.env := by rfl) (hplain : (backTo cpos (starEach [] X.env)).any (·.1) = false := by rfl) :
    PE X (.Call (.Attribute o "join" apos) [e] [] cpos) (tBM X.K "str" rJoinS to (tCons te tNil)) :=
  pe_bm F.plainAttrs_str F.slot_str_join F.type_str_join mt_join ho (pa_c he pa_nil hn) hbase hfew hline hs hplain
def rInK (K : PySem.W.Frag) (neg : Bool) : R2 := fun x y H Q => ∃ p xs, y = .ref p ∧ (∀ H, SqT K H p xs) ∧ flatV x = true ∧ xs.all flatV = true ∧ Q (.bl (if neg then !inV x xs else inV x xs)) H
theorem op_notInK : OpR X (compareOp .NotIn) (rInK X.K true) := by
  intro pins s σ H x y v u Q I rx ry h
  obtain ⟨p, xs, rfl, hq, fx, fs, q⟩ := h
  exact op_notIn_seq pins s σ H x _ v u Q I rx ry ⟨p, xs, rfl, .inr (hq H), fx, fs, q⟩
end
/-! ### comprehensions that only read, whole -/
def sgn (v : V) : Nat := match v with | .str s => s.cps[0]?.getD 0 | _ => 0
theorem filter_signs (p : Nat → Bool) (f : Nat → V) : ∀ l : List Nat, ((l.map fun c => V.str ⟨#[c]⟩).filter fun v => p (sgn v)).map (fun v => f (sgn v)) = (l.filter p).map f
  | [] => rfl
  | c :: l => by
    have e : sgn (V.str ⟨#[c]⟩) = c := rfl
    rw [List.map_cons, List.filter_cons, List.filter_cons, e]
    cases p c
    · exact filter_signs p f l
    · show f (sgn (V.str ⟨#[c]⟩)) :: _ = f c :: _
      rw [e, filter_signs p f l]
theorem tcomp_str {cap : List Nat} {tl te : TE} {tc : TT} {σ : St} {H : Hp} {Q : VK} (x : Str) (p : Nat → Bool) (f : Nat → V) (htl : ∀ K : VK, K (.str x) H → tl σ H K) (sz : x.length < sizeLine)
    (htc : ∀ c ∈ x.cps.toList, ∀ (H : Hp) (Q : Bool → Hp → Prop), Q (p c) H → tc (some (.str ⟨#[c]⟩) :: capOf σ cap) H Q) (hte : ∀ c ∈ x.cps.toList, p c = true → ∀ (H : Hp) (Q : VK), Q (f c) H → te (some (.str ⟨#[c]⟩) :: capOf σ cap) H Q)
    (q : ∀ D H', H D = none → Same H H' → H' D = some (.lst ((x.cps.toList.filter p).map f)) → Q (.ref D) H') : tComp cap (iStr tl) tc te σ H Q := by
  refine htl _ ⟨x, rfl, fun D hD => ?_⟩
  refine comp_pure (over_str x) (fun v => p (sgn v)) (fun v => f (sgn v)) hD (fun _ => trivial) (by rw [List.length_map]; exact sz) ?_ ?_ ?_
  · intro v hv
    obtain ⟨c, hc, rfl⟩ := List.mem_map.mp hv
    exact htc c hc
  · intro v hv
    obtain ⟨c, hc, rfl⟩ := List.mem_map.mp hv
    exact hte c hc
  · intro H' hS e
    exact q D H' hD hS (by rw [e, filter_signs])
theorem tcomp_list {K : PySem.W.Frag} {cap : List Nat} {tl te : TE} {tc : TT} {σ : St} {H H1 : Hp} {Q : VK} (a : Addr) (xs : List V) (p : V → Bool) (f : V → V) (htl : ∀ R : VK, R (.ref a) H1 → tl σ H R) (ha : H1 a = some (.lst xs)) (sz : xs.length < sizeLine)
    (htc : ∀ v ∈ xs, ∀ (H : Hp) (Q : Bool → Hp → Prop), Q (p v) H → tc (some v :: capOf σ cap) H Q) (hte : ∀ v ∈ xs, p v = true → ∀ (H : Hp) (Q : VK), Q (f v) H → te (some v :: capOf σ cap) H Q)
    (q : ∀ D H', H1 D = none → Same H1 H' → H' D = some (.lst ((xs.filter p).map f)) → Q (.ref D) H') : tComp cap (iList K tl) tc te σ H Q := by
  refine htl _ ⟨a, rfl, ⟨xs, SqL.of ha⟩, fun D hD => ?_⟩
  have hne : a ≠ D := fun e => by rw [e, hD] at ha; cases ha
  refine comp_pure over_list p f hD (fun ys => ?_) sz htc hte fun H' hS e => q D H' hD hS e
  rw [upd_ne hne]; exact ha
/-! ### heap-abstract: + of lists, xs[i] = v -/
def rCatG : R2 := fun x y H Q => ∃ l b xs zs, x = .ref l ∧ y = .ref b ∧ H l = some (.lst xs) ∧ H b = some (.lst zs) ∧ xs.length + zs.length ≤ sizeLine ∧ ∀ p H', H p = none → Same H H' → H' p = some (.lst (xs ++ zs)) → Q (.ref p) H'
theorem op_catG {X : Cx} : OpR X (binaryOp .Add) rCatG := by
  intro pins s σ H x y v u Q I rx ry h
  obtain ⟨l, b, xs, zs, e1, e2, h1, h2, hz, q⟩ := h
  exact op_cat pins s σ H x y v u Q I rx ry ⟨l, b, xs, zs, e1, e2, h1, h2, hz, fresh_any q⟩
def rSetG : V → V → V → Hp → (Hp → Prop) → Prop := fun o i v H Q => ∃ p xs k j, o = .ref p ∧ i = .int k ∧ H p = some (.lst xs) ∧ ixN xs.length k = some j ∧ ∀ H', Mu H p (.lst (xs.set j v)) H' → Q H'
theorem set_listG {X : Cx} : PSet X rSetG := by
  intro pins s σ H o i v ov iv u Q I ro ri rv h
  obtain ⟨p, xs, k, j, e1, e2, h1, h2, q⟩ := h
  exact set_list pins s σ H o i v ov iv u Q I ro ri rv ⟨p, xs, k, j, e1, e2, h1, h2, q _ .mk'⟩
/-! ### a loop over anything whose items are known -/
theorem for_over {J : It} {xs : List V} {ok : Hp → Prop} (O : Over J xs ok) {g : TG} {tb : TS} {D : Ends} {σ : St} {H : Hp} (Pv : Nat → St → Hp → Prop) (h0 : Pv 0 σ H) (hl : ∀ i σ H, i ≤ xs.length → Pv i σ H → ok H)
    (hs : ∀ i x σ H, xs[i]? = some x → Pv i σ H → g x σ H fun σ2 H2 => tb { D with nx := Pv (i + 1), ct := Pv (i + 1), bk := D.nx } σ2 H2) (hd : ∀ σ H, Pv xs.length σ H → D.nx σ H) :
    ∃ W : Nat → Nat → St → Hp → Prop, (∃ m, W 0 m σ H) ∧ ∀ i m σ H, W i m σ H →
      (J.stop i H ∧ D.nx σ H) ∨ (J.go i H ∧ ∃ N : St → Hp → Prop, (∀ σ' H', N σ' H' → ∃ m', m' < m ∧ W (i + 1) m' σ' H') ∧ ∀ x H', J.yld i H x H' → g x σ H' fun σ2 H2 => tb { D with nx := N, ct := N, bk := D.nx } σ2 H2) := by
  refine ⟨fun i m σ H => m = xs.length - i ∧ i ≤ xs.length ∧ Pv i σ H, ⟨xs.length, by simp, Nat.zero_le _, h0⟩, ?_⟩
  rintro i m σ H ⟨rfl, hi, p⟩
  have q := hl i σ H hi p
  by_cases hlt : i < xs.length
  · refine .inr ⟨O.go i H q hlt, Pv (i + 1), fun σ' H' p' => ⟨xs.length - (i + 1), by omega, rfl, hlt, p'⟩, fun x H' y => ?_⟩
    obtain ⟨rfl, hx⟩ := O.yld i H x H' q hlt y
    exact hs i x σ H' hx p
  · have e : i = xs.length := by omega
    subst e
    exact .inl ⟨O.stop _ _ q (Nat.le_refl _), hd σ H p⟩
theorem tfor_str {tl : TE} {g : TG} {tb : TS} {D : Ends} {σ : St} {H : Hp} (x : Str) (htl : ∀ R : VK, R (.str x) H → tl σ H R) (Pv : List Nat → St → Hp → Prop) (h0 : Pv [] σ H)
    (hs : ∀ (l : List Nat) (c : Nat) (r : List Nat) σ H, x.cps.toList = l ++ c :: r → Pv l σ H → g (.str ⟨#[c]⟩) σ H fun σ2 H2 => tb { D with nx := Pv (l ++ [c]), ct := Pv (l ++ [c]), bk := D.nx } σ2 H2)
    (hd : ∀ σ H, Pv x.cps.toList σ H → D.nx σ H) : tFor (iStr tl) g tb D σ H := by
  refine htl _ ⟨x, rfl, for_over (over_str x) (fun i => Pv (x.cps.toList.take i)) h0 (fun _ _ _ _ _ => trivial) (fun i v σ H hx p => ?_) (fun σ H p => hd σ H (by rw [List.length_map, List.take_length] at p; exact p))⟩
  rw [List.getElem?_map] at hx
  cases hc : x.cps.toList[i]? with
  | none => rw [hc] at hx; cases hx
  | some c =>
    rw [hc] at hx
    cases hx
    obtain ⟨hi, rfl⟩ := List.getElem?_eq_some_iff.mp hc
    have e : x.cps.toList.take (i + 1) = x.cps.toList.take i ++ [x.cps.toList[i]] := by rw [List.take_append_getElem]
    rw [e]
    refine hs _ _ (x.cps.toList.drop (i + 1)) σ H ?_ p
    rw [List.getElem_cons_drop, List.take_append_drop]
/-! ### the state behind a statement, named -/
def tMs (t : TS) : TS := fun D σ H => ∃ Z : St → Hp → Prop, t { D with nx := Z } σ H ∧ ∀ σ' H', Z σ' H' → D.nx σ' H'
theorem ps_up {X : Cx} {st : Stmt} {t : TS} (h : PS X st t) : PS X st (tMs t) := by
  intro pins s σ H D I hq
  obtain ⟨Z, h1, h2⟩ := hq
  refine thn (h pins s σ H _ I h1) fun fl s' hs => ?_
  cases fl with
  | next => obtain ⟨σ', H', I', q⟩ := hs; exact ⟨σ', H', I', h2 _ _ q⟩
  | _ => exact hs
end L2

set_option Elab.async false
set_option linter.all false
set_option maxRecDepth 100000
set_option maxHeartbeats 4000000
/-! our own rules: enumerate, comprehensions that capture names -/
namespace L2
open PySem PySem.Spec PyProof.Rows
section
variable {X : Cx} {pins : List (Addr × Obj)} {σ : St} {H : Hp} {s : Shared} {h' : Heap}
end
/-! ### enumerate of a list -/
/-! ### a comprehension's items, by a relation -/
inductive F2 (R : V → V → Prop) : List V → List V → Prop
  | nil : F2 R [] []
  | cons {x v : V} {xs vs : List V} : R x v → F2 R xs vs → F2 R (x :: xs) (v :: vs)
theorem F2.snoc {R : V → V → Prop} {x v : V} : ∀ {xs vs : List V}, F2 R xs vs → R x v → F2 R (xs ++ [x]) (vs ++ [v])
  | _, _, .nil, r => .cons r .nil
  | _, _, .cons a t, r => .cons a (t.snoc r)
theorem F2.length {R : V → V → Prop} : ∀ {xs vs : List V}, F2 R xs vs → vs.length = xs.length
  | _, _, .nil => rfl
  | _, _, .cons _ t => by rw [List.length_cons, List.length_cons, t.length]
theorem F2.all {R : V → V → Prop} {P : V → Prop} (h : ∀ x v, R x v → P v) : ∀ {xs vs : List V}, F2 R xs vs → ∀ v ∈ vs, P v
  | _, _, .nil => fun v hv => absurd hv List.not_mem_nil
  | _, _, .cons a t => fun v hv => (List.mem_cons.mp hv).elim (fun e => e ▸ h _ _ a) (t.all h v)
/-! ### the scope of a comprehension that captures names -/
theorem passX0 {X : Cx} : Passes (CXr X.prog X.w) X E0 := fun _ _ _ _ _ _ _ h => by
  obtain ⟨_, _, _, _, _, _, _, _, _, _, _, _, _, _, z⟩ := h
  exact z.elim
/-! ### str(x) of a text or an int; try .. except C: -/
def tTry0 (K : PySem.W.Frag) (B : Addr) (t : TX) (th : TS) : TS := fun D σ H => t σ H (fun _ H1 => D.nx σ H1) fun cls _ H1 => ∃ C, cls = .ref C ∧ PySem.W.exmOne K (.ref C) (.ref B) = some true ∧ th D σ H1
section
variable {X : Cx} {B : Addr} {cx : Str} {e : Expr} {b0 : Stmt} {suite : List Stmt} {ep np hpos pos : Pos} {t : TX} {th : TS}
end
/-! ### a loop, its iterable read first -/
def ForJ (J : It) (g : TG) (tb : TS) (D : Ends) (σ : St) (H1 : Hp) : Prop := ∃ W : Nat → Nat → St → Hp → Prop, (∃ m, W 0 m σ H1) ∧ ∀ i m σ H, W i m σ H →
  (J.stop i H ∧ D.nx σ H) ∨ (J.go i H ∧ ∃ N : St → Hp → Prop, (∀ σ' H', N σ' H' → ∃ m', m' < m ∧ W (i + 1) m' σ' H') ∧ ∀ x H', J.yld i H x H' → g x σ H' fun σ2 H2 => tb { D with nx := N, ct := N, bk := D.nx } σ2 H2)
theorem tfor_in {wi : TI} {g : TG} {tb : TS} {D : Ends} {σ : St} {H : Hp} (h : wi σ H fun J H1 => ForJ J g tb D σ H1) : tFor wi g tb D σ H := h
end L2

set_option Elab.async false
set_option linter.all false
set_option maxRecDepth 100000
set_option maxHeartbeats 4000000
/-! our own rules: for k in d (d a tracked dict), list.pop, list * int, over the abstract heap -/
namespace L2
open PySem PySem.Spec PyProof.Rows
section
variable {X : Cx} {pins : List (Addr × Obj)} {σ : St} {H : Hp} {s : Shared}
def NoFz (X : Cx) (d : Addr) : Prop := ∀ o u, X.H₀ d ≠ some (.frz o u)
theorem Inv.retag {d : Addr} {u u' : HO} (I : Inv X pins σ H s) (hd : H d = some u) (n1 : ∀ xs, u ≠ .tup xs) (n2 : NoFz X d) (n3 : ∀ ps, u ≠ .tbl ps) (n4 : ∀ x, u ≠ .own x) (new : ObjOk X.prog X.w (upd H d u') s.heap d u') : Inv X pins σ (upd H d u') s := by
  have ne : ∀ {b : Addr}, H b = none → b ≠ d := fun h z => by rw [z, hd] at h; cases h
  have sub : ∀ {b : Addr}, H b = none → upd H d u' b = none := fun {b} h => by rw [upd_ne (ne h)]; exact h
  have bs := I.base
  refine ⟨I.ok, I.os, I.bare, ⟨bs.keep, bs.slot, fun b o e n hx => sub (bs.free b o e n hx), bs.there, fun b xs e => ?_, fun b o v e => ?_, fun b ps e => ?_⟩, I.loc, I.cell, sub I.free, fun x c e => sub (I.freeC x c e), fun p hp => ?_, fun a v e => ?_, I.len⟩
  · have := bs.tups b xs e
    have nb : b ≠ d := fun z => by rw [z, hd] at this; exact n1 xs (Option.some.inj this)
    rw [upd_ne nb]; exact this
  · have nb : b ≠ d := fun z => n2 o v (by rw [← z]; exact e)
    rw [upd_ne nb]; exact bs.frzs b o v e
  · obtain ⟨more, h1⟩ := bs.tbls b ps e
    have nb : b ≠ d := fun z => by rw [z, hd] at h1; exact n3 _ (Option.some.inj h1)
    exact ⟨more, by rw [upd_ne nb]; exact h1⟩
  · obtain ⟨p1, p2, p3, p4, p5⟩ := I.pin p hp
    exact ⟨p1, sub p2, p3, p4, p5⟩
  · by_cases ha : a = d
    · subst ha
      rw [upd_same] at e
      cases e
      exact new
    · rw [upd_ne ha] at e
      refine (I.hok a v e).stay (fun _ _ _ q => q) (fun b q => ?_) fun b xs q => ?_
      · have nb : b ≠ d := fun z => by rw [z, hd] at q; exact n4 _ (Option.some.inj q)
        rw [upd_ne nb]; exact q
      · have nb : b ≠ d := fun z => by rw [z, hd] at q; exact n1 _ (Option.some.inj q)
        rw [upd_ne nb]; exact q
theorem Inv.nofz {d : Addr} {kvs : List (Key × V)} (I : Inv X pins σ H s) (hd : H d = some (.dK kvs)) : NoFz X d := fun o u e => by
  have := I.base.frzs d o u e
  rw [hd] at this; cases this
end
/-! ### for k in d -/
def Itk (d : Addr) (o : Obj) (kvs : List (Key × V)) : It :=
  ⟨fun i H => i < kvs.length ∧ H d = some (.frz o (.dK kvs)), fun i H x H' => H' = H ∧ ∃ k v, kvs[i]? = some (k, v) ∧ x = kV k, fun i H => kvs.length ≤ i ∧ H d = some (.frz o (.dK kvs))⟩
theorem relV_key {k : Key} {v : Value} (h : keyIs k v = true) : RelV (kV k) v := by
  rcases keyIs_shape h with ⟨i, t, rfl, rfl⟩ | ⟨x, t, rfl, rfl⟩
  · exact ⟨t, rfl⟩
  · exact ⟨t, rfl⟩
theorem turn_keys {P : Program} {w : World} {K : PySem.W.Frag} {tg : Expr} (d it : Addr) (o : Obj) (kvs : List (Key × V)) (vs : List (Key × Value)) (ep : Nat) (hne : d ≠ it) (rel : KV kvs vs) (D0 : ∀ h : Heap, h.get? d = some o → h.DictAt (mixKind P w) d vs ep) :
    Turn P w K tg (Itk d o kvs) [it] it (fun i h => h.IsKeyIter it d i vs.length ep) where
  mem := List.mem_singleton_self _
  obj := fun i h st b hb => by
    obtain rfl := List.mem_singleton.mp hb
    obtain ⟨o, e, c, dd⟩ := st
    exact ⟨o, e, fun v z => by rw [dd] at z; cases z⟩
  keep := fun i h h' st k => st.at fun o e => k it (List.mem_singleton_self _) o e
  item := by
    intro X hP hw hK hc i pins s σ H E I hf st hg
    subst hP hw hK
    obtain ⟨hi, hd⟩ := hg
    obtain ⟨f0, f1, f2, f3, f4, f5⟩ := hf it (List.mem_singleton_self _)
    obtain ⟨ho, _⟩ := (show ObjOk X.prog X.w H s.heap d (.frz o (.dK kvs)) from I.hok d _ hd)
    have hl : kvs.length = vs.length := rel.length
    have hx : vs[i]? = some vs[i] := List.getElem?_eq_getElem (by omega)
    have hk : kvs[i].1 = vs[i].1 := by
      have := rel.keys
      have h1 := congrArg (fun l => l[i]?) this
      simp only [List.getElem?_map, List.getElem?_eq_getElem hi, hx, Option.map_some] at h1
      exact Option.some.inj h1
    refine wpAny_pyNext_dict_item (k := vs[i].1) (v := vs[i].2) st (D0 _ ho) hx fun key h' hkey st' sb => ?_
    have I1 : Inv X pins σ H { s with heap := h' } := I.turned (t' := s.toks) (fun b o hb e => (sb.2 b hb).trans e) f0 f1 f3 f4 f5
    obtain ⟨oi, e, c, dd⟩ := id st'
    refine ⟨key, rfl, go_of (s := { s with heap := h' }) e c dd (by decide) ⟨kV kvs[i].1, H, I1, ?_, ⟨rfl, kvs[i].1, kvs[i].2, List.getElem?_eq_getElem hi, rfl⟩, st', fun b hb => (hf b hb).1⟩⟩
    rw [hk]
    exact relV_key hkey
  done := by
    intro X hP hw hK hc i pins s σ H E I hf st hg
    subst hP hw hK
    obtain ⟨hi, hd⟩ := hg
    obtain ⟨f0, f1, f2, f3, f4, f5⟩ := hf it (List.mem_singleton_self _)
    obtain ⟨ho, _⟩ := (show ObjOk X.prog X.w H s.heap d (.frz o (.dK kvs)) from I.hok d _ hd)
    have hl : kvs.length = vs.length := rel.length
    exact wpAny_pyNext_dict_end (I.ok.hd hc) st (D0 _ ho) (List.getElem?_eq_none (by omega)) fun h' eb => ⟨rfl, I.turned (t' := s.toks) (fun b o hb e => eb b o hb e) f0 f1 f3 f4 f5⟩
  self := fun _ _ _ _ _ st h => wpAny_pyIter_keyiter st h
def iKeys (nf : Addr → Prop) (tl : TE) : TI := fun σ H R => tl σ H fun x H1 => ∃ d kvs, x = .ref d ∧ H1 d = some (.dK kvs) ∧ ∀ o, nf d → R (Itk d o kvs) (upd H1 d (.frz o (.dK kvs)))
theorem pi_keys {X : Cx} {tg l : Expr} {tl : TE} (hl : PE X l tl) : PI X tg l (iKeys (NoFz X) tl) := by
  intro pins s σ H R I h
  refine thn (hl pins s σ H _ I h) fun v s1 ⟨x, H1, I1, r1, q1⟩ => ?_
  obtain ⟨d, kvs, e, hd, q⟩ := q1
  subst e
  cases r1
  obtain ⟨z1, z2, vs, rel, o, es, ep, ho, r⟩ := dk_of I1.hok hd
  have D0 : ∀ h : Heap, h.get? d = some o → h.DictAt (mixKind X.prog X.w) d vs ep := fun h e => ⟨o, es, e, r⟩
  have nf := I1.nofz hd
  have If : Inv X pins σ (upd H1 d (.frz o (.dK kvs))) s1 := I1.retag hd (fun _ z => by cases z) nf (fun _ z => by cases z) (fun _ z => by cases z) ⟨ho, z1, z2, vs, rel, o, es, ep, ho, r⟩
  refine wpAny_pyIter_dict z2 (D0 _ ho) ?_
  refine ⟨s1.heap.objs.size, [s1.heap.objs.size], _, _, _, rfl, If.kept (t' := s1.toks) fun b o e => Heap.get?_push_of_some _ e, turn_keys d _ o kvs vs ep (Nat.ne_of_lt (Heap.lt_size ho)) rel D0, ⟨_, Heap.get?_push_size _ rfl, rfl, rfl⟩, fun b hb => ?_, q o nf⟩
  obtain rfl := List.mem_singleton.mp hb
  exact If.fpOk (Nat.le_refl _) (If.hok.fresh (Nat.le_refl _))
def tForK (nf : Addr → Prop) (tl : TE) (g : TG) (tb : TS) : TS := fun D => tFor (iKeys nf tl) g tb { D with nx := fun σ' H' => ∃ d o kvs, nf d ∧ H' d = some (.frz o (.dK kvs)) ∧ D.nx σ' (upd H' d (.dK kvs)) }
theorem ps_forK {X : Cx} {tg iter : Expr} {body : List Stmt} {tl : TE} {g : TG} {tb : TS} {pos : Pos} (hp : PassesOwn (model X.prog X.w) X.A X.env X.xe) (hc : X.calm = true) (hl : PE X iter tl) (hg : PG X tg g) (hb : PSs X body tb)
    (hs : ∀ x, foldedSetIterable iter X.env x = pure x := by intro _; rfl) : PS X (.For tg iter body [] pos) (tForK (NoFz X) tl g tb) := by
  intro pins s σ H D I h
  refine thn (ps_for hp hc (pi_keys hl) hg hb hs pins s σ H _ I h) fun fl s' q => ?_
  cases fl with
  | next =>
    obtain ⟨σ', H', I', d, o, kvs, nf, hd, q⟩ := q
    obtain ⟨_, z⟩ := (show ObjOk X.prog X.w H' s'.heap d (.frz o (.dK kvs)) from I'.hok d _ hd)
    refine ⟨σ', _, I'.retag hd (fun _ z => by cases z) nf (fun _ z => by cases z) (fun _ z => by cases z) ?_, q⟩
    exact z
  | _ => exact q
theorem for_keys {d : Addr} {o : Obj} {kvs : List (Key × V)} {g : TG} {tb : TS} {D : Ends} {σ : St} {H : Hp} (Pv : Nat → St → Hp → Prop) (h0 : Pv 0 σ H) (hl : ∀ i σ H, i ≤ kvs.length → Pv i σ H → H d = some (.frz o (.dK kvs)))
    (hs : ∀ i k v σ H, kvs[i]? = some (k, v) → Pv i σ H → g (kV k) σ H fun σ2 H2 => tb { D with nx := Pv (i + 1), ct := Pv (i + 1), bk := D.nx } σ2 H2) (hd : ∀ σ H, Pv kvs.length σ H → D.nx σ H) : ForJ (Itk d o kvs) g tb D σ H := by
  refine ⟨fun i m σ H => m = kvs.length - i ∧ i ≤ kvs.length ∧ Pv i σ H, ⟨kvs.length, by simp, Nat.zero_le _, h0⟩, ?_⟩
  rintro i m σ H ⟨rfl, hi, p⟩
  have q := hl i σ H hi p
  by_cases hlt : i < kvs.length
  · refine .inr ⟨⟨hlt, q⟩, Pv (i + 1), fun σ' H' p' => ⟨kvs.length - (i + 1), by omega, rfl, hlt, p'⟩, fun x H' y => ?_⟩
    obtain ⟨rfl, k, v, e, rfl⟩ := y
    exact hs i k v σ H' e p
  · have e : i = kvs.length := by omega
    subst e
    exact .inl ⟨⟨Nat.le_refl _, q⟩, hd σ H p⟩
def tDGetR (td ty : TE) : TE := fun σ H Q => td σ H fun x H1 => ty σ H1 fun y H2 => ∃ a kvs k v, x = .ref a ∧ Rd H2 a (.dK kvs) ∧ keyOf y = some k ∧ valV kvs k = some v ∧ Q v H2
theorem pe_dgetR {X : Cx} {o i : Expr} {td ty : TE} {pos : Pos} (hu : X.A.units + 1 < cLine) (ho : PE X o td) (hi : PE X i ty) (hs : NoSl i) : PE X (.Subscript o i pos) (tDGetR td ty) := by
  intro pins s σ H Q I h
  refine subD_of PySem.F.slot_dict_getitem.lookup hs (thn (ho pins s σ H _ I h) fun u s1 ⟨x, H1, I1, rx, q1⟩ => thn (hi pins s1 σ H1 _ I1 q1) fun iv s2 ⟨y, H2, I2, ry, a, kvs, k, v, ex, ha, ek, ev, q2⟩ => ?_)
  subst ex
  obtain rfl : u = Value.ref a := rx
  have g : DGet H2 a y (some v) := by rw [kV_of ek, ← ev]; exact .inl ⟨kvs, k, ha, rfl, rfl⟩
  exact ⟨dict_typeIs I2 g, d_getItem hu I2 g ry fun w' s3 I3 rw' => ⟨v, H2, I3, rw', q2⟩⟩
/-! ### pop, and a list taken n times -/
section
variable {X : Cx}
def rPopG : V → List V → Hp → VK → Prop := fun x vs H Q => ∃ l xs y, x = .ref l ∧ vs = [] ∧ H l = some (.lst (xs ++ [y])) ∧ ∀ H', Mu H l (.lst xs) H' → Q y H'
theorem mt_popG : MtR X "list.pop" rPopG := by
  intro pins s σ H x vs v us Q I rx rv h
  obtain ⟨l, xs, y, e1, e2, hH, q⟩ := h
  refine mt_pop pins s σ H x vs v us Q I rx rv ⟨l, xs ++ [y], y, e1, e2, hH, ?_, ?_⟩
  · rw [List.length_append, List.length_singleton, Nat.add_sub_cancel]
    simp
  · rw [List.dropLast_concat]
    exact q _ .mk'
def rRepG : R2 := fun x y H Q => ∃ l k xs, x = .ref l ∧ y = .int k ∧ H l = some (.lst xs) ∧ -(2 ^ 63) ≤ k ∧ k < 2 ^ 63 ∧ xs.length * k.toNat ≤ sizeLine ∧ ∀ p H', H p = none → Same H H' → H' p = some (.lst (List.replicate k.toNat xs).flatten) → Q (.ref p) H'
theorem op_repG : OpR X (binaryOp .Mult) rRepG := by
  intro pins s σ H x y v u Q I rx ry h
  obtain ⟨l, k, xs, e1, e2, h1, h2, h3, h4, q⟩ := h
  exact op_rep pins s σ H x y v u Q I rx ry ⟨l, k, xs, e1, e2, h1, h2, h3, h4, fresh_any q⟩
end
/-! ### a list unpacked -/
section
variable {prog : Program} {w : World} {A : Around} {E : Value → Shared → Prop} {s : Shared}
theorem draw_list {it t : Addr} {items : Array Value} (hne : t ≠ it) : ∀ (n i : Nat) (s : Shared) (Q : List Value → Shared → Prop), s.heap.IsListIter it t i → s.heap.IsList t items → i + n ≤ items.size →
    (∀ h', h'.IsListIter it t (i + n) → Heap.SameBut it s.heap h' → Q ((items.toList.drop i).take n) { s with heap := h' }) → wpAny (model prog w) A (draw (.ref it) n) Q E s
  | 0, i, s, Q, hit, _, _, hQ => by
    show wpAny _ _ (pure []) Q E s
    exact wpAny_pure (by simpa using hQ s.heap hit (Heap.SameBut.refl ..))
  | n + 1, i, s, Q, hit, ht, hle, hQ => by
    have hlt : i < items.size := by omega
    show wpAny _ _ (pyNext (.ref it) >>= _) Q E s
    refine wpAny_bind (wpAny_pyNext_list_item hit ht (x := items[i]) (by simp [hlt]) fun h₁ hit₁ hs₁ => ?_)
    refine wpAny_bind (wpAny_holding (draw_list hne n (i + 1) _ _ hit₁ (ht.at fun o e => (hs₁.2 t hne).trans e) (by omega) fun h₂ hit₂ hs₂ => wpAny_pure ?_))
    have hd : items.toList.drop i = items[i] :: items.toList.drop (i + 1) := by simp [List.drop_eq_getElem_cons, hlt]
    have := hQ h₂ (by rw [show i + (n + 1) = i + 1 + n by omega]; exact hit₂) (hs₁.trans hs₂)
    rw [hd, List.take_succ_cons] at this
    exact this
theorem unpackItems_list {t : Addr} {items : Array Value} {Q : List Value → Shared → Prop} (hh : A.handled = none) (ht : s.heap.IsList t items)
    (hQ : ∀ h', Heap.ExtBut s.heap.objs.size s.heap h' → Q items.toList { s with heap := h' }) : wpAny (model prog w) A (unpackItems (.ref t) items.size none) Q E s := by
  have hlt : t ≠ s.heap.objs.size := by obtain ⟨o, ho, _⟩ := ht; exact Nat.ne_of_lt (Heap.lt_size ho)
  unfold unpackItems
  refine wpAny_bind ?_
  unfold notIterableAtAll
  refine wpAny_bind (wpAny_specialOf ht.typeIs F.slot_list_iter.lookup ?_)
  refine wpAny_pure ?_
  simp only [Bool.false_eq_true, if_false]
  refine wpAny_bind (wpAny_holding (wpAny_pyIter_list ht ?_))
  refine wpAny_bind (wpAny_holding (draw_list hlt items.size 0 _ _ ⟨_, Heap.get?_push_size _ rfl, rfl, rfl⟩ (ht.at fun o e => Heap.get?_push_of_some _ e) (by omega) fun h₁ hit₁ hs₁ => ?_))
  have hall : List.take items.size (List.drop 0 items.toList) = items.toList := by
    rw [List.drop_zero]; exact List.take_of_length_le (by simp)
  rw [hall]
  rw [if_neg (by simp)]
  have ht₁ : h₁.IsList t items := (ht.at fun o e => Heap.get?_push_of_some _ e).at fun o e => (hs₁.2 t hlt).trans e
  refine wpAny_bind (wpAny_holding (wpAny_pyNext_list_end hh hit₁ ht₁ (by simp) fun h₂ he₂ => ?_))
  simp only [Option.isSome_none, Bool.false_eq_true, if_false]
  refine wpAny_pure (hQ h₂ fun b o hb e => he₂ b o hb (hs₁.extBut b o hb (Heap.get?_push_of_some _ e)))
end
def gLstG (n : Nat) (t : TGs) : TG := fun v σ H Q => ∃ a xs, v = .ref a ∧ H a = some (.lst xs) ∧ xs.length = n ∧ t xs σ H Q
theorem pg_lstG {X : Cx} {es : List Expr} {k : Nat} {t : TGs} {pos : Pos} (n : Nat) (hc : X.calm = true) (h : PGs X es t)
    (hn : (assignEach es X.env).length = n := by rfl) (hst : (assignEach es X.env).findIdx? (·.1) = none := by rfl) : PG X (.Tuple es k pos) (gLstG n t) := by
  intro pins s σ H v u Q I r hw
  obtain ⟨a, xs, e1, hq, hl, hw⟩ := hw
  subst e1
  cases r
  obtain ⟨its, rv, p, hz⟩ := I.list (SqL.of hq)
  rw [assign_Tuple]
  refine wpAny_bind (wpAny_standAt ?_)
  unfold unpack
  have e : (assignEach es X.env).length = its.toArray.size := by simp [hn, ← hl, rv.length]
  rw [e, hst]
  refine wpAny_bind (wpAny_holding (unpackItems_list (I.ok.hd hc) p.isList fun h' hx => ?_))
  have I1 : Inv X pins σ H { s with heap := h' } := I.kept (t' := s.toks) fun b o e => hx b o (Nat.ne_of_lt (Heap.lt_size e)) e
  exact h pins _ σ H xs _ Q I1 (by simpa using rv) hw
end L2

seal L2.PE L2.PA L2.PS L2.PSs L2.PT L2.PW L2.PG L2.PGs L2.OpR L2.CallR L2.PI L2.PSet L2.PO L2.SlR L2.IxR L2.PPs L2.PC L2.UnR L2.MtR
local macro_rules | `(tactic| walk_at "rd") => `(tactic| simp only [L2.tChain, L2.rAll, L2.tBM, L2.tyV, L2.rStarts, L2.rInK, L2.tFmt, L2.tJoin, L2.jCons, L2.jNil, L2.tDefR, L2.tRaise, L2.rMulS, L2.rSlS, L2.rJoinS, L2.rCatG, L2.tTry1, L2.tTry0, L2.tBM0, L2.rPopG, L2.rRepG, L2.tDGetR, L2.gLstG, L2.tCallX, L2.rIsiX, L2.rIsiXT, L2.tMs, L2.rSetG, L2.gSub, L2.tSeq, L2.tNext, L2.tIfS, L2.tTest, L2.tB, L2.tOp, L2.tUn, L2.rU, L2.tVar, L2.tC, L2.rI0, L2.rI, L2.tRet, L2.tRetN, L2.tDrop, L2.tAsg, L2.gName, L2.gTup, L2.gCons, L2.gNil, L2.tNil, L2.tCons, L2.tTupG, L2.tLstG, L2.tDNewG, L2.rDictG, L2.tAppG, L2.sDPutG2, L2.pairsOf, L2.tDispG, L2.tPairs, Option.bind_some, L2.tDef, L2.tCB, L2.tAnd, L2.tOr, L2.tNot, L2.tAndV, L2.tOrV, L2.tNotV, L2.tIf, L2.rIxG, L2.rIxS, L2.rEq, L2.rNe, L2.scal_ss, L2.scal_ii, L2.scal_bb, L2.scal_nn, L2.scal_ns, L2.scal_sn, L2.scal_ni, L2.scal_in, L2.flat_s, L2.flat_i, L2.flat_n, L2.flat_b, L2.inV_nil, L2.inV_cons, L2.eqV_ss, L2.eqV_ii, L2.cx_K, L2.rInG, L2.gTupG, L2.rSlG, L2.tSl, L2.tPart, L2.tNoPart, L2.tForT, L2.tForL, L2.turns, L2.upd_same, List.all_cons, List.all_nil, Bool.and_true, Bool.true_and, Bool.and_self, Bool.or_false, Bool.or_true, Bool.false_or, Bool.true_or, L2.cutV, HT.sIx, L2.rIsiG, L2.tyG_n, L2.tyG_b, L2.tyG_i, L2.tyG_s, L2.tyG_r, L2.hoT_l, L2.hoT_t, L2.hoT_d, L2.V.ty.injEq, L2.kit_ii, L2.kit_it, L2.kit_il, L2.kit_is, L2.kit_ib, L2.kit_id, L2.kit_ni, L2.kit_nt, L2.kit_nl, L2.kit_ns, L2.kit_nb, L2.kit_nd, L2.kit_ti, L2.kit_tt, L2.kit_tl, L2.kit_ts, L2.kit_tb, L2.kit_td, L2.kit_li, L2.kit_lt, L2.kit_ll, L2.kit_ls, L2.kit_lb, L2.kit_ld, L2.kit_si, L2.kit_st, L2.kit_sl, L2.kit_ss, L2.kit_sb, L2.kit_sd, L2.kit_bi, L2.kit_bt, L2.kit_bl, L2.kit_bs, L2.kit_bb, L2.kit_bd, L2.kit_di, L2.kit_dt, L2.kit_dl, L2.kit_ds, L2.kit_db, L2.kit_dd, L2.mn1, L2.mn2, List.drop_succ_cons, List.drop_zero, List.take_succ_cons, List.take_zero, Nat.reduceEqDiff, not_false_eq_true,  L2.tDInG, L2.tDNotInG, L2.tDGetG, L2.keyOf_s, L2.keyOf_i,  List.cons.injEq,  L2.tDNewK,
  L2.start, List.map_cons, List.map_nil, List.length_cons, List.length_nil, List.replicate, List.cons_append, List.nil_append, List.getElem?_cons_zero, List.getElem?_cons_succ, List.set_cons_zero, List.set_cons_succ, Option.some.injEq, L2.V.int.injEq, L2.V.str.injEq, L2.V.ref.injEq, L2.V.bl.injEq, L2.HO.tup.injEq, L2.HO.lst.injEq, L2.HO.dK.injEq, reduceCtorEq, exists_eq_left', exists_and_left, exists_eq_left, and_assoc, exists_eq_right, L2.CPow, L2.CMul, L2.CDiv, decide_eq_true_eq, L2.ofString_inj, String.reduceEq, decide_true, decide_false, Bool.false_eq_true, if_true, if_false, if_pos, and_true, true_and, or_false, false_or, or_true, true_or, and_false, false_and, exists_const, exists_false, Bool.not_true, Bool.not_false,
  L2.sz0, L2.sz1, L2.sz2, L2.sz3, L2.sz4, L2.sz5, L2.sz6, L2.atI_0, L2.atI_1, L2.atI_2, L2.atI_3, L2.atI_4, Nat.reduceAdd, Nat.reduceSub, Nat.zero_add, Nat.reduceLeDiff, Int.reducePow, Int.reduceToNat, Int.reduceLT, Int.reduceLE, Int.reduceNeg, L2.na2, L2.na10, Nat.reducePow, Nat.reduceLT, *])

set_option Elab.async false
set_option linter.all false
set_option maxRecDepth 100000
set_option maxHeartbeats 4000000
namespace K05
open PySem L2
def top (i : Nat) : Stmt := PySem.Challenge.pw_rerunyard_k05_whole_words_worth.main.body.getD i (.Pass ⟨0, 0, 0, 0⟩)
abbrev s_is_name : Stmt := top 14
theorem sc_is_name : FnScope ["word"] ["word"] (defScope s_is_name) := ⟨rfl, rfl, rfl, by decide +kernel, rfl, by decide +kernel, by decide +kernel⟩
abbrev s_is_number : Stmt := top 15
theorem sc_is_number : FnScope ["word"] ["word"] (defScope s_is_number) := ⟨rfl, rfl, rfl, by decide +kernel, rfl, by decide +kernel, by decide +kernel⟩
abbrev s_is_whole : Stmt := top 16
theorem sc_is_whole : FnScope ["word", "most"] ["word", "most"] (defScope s_is_whole) := ⟨rfl, rfl, rfl, by decide +kernel, rfl, by decide +kernel, by decide +kernel⟩
abbrev s_expression : Stmt := top 17
theorem sc_expression : FnScope ["word", "tokens", "e", "at"] ["word"] (defScope s_expression) := ⟨rfl, rfl, rfl, by decide +kernel, rfl, by decide +kernel, by decide +kernel⟩
abbrev s_tokens_of : Stmt := top 18
theorem sc_tokens_of : FnScope ["word", "tokens", "sign"] ["word"] (defScope s_tokens_of) := ⟨rfl, rfl, rfl, by decide +kernel, rfl, by decide +kernel, by decide +kernel⟩
abbrev s_read_sum : Stmt := top 19
theorem sc_read_sum : FnScope ["tokens", "at", "depth", "e", "sign", "right"] ["tokens", "at", "depth"] (defScope s_read_sum) := ⟨rfl, rfl, rfl, by decide +kernel, rfl, by decide +kernel, by decide +kernel⟩
abbrev s_read_term : Stmt := top 20
theorem sc_read_term : FnScope ["tokens", "at", "depth", "e", "right"] ["tokens", "at", "depth"] (defScope s_read_term) := ⟨rfl, rfl, rfl, by decide +kernel, rfl, by decide +kernel, by decide +kernel⟩
abbrev s_read_factor : Stmt := top 21
theorem sc_read_factor : FnScope ["tokens", "at", "depth", "e"] ["tokens", "at", "depth"] (defScope s_read_factor) := ⟨rfl, rfl, rfl, by decide +kernel, rfl, by decide +kernel, by decide +kernel⟩
abbrev s_leaf : Stmt := top 22
theorem sc_leaf : FnScope ["token"] ["token"] (defScope s_leaf) := ⟨rfl, rfl, rfl, by decide +kernel, rfl, by decide +kernel, by decide +kernel⟩
abbrev s_worth : Stmt := top 23
theorem sc_worth : FnScope ["e", "values", "now", "own", "kind", "left", "right"] ["e", "values", "now", "own"] (defScope s_worth) := ⟨rfl, rfl, rfl, by decide +kernel, rfl, by decide +kernel, by decide +kernel⟩
abbrev s_worth_of_name : Stmt := top 24
theorem sc_worth_of_name : FnScope ["name", "values"] ["name", "values"] (defScope s_worth_of_name) := ⟨rfl, rfl, rfl, by decide +kernel, rfl, by decide +kernel, by decide +kernel⟩
abbrev s_reckoned : Stmt := top 25
theorem sc_reckoned : FnScope ["sign", "left", "right"] ["sign", "left", "right"] (defScope s_reckoned) := ⟨rfl, rfl, rfl, by decide +kernel, rfl, by decide +kernel, by decide +kernel⟩
abbrev s_bounded : Stmt := top 26
theorem sc_bounded : FnScope ["n"] ["n"] (defScope s_bounded) := ⟨rfl, rfl, rfl, by decide +kernel, rfl, by decide +kernel, by decide +kernel⟩
abbrev s__law_stir : Stmt := top 28
theorem sc__law_stir : FnScope ["cell", "k", "number"] ["cell", "k"] (defScope s__law_stir) := ⟨rfl, rfl, rfl, by decide +kernel, rfl, by decide +kernel, by decide +kernel⟩
abbrev s__law_parts : Stmt := top 29
theorem sc__law_parts : FnScope ["cell", "parts", "deep", "k", "number", "leaf_v"] ["cell"] (defScope s__law_parts) := ⟨rfl, rfl, rfl, by decide +kernel, rfl, by decide +kernel, by decide +kernel⟩
abbrev s__law_reckon : Stmt := top 30
theorem sc__law_reckon : FnScope ["numbers", "signs", "sign", "other", "one", "number"] ["numbers", "signs"] (defScope s__law_reckon) := ⟨rfl, rfl, rfl, by decide +kernel, rfl, by decide +kernel, by decide +kernel⟩
abbrev s__law_due : Stmt := top 31
theorem sc__law_due : FnScope ["parts", "values", "numbers", "signs", "big", "part"] ["parts", "values"] (defScope s__law_due) := ⟨rfl, rfl, rfl, by decide +kernel, rfl, by decide +kernel, by decide +kernel⟩
abbrev s_law : Stmt := top 32
theorem sc_law : FnScope ["script", "cell", "parts", "word", "far", "values", "now", "own", "known", "name", "number", "big", "due"] ["script"] (defScope s_law) := ⟨rfl, rfl, rfl, by decide +kernel, rfl, by decide +kernel, by decide +kernel⟩
end K05

set_option Elab.async false
set_option linter.all false
set_option maxRecDepth 100000
set_option maxHeartbeats 4000000
namespace K05
open PySem L2
def isL (s : Str) (c : Nat) : Bool := !(Builtin.Str.occurrences s ⟨#[c]⟩ 0 s.length 1).isEmpty
def noN : List V := [.str "tool", .str "store", .str "row", .str "hand", .str "end", .str "wait", .str "take", .str "give", .str "put", .str "get", .str "let", .str "draw", .str "say", .str "start", .str "if", .str "else", .str "while", .str "stop", .str "now", .str "own"]
def nameOk (x : Str) : Bool := decide (1 ≤ x.length) && decide (x.length ≤ 8) && !(inV (.str x) noN) && x.cps.toList.all (isL "abcdefghijklmnopqrstuvwxyz")
def numOk (x : Str) : Bool := decide (1 ≤ x.length) && decide (x.length ≤ 6) && (decide (x = "0") || !(PySem.Txt.startswith x "0")) && x.cps.toList.all (isL "0123456789")
theorem allSigns {L x : Str} {H : Hp} {Q : VK} (hz : x.length < sizeLine) (q : ∀ H', Same H H' → Q (.bl (x.cps.toList.all (isL L))) H') :
    tComp [] (iStr (tVar 0)) tYes (tOp (fun x y H Q => ∃ i, x = V.str i ∧ ∃ x, y = V.str x ∧ Q (V.bl !(Builtin.Str.occurrences x i 0 x.length 1).isEmpty) H) (tVar 0) (tC (V.str L)))
      [some (V.str x)] H fun x H1 => ∃ p, x = V.ref p ∧ ∃ x, H1 p = some (HO.lst (List.map V.bl x)) ∧ Q (V.bl (x.all id)) H1 := by
  refine tcomp_str x (fun _ => true) (fun c => .bl (isL L c)) (fun R hR => ⟨_, rfl, hR⟩) hz (fun c hc H Q h => h) (fun c hc _ H Q h => ?_) fun D H' hD hS e => ?_
  · exact ⟨_, rfl, _, rfl, _, rfl, h⟩
  · refine ⟨D, rfl, (x.cps.toList.filter fun _ => true).map (isL L), by rw [e, List.map_map]; rfl, ?_⟩
    have := q H' hS
    simpa using this
theorem sz8 {n : Nat} (h : n ≤ 8) : n < sizeLine := by unfold sizeLine; omega
section
variable {P : Program} {w : World} {K : PySem.W.Frag} {mg : Str → Option Value} {base : Heap}
def spIsName : Sp := fun vs H Q _ => ∃ x : Str, vs = [.str x] ∧ x.length ≤ sizeLine ∧ ∀ H', Same H H' → Q (.bl (nameOk x)) H'
theorem ok_is_name (D : DefAt K mg "is_name" s_is_name ["word"]) {t1 t2 : Tok} {aNN : Addr} (hML : mg "MOST_LETTERS" = some (.int 8 t1)) (hLETTERS : mg "LETTERS" = some (.str "abcdefghijklmnopqrstuvwxyz" t2))
    (hNN : mg "NO_NAMES" = some (.ref aNN)) (qNN : ∀ H, SqT K H aNN noN) (hlen : mg "len" = none) (hall : mg "all" = none) : OkD P w K mg base 1 "is_name" ["word"] spIsName := by
  refine D.ok sc_is_name (fun vs H Q E h => ?_) (fun f cdv A outer s H vs Q E hr h => ?_)
  · obtain ⟨x, rfl, _⟩ := h; rfl
  obtain ⟨x, rfl, hz, q⟩ := h
  refine ⟨_, (pss_one (ps_ret (pe_and (pe_chain op_le op_le pe_int (pe_cB call_len_str rfl hlen PySem.boot_len (pa_c (pv 0) pa_nil)) (pe_glob (v := .int 8) rfl hML ⟨_, rfl⟩)) (pe_and (pe_cmpR op_notInK (pv 0) (pe_glob (v := .ref aNN) rfl hNN rfl) (by with_unfolding_all rfl)) (pe_one (pe_cB (call_all rfl) rfl hall (by decide +kernel) (pa_c (pe_comp (comp_scope0 rfl rfl rfl) rfl (pi_str (pv 0)) rfl rfl (fun _ _ _ _ => pts_nil) (fun _ _ _ _ => (pe_cmpR op_in_str (pv 0) (pe_glob (v := .str "abcdefghijklmnopqrstuvwxyz") rfl hLETTERS ⟨_, rfl⟩) (by with_unfolding_all rfl)))) pa_nil))))))), ?_⟩
  walk_at "rd"
  unfold nameOk at q
  by_cases h1 : (1 : Int) ≤ x.length
  · by_cases h2 : (x.length : Int) ≤ 8
    · rw [if_pos h1, if_pos h2]
      refine ⟨noN, qNN, by decide +kernel, ?_⟩
      have e1 : decide (1 ≤ x.length) = true := decide_eq_true (by omega)
      have e2 : decide (x.length ≤ 8) = true := decide_eq_true (by omega)
      rw [e1, e2] at q
      cases hN : inV (.str x) noN with
      | true => rw [hN] at q; exact iteF (q H (Same.refl H))
      | false =>
        rw [hN] at q
        exact iteT (allSigns (sz8 (by omega)) (by simpa using q))
    · rw [if_pos h1, if_neg h2]
      have e2 : decide (x.length ≤ 8) = false := decide_eq_false (by omega)
      rw [e2] at q
      simpa using q H (Same.refl H)
  · rw [if_neg h1]
    have e1 : decide (1 ≤ x.length) = false := decide_eq_false (by omega)
    rw [e1] at q
    simpa using q H (Same.refl H)
def wholeOk (m : Nat) (x : Str) : Bool := decide (1 ≤ x.length) && decide (x.length ≤ m) && (decide (x = "0") || !(PySem.Txt.startswith x "0")) && x.cps.toList.all (isL "0123456789")
def spWhole : Sp := fun vs H Q _ => ∃ (x : Str) (m : Nat), vs = [.str x, .int (m : Nat)] ∧ m ≤ 8 ∧ x.length ≤ sizeLine ∧ ∀ H', Same H H' → Q (.bl (wholeOk m x)) H'
theorem ok_is_whole (D : DefAt K mg "is_whole" s_is_whole ["word", "most"]) {t2 : Tok} (hFIGURES : mg "FIGURES" = some (.str "0123456789" t2))
    (hlen : mg "len" = none) (hall : mg "all" = none) : OkD P w K mg base 1 "is_whole" ["word", "most"] spWhole := by
  refine D.ok sc_is_whole (fun vs H Q E h => ?_) (fun f cdv A outer s H vs Q E hr h => ?_)
  · obtain ⟨x, m, rfl, _⟩ := h; rfl
  obtain ⟨x, m, rfl, hm, hz, q⟩ := h
  refine ⟨_, (pss_one (ps_ret (pe_and (pe_chain op_le op_le pe_int (pe_cB call_len_str rfl hlen PySem.boot_len (pa_c (pv 0) pa_nil)) (pv 1)) (pe_and (pe_or (pe_cmpR op_eq (pv 0) pe_str (nomark _)) (pe_one (pe_not (pe_startswith (pv 0) pe_str)))) (pe_one (pe_cB (call_all rfl) rfl hall (by decide +kernel) (pa_c (pe_comp (comp_scope0 rfl rfl rfl) rfl (pi_str (pv 0)) rfl rfl (fun _ _ _ _ => pts_nil) (fun _ _ _ _ => (pe_cmpR op_in_str (pv 0) (pe_glob (v := .str "0123456789") rfl hFIGURES ⟨_, rfl⟩) (by with_unfolding_all rfl)))) pa_nil))))))), ?_⟩
  walk_at "rd"
  unfold wholeOk at q
  by_cases h1 : (1 : Int) ≤ x.length
  · by_cases h2 : (x.length : Int) ≤ m
    · rw [if_pos h1, if_pos h2]
      have e1 : decide (1 ≤ x.length) = true := decide_eq_true (by omega)
      have e2 : decide (x.length ≤ m) = true := decide_eq_true (by omega)
      rw [e1, e2] at q
      by_cases h3 : x = Str.ofString "0"
      · rw [if_pos h3]
        have e3 : decide (x = Str.ofString "0") = true := decide_eq_true h3
        rw [e3] at q
        exact allSigns (sz8 (by omega)) (by simpa using q)
      · rw [if_neg h3]
        have e3 : decide (x = Str.ofString "0") = false := decide_eq_false h3
        rw [e3] at q
        cases h4 : PySem.Txt.startswith x (Str.ofString "0") with
        | true => rw [h4] at q; exact iteF (by simpa using q H (Same.refl H))
        | false => rw [h4] at q; exact iteT (allSigns (sz8 (by omega)) (by simpa using q))
    · rw [if_pos h1, if_neg h2]
      have e2 : decide (x.length ≤ m) = false := decide_eq_false (by omega)
      rw [e2] at q
      simpa using q H (Same.refl H)
  · rw [if_neg h1]
    have e1 : decide (1 ≤ x.length) = false := decide_eq_false (by omega)
    rw [e1] at q
    simpa using q H (Same.refl H)
def spIsNum : Sp := fun vs H Q _ => ∃ x : Str, vs = [.str x] ∧ x.length ≤ sizeLine ∧ ∀ H', Same H H' → Q (.bl (numOk x)) H'
theorem ok_is_number (D : DefAt K mg "is_number" s_is_number ["word"]) {t1 : Tok} (hMF : mg "MOST_FIGURES" = some (.int 6 t1)) (G_is_whole : OkD P w K mg base 1 "is_whole" ["word", "most"] spWhole) : OkD P w K mg base 2 "is_number" ["word"] spIsNum := by
  refine D.ok sc_is_number (fun vs H Q E h => ?_) (fun f cdv A outer s H vs Q E hr h => ?_)
  · obtain ⟨x, rfl, _⟩ := h; rfl
  obtain ⟨x, rfl, hz, q⟩ := h
  refine ⟨_, (pss_one (ps_ret (pe_def G_is_whole hr rfl (pa_c (pv 0) (pa_c (pe_glob (v := .int 6) rfl hMF ⟨_, rfl⟩) pa_nil))))), ?_⟩
  walk_at "rd"
  exact ⟨x, 6, rfl, by omega, hz, fun H' g => q H' g⟩
end
end K05

set_option Elab.async false
set_option linter.all false
set_option maxRecDepth 100000
set_option maxHeartbeats 4000000
namespace K05
open PySem L2
inductive Op | add | sub | mul
def Op.sg : Op → Str | .add => "+" | .sub => "-" | .mul => "*"
inductive Tr | name (x : Str) | num (n : Int) | now | own | bin (o : Op) (l r : Tr)
def Tr.toD : Tr → PyData
  | .name x => .tuple [.str "name", .str x]
  | .num n => .tuple [.str "number", .int n]
  | .now => .tuple [.str "now"]
  | .own => .tuple [.str "own"]
  | .bin o l r => .tuple [.str o.sg, l.toD, r.toD]
def leafOf (x : Str) : Option Tr := if x = "now" then some .now else if x = "own" then some .own else if nameOk x = true then some (.name x) else if numOk x = true then (PySem.intText? x).map .num else none
theorem slen (a b : Str) : (a ++ b).length = a.length + b.length := by
  show (a.cps ++ b.cps).size = _
  rw [Array.size_append]; rfl
theorem isL_mem {s : Str} {c : Nat} : isL s c = decide (c ∈ s.cps.toList) := PySem.StrLaws.found_one s c
theorem figs : (Str.ofString "0123456789").cps.toList = [48, 49, 50, 51, 52, 53, 54, 55, 56, 57] := by decide +kernel
theorem fig_dig {c : Nat} (h : isL "0123456789" c = true) : 48 ≤ c ∧ c ≤ 57 := by
  rw [isL_mem, decide_eq_true_eq] at h
  have h' : c ∈ (Str.ofString "0123456789").cps.toList := h
  rw [figs] at h'
  simp only [List.mem_cons, List.not_mem_nil, or_false] at h'
  omega
theorem num_int {x : Str} (h : numOk x = true) : x.length ≤ 6 ∧ PySem.intText? x = some ((PySem.NumText.digitsVal x.cps.toList : Nat) : Int) := by
  unfold numOk at h
  simp only [Bool.and_eq_true, decide_eq_true_eq] at h
  obtain ⟨⟨⟨h1, h2⟩, _⟩, h4⟩ := h
  refine ⟨h2, PySem.intText_digits (fun c hc => fig_dig (List.all_eq_true.mp h4 c hc)) (fun e => ?_) (by omega)⟩
  have : x.cps.toList.length = x.length := Array.length_toList
  rw [e] at this
  have e0 : (0 : Nat) = x.length := this
  omega
section
variable {P : Program} {w : World} {K : PySem.W.Frag} {mg : Str → Option Value} {base : Heap}
def spLeaf (K : PySem.W.Frag) (C : Addr) : Sp := fun vs H Q E => ∃ x : Str, vs = [.str x] ∧ x.length ≤ 10000 ∧ (∀ t, leafOf x = some t → ∀ r H', Same H H' → Rp K H' r t.toD → Q r H') ∧ (leafOf x = none → ∀ H', Same H H' → E (.ref C) none H')
theorem ok_leaf (D : DefAt K mg "leaf" s_leaf ["token"]) (G_is_name : OkD P w K mg base 1 "is_name" ["word"] spIsName) (G_is_number : OkD P w K mg base 2 "is_number" ["word"] spIsNum) {C : Addr} (O_NoRow : ExcAt K mg "NoRow" C)
    (hint : mg "int" = none) : OkR P w K mg base 3 "leaf" ["token"] (spLeaf K C) := by
  refine D.okR sc_leaf (fun vs H Q E h => ?_) (fun f cdv A outer s H vs Q E hr h => ?_)
  · obtain ⟨x, rfl, _⟩ := h; rfl
  obtain ⟨x, rfl, hz, q, qn⟩ := h
  refine ⟨_, (pss_cons (ps_if (pt_cmpR op_inG (pv 0) (pe_tupG (pa_c pe_str (pa_c pe_str pa_nil))) (by with_unfolding_all rfl))
  (pss_one (ps_ret (pe_tupG (pa_c (pv 0) pa_nil))))
  pss_nil)
  (pss_cons (ps_if (pt_val (pe_defR G_is_name.toR passR hr rfl (pa_c (pv 0) pa_nil)))
  (pss_one (ps_ret (pe_tupG (pa_c pe_str (pa_c (pv 0) pa_nil)))))
  pss_nil)
  (pss_cons (ps_if (pt_val (pe_defR G_is_number.toR passR hr rfl (pa_c (pv 0) pa_nil)))
  (pss_one (ps_ret (pe_tupG (pa_c pe_str (pa_c (pe_cTy call_int_str rfl hint (by decide +kernel) (pa_c (pv 0) pa_nil)) pa_nil)))))
  pss_nil)
  (pss_one (ps_raise raises_def rfl O_NoRow rfl (pa_c (pe_fstr (pj_cons pe_str (pj_cons (pe_fmt (pv 0)) pj_nil))) pa_nil)))))), ?_⟩
  walk_at "rd"
  intro p H1 hp g1 h1
  refine ⟨_, .inl h1, rfl, ?_⟩
  unfold leafOf at q qn
  simp only [inV_cons, inV_nil, eqV_ss, Bool.or_false, Bool.or_eq_true, decide_eq_true_eq]
  by_cases c1 : x = Str.ofString "now"
  · rw [if_pos (.inl c1.symm)]
    intro p2 H2 hp2 g2 h2
    exact q .now (if_pos c1) _ _ (g1.trans g2) (.tup h2 (.cons (by rw [c1]; exact .str _) .nil))
  · rw [if_neg c1] at q qn
    by_cases c2 : x = Str.ofString "own"
    · rw [if_pos (.inr c2.symm)]
      intro p2 H2 hp2 g2 h2
      exact q .own (if_pos c2) _ _ (g1.trans g2) (.tup h2 (.cons (by rw [c2]; exact .str _) .nil))
    · rw [if_neg c2] at q qn
      rw [if_neg (fun h => h.elim (fun h => c1 h.symm) fun h => c2 h.symm)]
      have hz' : x.length ≤ sizeLine := by unfold sizeLine; omega
      refine ⟨x, rfl, hz', fun H2 g2 => ⟨_, rfl, ?_⟩⟩
      cases c3 : nameOk x with
      | true =>
        rw [if_pos c3] at q
        refine iteT fun p3 H3 hp3 g3 h3 => ?_
        exact q _ rfl _ _ (g1.trans (g2.trans g3)) (.tup h3 (.cons (.str _) (.cons (.str _) .nil)))
      | false =>
        rw [if_neg (by rw [c3]; exact Bool.false_ne_true)] at q qn
        refine iteF ⟨x, rfl, hz', fun H3 g3 => ⟨_, rfl, ?_⟩⟩
        cases c4 : numOk x with
        | true =>
          obtain ⟨h6, hi⟩ := num_int c4
          rw [if_pos c4, hi] at q
          refine iteT ⟨_, hi, by omega, fun p4 H4 hp4 g4 h4 => ?_⟩
          exact q _ rfl _ _ (g1.trans (g2.trans (g3.trans g4))) (.tup h4 (.cons (.str _) (.cons (.int _) .nil)))
        | false =>
          rw [if_neg (by rw [c4]; exact Bool.false_ne_true)] at qn
          have hm : (Str.empty ++ Str.ofString "no factor of an expression: " ++ x).length ≤ sizeLine := by
            rw [slen, slen]
            have e1 : (Str.ofString "no factor of an expression: ").length = 28 := by decide +kernel
            have e0 : Str.empty.length = 0 := rfl
            rw [e1, e0]
            unfold sizeLine
            omega
          refine iteF ⟨by decide +kernel, hz', hm, hm, qn rfl _ (g1.trans (g2.trans g3))⟩
end
end K05

set_option Elab.async false
set_option linter.all false
set_option maxRecDepth 100000
set_option maxHeartbeats 4000000
namespace K05
open PySem L2
def tokStep (s : List Str × Str) (c : Nat) : List Str × Str := if isL "+-*()" c = true then (s.1 ++ [s.2] ++ [⟨#[c]⟩], Str.ofString "") else (s.1, s.2 ++ ⟨#[c]⟩)
def tokRun (l : List Nat) : List Str × Str := l.foldl tokStep ([], Str.ofString "")
def tokAll (s : List Str × Str) : List Str := s.1 ++ [s.2]
def tokensOf (x : Str) : List Str := (tokAll (tokRun x.cps.toList)).filter (fun t => !decide (t = Str.ofString "")) ++ [Str.ofString ""]
def TokB (s : List Str × Str) (n : Nat) : Prop := s.1.length ≤ 2 * n ∧ s.2.length ≤ n
theorem tokRun_snoc (l : List Nat) (c : Nat) : tokRun (l ++ [c]) = tokStep (tokRun l) c := by unfold tokRun; rw [List.foldl_append]; rfl
theorem tokB_run : ∀ (l : List Nat) (s : List Str × Str) (n : Nat), TokB s n → TokB (l.foldl tokStep s) (n + l.length)
  | [], s, n, h => h
  | c :: l, s, n, h => by
    have e : n + (c :: l).length = (n + 1) + l.length := by rw [List.length_cons]; omega
    rw [e]
    refine tokB_run l (tokStep s c) (n + 1) ?_
    obtain ⟨h1, h2⟩ := h
    unfold tokStep TokB
    split
    · refine ⟨?_, Nat.zero_le _⟩
      show (s.1 ++ [s.2] ++ [_]).length ≤ _
      simp only [List.length_append, List.length_singleton]; omega
    · refine ⟨by show s.1.length ≤ _; omega, ?_⟩
      show (s.2 ++ _).length ≤ _
      rw [slen]
      have : (⟨#[c]⟩ : Str).length = 1 := rfl
      omega
theorem tokB (l : List Nat) : TokB (tokRun l) l.length := by
  have := tokB_run l ([], Str.ofString "") 0 ⟨Nat.le_refl _, Nat.zero_le _⟩
  rw [Nat.zero_add] at this
  exact this
theorem ix_last {d : List Str} {u : Str} : ixN ((d ++ [u]).map V.str).length (-1) = some d.length := by
  unfold ixN
  rw [if_neg (by decide), List.length_map, List.length_append, List.length_singleton, if_pos (by omega)]
  congr 1; omega
theorem at_last {d : List Str} {u : Str} : atI ((d ++ [u]).map V.str) (-1) = some (V.str u) := by
  unfold atI
  rw [ix_last]
  simp
theorem set_last {d : List Str} {u v : Str} : ((d ++ [u]).map V.str).set d.length (V.str v) = (d ++ [v]).map V.str := by
  simp
section
variable {P : Program} {w : World} {K : PySem.W.Frag} {mg : Str → Option Value} {base : Heap}
def spTok : Sp := fun vs H Q _ => ∃ x : Str, vs = [.str x] ∧ x.length ≤ 60 ∧ ∀ p H', H p = none → Same H H' → H' p = some (.lst ((tokensOf x).map V.str)) → Q (.ref p) H'
theorem none_of_same {H H' : Hp} {p : Addr} (g : Same H H') (h : H' p = none) : H p = none := by
  cases e : H p with
  | none => rfl
  | some o => rw [g _ _ e] at h; cases h
theorem ok_tokens_of (D : DefAt K mg "tokens_of" s_tokens_of ["word"]) {t1 t2 : Tok} (hSIGNS : mg "SIGNS" = some (.str "+-*()" t1)) (hLAST : mg "LAST" = some (.str "" t2)) :
    OkD P w K mg base 1 "tokens_of" ["word"] spTok := by
  refine D.ok sc_tokens_of (fun vs H Q E h => ?_) (fun f cdv A outer s H vs Q E hr h => ?_)
  · obtain ⟨x, rfl, _⟩ := h; rfl
  obtain ⟨x, rfl, hz, q⟩ := h
  refine ⟨_, (pss_cons (ps_set (i := 1) sc_tokens_of.nd rfl (Or.inl rfl) (pe_lstG (pa_c pe_str pa_nil)))
  (pss_cons (ps_for PassesOwn.never rfl (pi_str (pv 0)) (pg_name (i := 2) sc_tokens_of.nd rfl (Or.inl rfl))
  (pss_one (ps_if (pt_cmpR op_in_str (pv 2) (pe_glob (v := .str "+-*()") rfl hSIGNS ⟨_, rfl⟩) (by with_unfolding_all rfl))
  (pss_cons (ps_expr (pe_appG (pv 1) (pv 2)))
  (pss_one (ps_expr (pe_appG (pv 1) pe_str))))
  (pss_one (ps_asg (pe_op op_add_str (pe_ix ix_g (pv 1) (pe_un un_neg pe_int) (fun _ _ => rfl)) (pv 2)) (pg_sub (pv 1) (pe_un un_neg pe_int) set_listG))))))
  (pss_one (ps_ret (pe_op op_catG (pe_comp (comp_scope0 rfl rfl rfl) rfl (pi_list (pv 1)) rfl rfl (fun _ _ _ _ => (pts_one (pt_cmpR op_ne (pv 0) pe_str (nomark _)))) (fun _ _ _ _ => (pv 0))) (pe_lstG (pa_c (pe_glob (v := .str "") rfl hLAST ⟨_, rfl⟩) pa_nil))))))), ?_⟩
  walk_at "rd"
  intro p H1 hp g1 h1
  have hxl : x.cps.toList.length ≤ 60 := by rw [Array.length_toList]; exact hz
  refine tfor_str x (fun R hR => ⟨_, rfl, hR⟩) (fun l σ H2 => ∃ v, σ = [some (.str x), some (.ref p), v] ∧ Same H H2 ∧ H2 p = some (.lst ((tokAll (tokRun l)).map V.str))) ⟨_, rfl, g1, h1⟩ ?_ ?_
  · rintro l c r σ H2 hx ⟨v, rfl, g2, h2⟩
    have hl : l.length + 1 ≤ 60 := by
      have e := congrArg List.length hx
      rw [List.length_append, List.length_cons] at e
      omega
    have b := tokB l
    rw [tokRun_snoc]
    generalize tokRun l = u at h2 b
    obtain ⟨d, u⟩ := u
    obtain ⟨b1, b2⟩ := b
    have b1' : d.length ≤ 2 * l.length := b1
    have b2' : u.length ≤ l.length := b2
    unfold tokAll at h2 ⊢
    unfold tokStep
    walk_at "rd"
    have e : (!(Builtin.Str.occurrences (Str.ofString "+-*()") { cps := #[c] } 0 (Str.ofString "+-*()").length 1).isEmpty) = isL "+-*()" c := rfl
    rw [e]
    cases hc : isL "+-*()" c with
    | true =>
      refine iteT ⟨?_, fun H3 m3 => ⟨_, m3.at_, _, m3.at_, ?_, fun H4 m4 => ⟨m4.same (m3.same g2 hp) hp, ?_⟩⟩⟩
      · simp only [List.length_map, List.length_append, List.length_singleton]; unfold sizeLine; omega
      · simp only [List.length_map, List.length_append, List.length_singleton]; unfold sizeLine; omega
      · rw [m4.at_, if_pos rfl]
        simp
    | false =>
      refine iteF ⟨_, at_last, _, rfl, ?_, _, ix_last, fun H3 m3 => ⟨m3.same g2 hp, ?_⟩⟩
      · have e1 : (⟨#[c]⟩ : Str).length = 1 := rfl
        rw [e1]; unfold sizeLine; omega
      · rw [m3.at_, set_last, if_neg Bool.false_ne_true]
  · rintro σ H2 ⟨v, rfl, g2, h2⟩
    have b := tokB x.cps.toList
    have bl : (tokAll (tokRun x.cps.toList)).length ≤ 121 := by
      unfold tokAll
      rw [List.length_append, List.length_singleton]
      have := b.1
      omega
    walk_at "rd"
    refine tcomp_list p _ (fun v => match v with | .str t => !decide (t = Str.ofString "") | _ => true) id (fun R hR => ⟨_, rfl, hR⟩) h2 (by rw [List.length_map]; unfold sizeLine; omega) ?_ (fun v hv _ H Q h => ⟨_, rfl, h⟩) ?_
    · intro v hv H Q h
      obtain ⟨t, ht, rfl⟩ := List.mem_map.mp hv
      walk_at "rd"
    · intro d H3 hd g3 h3 p4 H4 hp4 g4 h4
      have ef : (((tokAll (tokRun x.cps.toList)).map V.str).filter (fun v => match v with | .str t => !decide (t = Str.ofString "") | _ => true)).map id = ((tokAll (tokRun x.cps.toList)).filter (fun t => !decide (t = Str.ofString ""))).map V.str := by
        rw [List.map_id, List.filter_map]; rfl
      rw [ef] at h3
      refine ⟨_, rfl, _, g4 _ _ h3, _, h4, ?_, fun p5 H5 hp5 g5 h5 => q _ _ (none_of_same (g2.trans (g3.trans g4)) hp5) (g2.trans (g3.trans (g4.trans g5))) ?_⟩
      · rw [List.length_map]
        have := List.length_filter_le (fun t => !decide (t = Str.ofString "")) (tokAll (tokRun x.cps.toList))
        rw [List.length_singleton]
        unfold sizeLine; omega
      · rw [h5]; unfold tokensOf; rw [List.map_append]; rfl
end
end K05

set_option Elab.async false
set_option linter.all false
set_option maxRecDepth 100000
set_option maxHeartbeats 4000000
namespace K05
open PySem L2
abbrev Pz := List Str → Option (Tr × List Str)
def closeF : Option (Tr × List Str) → Option (Tr × List Str)
  | some (e, t :: r) => if t = Str.ofString ")" then some (e, r) else none
  | _ => none
def factorF (sub : Pz) : Pz
  | [] => none
  | t :: r => if t = Str.ofString "(" then closeF (sub r) else (leafOf t).map (·, r)
theorem factorF_cons {sub : Pz} {t : Str} {r : List Str} : factorF sub (t :: r) = if t = Str.ofString "(" then closeF (sub r) else (leafOf t).map (·, r) := rfl
def loopF (f : Pz) (sg : Str → Option Op) : Nat → Tr → Pz
  | 0, e, rest => some (e, rest)
  | n + 1, e, rest => match rest with
    | [] => some (e, [])
    | t :: r => match sg t with
      | none => some (e, t :: r)
      | some o => match f r with
        | none => none
        | some (e2, r2) => loopF f sg n (.bin o e e2) r2
def chainF (f : Pz) (sg : Str → Option Op) : Pz := fun rest => match f rest with
  | none => none
  | some (e, r) => loopF f sg r.length e r
def sgMul (t : Str) : Option Op := if t = Str.ofString "*" then some .mul else none
def sgSum (t : Str) : Option Op := if t = Str.ofString "+" then some .add else if t = Str.ofString "-" then some .sub else none
def smF : Nat → Pz
  | 0 => chainF (chainF (factorF fun _ => none) sgMul) sgSum
  | k + 1 => chainF (chainF (factorF (smF k)) sgMul) sgSum
def Ends (l : List Str) : Prop := l.getLast? = some (Str.ofString "")
theorem Ends.drop {l : List Str} {n : Nat} (h : Ends l) (hn : n < l.length) : Ends (l.drop n) := by
  unfold Ends at h ⊢
  rw [List.getLast?_drop, if_neg (by omega)]; exact h
def Suf (f : Pz) : Prop := ∀ rest e r', Ends rest → f rest = some (e, r') → ∃ n, 0 < n ∧ n < rest.length ∧ r' = rest.drop n
theorem leaf_last : leafOf (Str.ofString "") = none := by decide +kernel
theorem ends_cons {t : Str} {r : List Str} (h : Ends (t :: r)) (hr : r ≠ []) : Ends r := by
  unfold Ends at h ⊢
  cases r with
  | nil => exact absurd rfl hr
  | cons a b => rw [List.getLast?_cons_cons] at h; exact h
theorem suf_none : Suf fun _ => none := fun _ _ _ _ h => nomatch h
theorem suf_factor {sub : Pz} (h : Suf sub) : Suf (factorF sub) := by
  intro rest e r' he hf
  cases rest with
  | nil => cases hf
  | cons t r =>
    rw [factorF_cons] at hf
    by_cases c : t = Str.ofString "("
    · rw [if_pos c] at hf
      have hr : r ≠ [] := fun e => by
        subst e
        unfold Ends at he
        rw [List.getLast?_singleton, c] at he
        revert he; decide +kernel
      unfold closeF at hf
      split at hf
      · rename_i e1 t1 r1 hs
        split at hf
        · cases hf
          obtain ⟨n, h0, h1, h2⟩ := h r _ (t1 :: r') (ends_cons he hr) hs
          have hl : (t1 :: r').length = r.length - n := by rw [h2, List.length_drop]
          have er : r' = (r.drop n).drop 1 := by rw [← h2]; rfl
          have hE : Ends (t1 :: r') := by rw [h2]; exact (ends_cons he hr).drop h1
          have hne : r' ≠ [] := fun e => by
            rename_i c2
            subst e
            unfold Ends at hE
            rw [List.getLast?_singleton, c2] at hE
            revert hE; decide +kernel
          have hpos : 0 < r'.length := List.length_pos_iff.mpr hne
          rw [List.length_cons] at hl
          refine ⟨n + 2, by omega, by rw [List.length_cons]; omega, ?_⟩
          rw [er, List.drop_drop]; rfl
        · cases hf
      · cases hf
    · rw [if_neg c] at hf
      cases hl : leafOf t with
      | none => rw [hl] at hf; cases hf
      | some u =>
        rw [hl] at hf
        cases hf
        have hr : r' ≠ [] := fun e => by
          subst e
          unfold Ends at he
          rw [List.getLast?_singleton] at he
          cases he
          rw [leaf_last] at hl; cases hl
        exact ⟨1, by omega, by rw [List.length_cons]; have := List.length_pos_iff.mpr hr; omega, rfl⟩
theorem suf_loop {f : Pz} {sg : Str → Option Op} (hs : sg (Str.ofString "") = none) (h : Suf f) : ∀ (n : Nat) (e : Tr) (rest : List Str) (e' : Tr) (r' : List Str), Ends rest → loopF f sg n e rest = some (e', r') → ∃ k, k < rest.length ∧ r' = rest.drop k
  | 0, e, rest, e', r', he, hf => by
    cases hf
    refine ⟨0, ?_, rfl⟩
    cases rest with
    | nil => cases he
    | cons a b => exact Nat.zero_lt_succ _
  | n + 1, e, [], e', r', he, hf => by cases he
  | n + 1, e, t :: r, e', r', he, hf => by
    unfold loopF at hf
    cases ho : sg t with
    | none => simp only [ho] at hf; cases hf; exact ⟨0, Nat.zero_lt_succ _, rfl⟩
    | some o =>
      simp only [ho] at hf
      have hr : r ≠ [] := fun e => by
        subst e
        unfold Ends at he
        rw [List.getLast?_singleton] at he
        cases he
        rw [hs] at ho; cases ho
      cases hq : f r with
      | none => simp only [hq] at hf; cases hf
      | some v =>
        obtain ⟨e2, r2⟩ := v
        simp only [hq] at hf
        obtain ⟨k, h0, h1, rfl⟩ := h r e2 r2 (ends_cons he hr) hq
        obtain ⟨k2, h2, rfl⟩ := suf_loop hs h n _ _ e' r' ((ends_cons he hr).drop h1) hf
        rw [List.length_drop] at h2
        refine ⟨k + k2 + 1, by rw [List.length_cons]; omega, ?_⟩
        rw [List.drop_drop, List.drop_succ_cons]
theorem suf_chain {f : Pz} {sg : Str → Option Op} (hs : sg (Str.ofString "") = none) (h : Suf f) : Suf (chainF f sg) := by
  intro rest e r' he hf
  unfold chainF at hf
  cases hq : f rest with
  | none => simp only [hq] at hf; cases hf
  | some v =>
    obtain ⟨e2, r2⟩ := v
    simp only [hq] at hf
    obtain ⟨k, h0, h1, rfl⟩ := h rest e2 r2 he hq
    obtain ⟨k2, h2, rfl⟩ := suf_loop hs h _ _ _ _ _ (he.drop h1) hf
    rw [List.length_drop] at h2
    exact ⟨k + k2, by omega, by omega, by rw [List.drop_drop]⟩
theorem sgMul_last : sgMul (Str.ofString "") = none := by decide +kernel
theorem sgSum_last : sgSum (Str.ofString "") = none := by decide +kernel
theorem suf_sm : ∀ k, Suf (smF k)
  | 0 => suf_chain sgSum_last (suf_chain sgMul_last (suf_factor suf_none))
  | k + 1 => suf_chain sgSum_last (suf_chain sgMul_last (suf_factor (suf_sm k)))
end K05

set_option Elab.async false
set_option linter.all false
set_option maxRecDepth 100000
set_option maxHeartbeats 4000000
namespace K05
open PySem L2
structure TokOk (T : List Str) : Prop where
  ends : Ends T
  few : T.length ≤ 1000
  short : ∀ t ∈ T, t.length ≤ 10000
theorem closeF_cons {e : Tr} {t : Str} {r : List Str} : closeF (some (e, t :: r)) = if t = Str.ofString ")" then some (e, r) else none := rfl
theorem at_nat {T : List Str} {i : Nat} (h : i < T.length) : atI (T.map V.str) (i : Int) = some (V.str T[i]) := by
  unfold atI ixN
  rw [if_pos (by omega), List.length_map, if_pos (by omega)]
  simp [h]
section
variable {P : Program} {w : World} {K : PySem.W.Frag} {mg : Str → Option Value} {base : Heap}
def spRd (K : PySem.W.Frag) (C : Addr) (f : Pz) (d : Nat) : Sp := fun vs H Q E => ∃ (p : Addr) (T : List Str) (i : Nat), vs = [.ref p, .int i, .int d] ∧ H p = some (.lst (T.map V.str)) ∧ TokOk T ∧ i < T.length ∧
  (∀ e n, f (T.drop i) = some (e, T.drop n) → i < n → n < T.length → ∀ r a H', Same H H' → H' r = some (.tup [a, .int (n : Nat)]) → Rp K H' a e.toD → Q (.ref r) H') ∧ (f (T.drop i) = none → ∀ H', Same H H' → E (.ref C) none H')
theorem ok_read_factor (D : DefAt K mg "read_factor" s_read_factor ["tokens", "at", "depth"]) {C : Addr} {n k : Nat} {sub : Pz} {t1 : Tok} (hk : k ≤ 5) (h0 : k = 0 → ∀ l, sub l = none) (hMB : mg "MOST_BRACKETS" = some (.int 5 t1)) (O_NoRow : ExcAt K mg "NoRow" C)
    (G_leaf : OkR P w K mg base 3 "leaf" ["token"] (spLeaf K C)) {spS : Sp} (hS : k ≠ 0 → ∀ vs H Q E, spRd K C sub (6 - k) vs H Q E → spS vs H Q E) (G_read_sum : OkR P w K mg base n "read_sum" ["tokens", "at", "depth"] spS) (hn : 3 ≤ n) : OkR P w K mg base (n + 1) "read_factor" ["tokens", "at", "depth"] (spRd K C (factorF sub) (5 - k)) := by
  refine D.okR sc_read_factor (fun vs H Q E h => ?_) (fun f cdv A outer s H vs Q E hr h => ?_)
  · obtain ⟨p, T, i, rfl, _⟩ := h; rfl
  obtain ⟨p, T, i, rfl, hp, hT, hi, q, qn⟩ := h
  refine ⟨_, (pss_cons (ps_if (pt_cmpR op_ne (pe_ix ix_g (pv 0) (pv 1) (fun _ _ => rfl)) pe_str (nomark _))
  (pss_one (ps_ret (pe_tupG (pa_c (pe_defR G_leaf passR hr rfl (pa_c (pe_ix ix_g (pv 0) (pv 1) (fun _ _ => rfl)) pa_nil)) (pa_c (pe_op op_add (pv 1) pe_int) pa_nil)))))
  pss_nil)
  (pss_cons (ps_if (pt_cmpR op_eq (pv 2) (pe_glob (v := .int 5) rfl hMB ⟨_, rfl⟩) (nomark _))
  (pss_one (ps_raise raises_def rfl O_NoRow rfl (pa_c pe_str pa_nil)))
  pss_nil)
  (pss_cons (ps_asg (pe_defR G_read_sum passR hr rfl (pa_c (pv 0) (pa_c (pe_op op_add (pv 1) pe_int) (pa_c (pe_op op_add (pv 2) pe_int) pa_nil)))) (pg_tupG 2 rfl (pgs_cons (pg_name (i := 3) sc_read_factor.nd rfl (Or.inl rfl)) (pgs_cons (pg_name (i := 1) sc_read_factor.nd rfl (Or.inl rfl)) pgs_nil))))
  (pss_cons (ps_if (pt_cmpR op_ne (pe_ix ix_g (pv 0) (pv 1) (fun _ _ => rfl)) pe_str (nomark _))
  (pss_one (ps_raise raises_def rfl O_NoRow rfl (pa_c pe_str pa_nil)))
  pss_nil)
  (pss_one (ps_ret (pe_tupG (pa_c (pv 3) (pa_c (pe_op op_add (pv 1) pe_int) pa_nil))))))))), ?_⟩
  have ha := at_nat hi
  walk_at "rd"
  have hd : T.drop i = T[i] :: T.drop (i + 1) := List.drop_eq_getElem_cons hi
  rw [hd, factorF_cons] at q qn
  by_cases c : T[i] = Str.ofString "("
  · rw [decide_eq_true c]
    rw [if_pos c] at q qn
    refine iteF (ite2 (fun c5 => ?_) (fun c5 => ?_))
    · rw [h0 (by omega)] at qn
      exact qn rfl H (Same.refl H)
    · have hi1 : i + 1 < T.length := by
        by_cases hh : i + 1 < T.length
        · exact hh
        · have he := hT.ends.drop hi
          rw [hd, List.drop_eq_nil_of_le (by omega)] at he
          unfold Ends at he
          rw [List.getLast?_singleton, c] at he
          exact absurd he (by decide +kernel)
      refine hS (by omega) _ _ _ _ ⟨p, T, i + 1, ?_, hp, hT, hi1, fun e n hf h1 h2 r a H1 g1 hr1 ra => ⟨r, rfl, _, hr1, rfl, _, _, rfl, _, _, rfl, rfl, _, rfl, _, .inr (g1 _ _ hp), _, at_nat h2, rfl, ?_⟩, fun hf H1 g1 => ?_⟩
      · have e6 : ((5 - k : Nat) : Int) + 1 = ((6 - k : Nat) : Int) := by omega
        rw [e6]; rfl
      · have hdn : T.drop n = T[n] :: T.drop (n + 1) := List.drop_eq_getElem_cons h2
        rw [hf, hdn] at q qn
        rw [closeF_cons] at q qn
        by_cases c2 : T[n] = Str.ofString ")"
        · rw [c2, decide_eq_true rfl]
          rw [if_pos c2] at q
          refine iteF ⟨_, rfl, fun p2 H2 hp2 g2 h2' => ?_⟩
          have hn1 : n + 1 < T.length := by
            by_cases hh : n + 1 < T.length
            · exact hh
            · have he := hT.ends.drop h2
              rw [hdn, List.drop_eq_nil_of_le (by omega)] at he
              unfold Ends at he
              rw [List.getLast?_singleton, c2] at he
              exact absurd he (by decide +kernel)
          exact q e (n + 1) rfl (by omega) hn1 _ _ _ (g1.trans g2) h2' (Rp.mono g2 ra)
        · rw [if_neg c2] at qn
          rw [decide_eq_false (fun h => c2 (V.str.inj h))]
          exact iteT (qn rfl _ g1)
      · rw [hf] at qn
        exact qn rfl _ g1
  · rw [decide_eq_false c]
    rw [if_neg c] at q qn
    refine iteT ⟨T[i], rfl, hT.short _ (List.getElem_mem hi), fun t ht a H1 g1 ra p2 H2 hp2 g2 h2 => ?_, fun hl H1 g1 => ?_⟩
    · rw [ht] at q
      have hi1 : i + 1 < T.length := by
        by_cases hh : i + 1 < T.length
        · exact hh
        · have he := hT.ends.drop hi
          rw [hd, List.drop_eq_nil_of_le (by omega)] at he
          unfold Ends at he
          rw [List.getLast?_singleton] at he
          rw [Option.some.inj he, leaf_last] at ht; cases ht
      exact q t (i + 1) rfl (by omega) hi1 _ _ _ (g1.trans g2) h2 (Rp.mono g2 ra)
    · rw [hl] at qn
      exact qn rfl _ g1
end
end K05

set_option Elab.async false
set_option linter.all false
set_option maxRecDepth 100000
set_option maxHeartbeats 4000000
namespace K05
open PySem L2
section
variable {P : Program} {w : World} {K : PySem.W.Frag} {mg : Str → Option Value} {base : Heap}
def LoopS (K : PySem.W.Frag) (C : Addr) (f : Pz) (sg : Str → Option Op) (H : Hp) (T : List Str) (i : Nat) (Q : VK) (E : XK) (j : Nat) (a : V) (H2 : Hp) : Prop := ∃ (n : Nat) (e : Tr), Same H H2 ∧ Rp K H2 a e.toD ∧ i < j ∧ j < T.length ∧ (T.drop j).length ≤ n ∧
  (∀ e' k, loopF f sg n e (T.drop j) = some (e', T.drop k) → i < k → k < T.length → ∀ r a H', Same H H' → H' r = some (.tup [a, .int (k : Nat)]) → Rp K H' a e'.toD → Q (.ref r) H') ∧ (loopF f sg n e (T.drop j) = none → ∀ H', Same H H' → E (.ref C) none H')
theorem loopF_cons {f : Pz} {sg : Str → Option Op} {n : Nat} {e : Tr} {t : Str} {r : List Str} : loopF f sg (n + 1) e (t :: r) = match sg t with
      | none => some (e, t :: r)
      | some o => match f r with
        | none => none
        | some (e2, r2) => loopF f sg n (.bin o e e2) r2 := rfl
section
variable {C : Addr} {f : Pz} {sg : Str → Option Op} {H : Hp} {T : List Str} {i : Nat} {Q : VK} {E : XK} {j : Nat} {a : V} {H2 : Hp}
theorem LoopS.mono {H3 : Hp} (L : LoopS K C f sg H T i Q E j a H2) (g : Same H2 H3) : LoopS K C f sg H T i Q E j a H3 := by
  obtain ⟨n, e, g2, ra, r⟩ := L
  exact ⟨n, e, g2.trans g, Rp.mono g ra, r⟩
theorem LoopS.stop (L : LoopS K C f sg H T i Q E j a H2) (h : ∀ hj : j < T.length, sg T[j] = none) {p : Addr} {H' : Hp} (g : Same H2 H') (hp : H' p = some (.tup [a, .int (j : Nat)])) : Q (.ref p) H' := by
  obtain ⟨n, e, g2, ra, h1, h2, hn, q, qn⟩ := L
  have hd : T.drop j = T[j] :: T.drop (j + 1) := List.drop_eq_getElem_cons h2
  cases n with
  | zero => rw [List.length_drop] at hn; omega
  | succ n =>
    refine q e j ?_ h1 h2 p a H' (g2.trans g) hp (Rp.mono g ra)
    rw [hd, loopF_cons, h h2]
theorem LoopS.step (L : LoopS K C f sg H T i Q E j a H2) (hsg : sg (Str.ofString "") = none) {o : Op} (h : ∀ hj : j < T.length, sg T[j] = some o) (hT : TokOk T) {p : Addr} (hp : H2 p = some (.lst (T.map V.str))) {d : Nat} {Q' : VK}
    (hq : ∀ j' r ar H3, j < j' → j' < T.length → Same H2 H3 → H3 r = some (.tup [ar, .int (j' : Nat)]) → (∀ q H4, Same H3 H4 → H4 q = some (.tup [.str o.sg, a, ar]) → LoopS K C f sg H T i Q E j' (.ref q) H4) → Q' (.ref r) H3) :
    spRd K C f d [.ref p, .int ((j : Int) + 1), .int d] H2 Q' E := by
  obtain ⟨n, e, g2, ra, h1, h2, hn, q, qn⟩ := L
  have hd : T.drop j = T[j] :: T.drop (j + 1) := List.drop_eq_getElem_cons h2
  have hj1 : j + 1 < T.length := by
    by_cases hh : j + 1 < T.length
    · exact hh
    · have he := hT.ends.drop h2
      rw [hd, List.drop_eq_nil_of_le (by omega)] at he
      unfold Ends at he
      rw [List.getLast?_singleton] at he
      have := h h2
      rw [Option.some.inj he, hsg] at this; cases this
  cases n with
  | zero => rw [List.length_drop] at hn; omega
  | succ n =>
    rw [hd, loopF_cons, h h2] at q qn
    refine ⟨p, T, j + 1, rfl, hp, hT, hj1, fun e2 k hf h3 h4 r ar H3 g3 hr3 rar => hq k r ar H3 (by omega) h4 g3 hr3 fun q4 H4 g4 h4' => ?_, fun hf H3 g3 => ?_⟩
    · simp only [hf] at q qn
      refine ⟨n, .bin o e e2, g2.trans (g3.trans g4), .tup h4' (.cons (.str _) (.cons (Rp.mono (g3.trans g4) ra) (.cons (Rp.mono g4 rar) .nil))), by omega, h4, ?_, q, qn⟩
      rw [List.length_drop] at hn ⊢
      omega
    · simp only [hf] at qn
      exact qn trivial _ (g2.trans g3)
end
theorem ok_read_term (D : DefAt K mg "read_term" s_read_term ["tokens", "at", "depth"]) {C : Addr} {n d : Nat} {f : Pz}
    (G_read_factor : OkR P w K mg base n "read_factor" ["tokens", "at", "depth"] (spRd K C f d)) : OkR P w K mg base (n + 1) "read_term" ["tokens", "at", "depth"] (spRd K C (chainF f sgMul) d) := by
  refine D.okR sc_read_term (fun vs H Q E h => ?_) (fun ff cdv A outer s H vs Q E hr h => ?_)
  · obtain ⟨p, T, i, rfl, _⟩ := h; rfl
  obtain ⟨p, T, i, rfl, hp, hT, hi, q, qn⟩ := h
  refine ⟨_, (pss_cons (ps_asg (pe_defR G_read_factor passR hr rfl (pa_c (pv 0) (pa_c (pv 1) (pa_c (pv 2) pa_nil)))) (pg_tupG 2 rfl (pgs_cons (pg_name (i := 3) sc_read_term.nd rfl (Or.inl rfl)) (pgs_cons (pg_name (i := 1) sc_read_term.nd rfl (Or.inl rfl)) pgs_nil))))
  (pss_cons (ps_while owns_def (pt_cmpR op_eq (pe_ix ix_g (pv 0) (pv 1) (fun _ _ => rfl)) pe_str (nomark _))
  (pss_cons (ps_asg (pe_defR G_read_factor passR hr rfl (pa_c (pv 0) (pa_c (pe_op op_add (pv 1) pe_int) (pa_c (pv 2) pa_nil)))) (pg_tupG 2 rfl (pgs_cons (pg_name (i := 4) sc_read_term.nd rfl (Or.inl rfl)) (pgs_cons (pg_name (i := 1) sc_read_term.nd rfl (Or.inl rfl)) pgs_nil))))
  (pss_one (ps_set (i := 3) sc_read_term.nd rfl (Or.inl rfl) (pe_tupG (pa_c pe_str (pa_c (pv 3) (pa_c (pv 4) pa_nil))))))))
  (pss_one (ps_ret (pe_tupG (pa_c (pv 3) (pa_c (pv 1) pa_nil))))))), ?_⟩
  walk_at "rd"
  refine ⟨p, T, i, rfl, hp, hT, hi, fun e j hj h1 h2 r a H1 g1 hr1 ra => ⟨r, rfl, _, hr1, rfl, _, _, rfl, _, _, rfl, rfl, ?_⟩, fun hj H1 g1 => qn (by unfold chainF; rw [hj]) _ g1⟩
  have hres : chainF f sgMul (T.drop i) = loopF f sgMul (T.drop j).length e (T.drop j) := by unfold chainF; rw [hj]
  rw [hres] at q qn
  refine ⟨fun m σ H2 => ∃ (j : Nat) (a : V) (v : Option V), σ = [some (.ref p), some (.int j), some (.int d), some a, v] ∧ m = T.length - j ∧ LoopS K C f sgMul H T i Q E j a H2, ⟨_, j, a, _, rfl, rfl, _, e, g1, ra, h1, h2, Nat.le_refl _, q, qn⟩, ?_⟩
  clear q qn hres hj hr1 g1 ra h2 h1 hi
  rintro m σ H2 ⟨j, a, v, rfl, rfl, L⟩
  obtain ⟨n, e, g2, _, _, h2, _⟩ := id L
  have hp2 := g2 _ _ hp
  have ha := at_nat h2
  walk_at "rd"
  refine ite2 (fun c => ?_) (fun c => ?_)
  · refine ⟨fun σ' H' => ∃ (j' : Nat) (a : V) (v : Option V), σ' = [some (.ref p), some (.int j'), some (.int d), some a, v] ∧ j < j' ∧ j' < T.length ∧ LoopS K C f sgMul H T i Q E j' a H', fun σ' H' ⟨j', a, v, e, hl, hl2, L'⟩ => ⟨T.length - j', by omega, j', a, v, e, rfl, L'⟩, ?_⟩
    refine L.step sgMul_last (o := .mul) (fun _ => if_pos c) hT hp2 fun j' r ar H3 hj hj2 g3 hr3 hL => ⟨r, rfl, _, hr3, rfl, _, _, rfl, _, _, rfl, rfl, fun p4 H4 hp4 g4 h4 => ⟨j', _, _, rfl, hj, hj2, hL p4 H4 g4 h4⟩⟩
  · intro p3 H3 hp3 g3 h3
    exact L.stop (fun _ => if_neg c) g3 h3
theorem ok_read_sum (D : DefAt K mg "read_sum" s_read_sum ["tokens", "at", "depth"]) {C : Addr} {n d : Nat} {f : Pz}
    (G_read_term : OkR P w K mg base n "read_term" ["tokens", "at", "depth"] (spRd K C f d)) : OkR P w K mg base (n + 1) "read_sum" ["tokens", "at", "depth"] (spRd K C (chainF f sgSum) d) := by
  refine D.okR sc_read_sum (fun vs H Q E h => ?_) (fun ff cdv A outer s H vs Q E hr h => ?_)
  · obtain ⟨p, T, i, rfl, _⟩ := h; rfl
  obtain ⟨p, T, i, rfl, hp, hT, hi, q, qn⟩ := h
  refine ⟨_, (pss_cons (ps_asg (pe_defR G_read_term passR hr rfl (pa_c (pv 0) (pa_c (pv 1) (pa_c (pv 2) pa_nil)))) (pg_tupG 2 rfl (pgs_cons (pg_name (i := 3) sc_read_sum.nd rfl (Or.inl rfl)) (pgs_cons (pg_name (i := 1) sc_read_sum.nd rfl (Or.inl rfl)) pgs_nil))))
  (pss_cons (ps_while owns_def (pt_cmpR op_inG (pe_ix ix_g (pv 0) (pv 1) (fun _ _ => rfl)) (pe_tupG (pa_c pe_str (pa_c pe_str pa_nil))) (by with_unfolding_all rfl))
  (pss_cons (ps_set (i := 4) sc_read_sum.nd rfl (Or.inl rfl) (pe_ix ix_g (pv 0) (pv 1) (fun _ _ => rfl)))
  (pss_cons (ps_asg (pe_defR G_read_term passR hr rfl (pa_c (pv 0) (pa_c (pe_op op_add (pv 1) pe_int) (pa_c (pv 2) pa_nil)))) (pg_tupG 2 rfl (pgs_cons (pg_name (i := 5) sc_read_sum.nd rfl (Or.inl rfl)) (pgs_cons (pg_name (i := 1) sc_read_sum.nd rfl (Or.inl rfl)) pgs_nil))))
  (pss_one (ps_set (i := 3) sc_read_sum.nd rfl (Or.inl rfl) (pe_tupG (pa_c (pv 4) (pa_c (pv 3) (pa_c (pv 5) pa_nil)))))))))
  (pss_one (ps_ret (pe_tupG (pa_c (pv 3) (pa_c (pv 1) pa_nil))))))), ?_⟩
  walk_at "rd"
  refine ⟨p, T, i, rfl, hp, hT, hi, fun e j hj h1 h2 r a H1 g1 hr1 ra => ⟨r, rfl, _, hr1, rfl, _, _, rfl, _, _, rfl, rfl, ?_⟩, fun hj H1 g1 => qn (by unfold chainF; rw [hj]) _ g1⟩
  have hres : chainF f sgSum (T.drop i) = loopF f sgSum (T.drop j).length e (T.drop j) := by unfold chainF; rw [hj]
  rw [hres] at q qn
  refine ⟨fun m σ H2 => ∃ (j : Nat) (a : V) (v v' : Option V), σ = [some (.ref p), some (.int j), some (.int d), some a, v, v'] ∧ m = T.length - j ∧ LoopS K C f sgSum H T i Q E j a H2, ⟨_, j, a, _, _, rfl, rfl, _, e, g1, ra, h1, h2, Nat.le_refl _, q, qn⟩, ?_⟩
  clear q qn hres hj hr1 g1 ra h2 h1 hi
  rintro m σ H2 ⟨j, a, v, v', rfl, rfl, L⟩
  obtain ⟨n, e, g2, ra, h1, h2, hn, q, qn⟩ := id L
  have hp2 := g2 _ _ hp
  have ha := at_nat h2
  walk_at "rd"
  clear ra h1 hn q qn
  intro p3 H3 hp3 g3 h3
  refine ⟨_, .inl h3, rfl, ?_⟩
  simp only [inV_cons, inV_nil, eqV_ss, Bool.or_false, Bool.or_eq_true, decide_eq_true_eq]
  have L3 := L.mono g3
  refine ite2 (fun c => ?_) (fun c => ?_)
  · refine ⟨fun σ' H' => ∃ (j' : Nat) (a : V) (v v' : Option V), σ' = [some (.ref p), some (.int j'), some (.int d), some a, v, v'] ∧ j < j' ∧ j' < T.length ∧ LoopS K C f sgSum H T i Q E j' a H', fun σ' H' ⟨j', a, v, v', e, hl, hl2, L'⟩ => ⟨T.length - j', by omega, j', a, v, v', e, rfl, L'⟩, _, .inr (g3 _ _ hp2), _, ha, ?_⟩
    have ho : ∃ o : Op, T[j] = o.sg ∧ sgSum T[j] = some o := by
      rcases c with c | c
      · exact ⟨.add, c.symm, if_pos c.symm⟩
      · refine ⟨.sub, c.symm, ?_⟩
        unfold sgSum
        rw [← c, if_neg (by decide +kernel), if_pos rfl]
    obtain ⟨o, ho1, ho2⟩ := ho
    rw [ho1]
    refine L3.step sgSum_last (o := o) (fun _ => ho2) hT (g3 _ _ hp2) fun j' r ar H4 hj hj2 g4 hr4 hL => ⟨r, rfl, _, hr4, rfl, _, _, rfl, _, _, rfl, rfl, fun p5 H5 hp5 g5 h5 => ⟨j', _, _, _, rfl, hj, hj2, hL p5 H5 g5 h5⟩⟩
  · intro p4 H4 hp4 g4 h4
    refine L3.stop (fun _ => ?_) g4 h4
    unfold sgSum
    rw [if_neg (fun h => c (.inl h.symm)), if_neg (fun h => c (.inr h.symm))]
end
end K05

set_option Elab.async false
set_option linter.all false
set_option maxRecDepth 100000
set_option maxHeartbeats 4000000
namespace K05
open PySem L2
def exprOf (x : Str) : Option Tr := if 60 < x.length then none else match smF 5 (tokensOf x) with
  | some (e, t :: _) => if t = Str.ofString "" then some e else none
  | _ => none
def TokS (s : List Str × Str) (n : Nat) : Prop := (∀ t ∈ s.1, t.length ≤ n) ∧ s.2.length ≤ n
theorem tokS_run : ∀ (l : List Nat) (s : List Str × Str) (n : Nat), TokS s n → TokS (l.foldl tokStep s) (n + l.length)
  | [], s, n, h => h
  | c :: l, s, n, h => by
    have e : n + (c :: l).length = (n + 1) + l.length := by rw [List.length_cons]; omega
    rw [e]
    refine tokS_run l (tokStep s c) (n + 1) ?_
    obtain ⟨h1, h2⟩ := h
    have h3 : (⟨#[c]⟩ : Str).length = 1 := rfl
    unfold tokStep TokS
    split
    · refine ⟨fun t ht => ?_, Nat.zero_le _⟩
      have ht' : t ∈ s.1 ++ [s.2] ++ [⟨#[c]⟩] := ht
      simp only [List.mem_append, List.mem_singleton] at ht'
      rcases ht' with (h | rfl) | rfl
      · have := h1 t h; omega
      · omega
      · omega
    · refine ⟨fun t ht => Nat.le_succ_of_le (h1 t ht), ?_⟩
      show (s.2 ++ _).length ≤ _
      rw [slen]; omega
theorem tok_ok {x : Str} (h : x.length ≤ 60) : TokOk (tokensOf x) := by
  have hl : x.cps.toList.length = x.length := Array.length_toList
  refine ⟨?_, ?_, fun t ht => ?_⟩
  · unfold Ends tokensOf; rw [List.getLast?_concat]
  · unfold tokensOf
    have h1 := List.length_filter_le (fun t => !decide (t = Str.ofString "")) (tokAll (tokRun x.cps.toList))
    have h2 := (tokB x.cps.toList).1
    have h3 : (tokAll (tokRun x.cps.toList)).length = (tokRun x.cps.toList).1.length + 1 := by unfold tokAll; rw [List.length_append, List.length_singleton]
    rw [List.length_append, List.length_singleton]
    omega
  · have b := tokS_run x.cps.toList ([], Str.ofString "") 0 (And.intro (fun t ht => absurd ht (List.not_mem_nil)) (Nat.zero_le _))
    unfold tokensOf at ht
    rw [List.mem_append] at ht
    rcases ht with ht | ht
    · have hm := (List.mem_filter.mp ht).1
      unfold tokAll at hm
      rw [List.mem_append, List.mem_singleton] at hm
      rcases hm with hm | rfl
      · have := b.1 t hm; omega
      · have : (tokRun x.cps.toList).2.length ≤ 0 + x.cps.toList.length := b.2
        omega
    · rw [List.mem_singleton.mp ht]; exact Nat.zero_le _
section
variable {P : Program} {w : World} {K : PySem.W.Frag} {mg : Str → Option Value} {base : Heap}
theorem ok_sums {C : Addr} {t1 : Tok} (Df : DefAt K mg "read_factor" s_read_factor ["tokens", "at", "depth"]) (Dt : DefAt K mg "read_term" s_read_term ["tokens", "at", "depth"]) (Ds : DefAt K mg "read_sum" s_read_sum ["tokens", "at", "depth"])
    (hMB : mg "MOST_BRACKETS" = some (.int 5 t1)) (O : ExcAt K mg "NoRow" C) (G_leaf : OkR P w K mg base 3 "leaf" ["token"] (spLeaf K C)) :
    ∀ k, k ≤ 5 → OkR P w K mg base (3 * k + 6) "read_sum" ["tokens", "at", "depth"] (spRd K C (smF k) (5 - k))
  | 0, _ => ok_read_sum Ds (ok_read_term Dt (ok_read_factor Df (k := 0) (by omega) (fun _ _ => rfl) hMB O G_leaf (spS := fun _ _ _ _ => False) (fun h => absurd rfl h) (Ds.neverR 3 fun _ _ _ _ h => h) (Nat.le_refl _)))
  | k + 1, hk => by
    have e : 5 - k = 6 - (k + 1) := by omega
    have G := ok_sums Df Dt Ds hMB O G_leaf k (by omega)
    rw [e] at G
    exact ok_read_sum Ds (ok_read_term Dt (ok_read_factor Df (k := k + 1) hk (fun h => by omega) hMB O G_leaf (fun _ _ _ _ _ h => h) G (by omega)))
def spExpr (K : PySem.W.Frag) (C : Addr) : Sp := fun vs H Q E => ∃ x : Str, vs = [.str x] ∧ x.length ≤ 10000 ∧ (∀ t, exprOf x = some t → ∀ r H', Same H H' → Rp K H' r t.toD → Q r H') ∧ (exprOf x = none → ∀ H', Same H H' → E (.ref C) none H')
theorem ok_expression (D : DefAt K mg "expression" s_expression ["word"]) {C : Addr} {t1 t2 : Tok} (hMS : mg "MOST_SIGNS" = some (.int 60 t1)) (hLAST : mg "LAST" = some (.str "" t2)) (hlen : mg "len" = none) (O_NoRow : ExcAt K mg "NoRow" C)
    (G_tokens_of : OkD P w K mg base 1 "tokens_of" ["word"] spTok) (G_read_sum : OkR P w K mg base 21 "read_sum" ["tokens", "at", "depth"] (spRd K C (smF 5) 0)) : OkR P w K mg base 22 "expression" ["word"] (spExpr K C) := by
  refine D.okR sc_expression (fun vs H Q E h => ?_) (fun f cdv A outer s H vs Q E hr h => ?_)
  · obtain ⟨x, rfl, _⟩ := h; rfl
  obtain ⟨x, rfl, hz, q, qn⟩ := h
  refine ⟨_, (pss_cons (ps_if (pt_cmpR op_gt (pe_cB call_len_str rfl hlen PySem.boot_len (pa_c (pv 0) pa_nil)) (pe_glob (v := .int 60) rfl hMS ⟨_, rfl⟩) (nomark _))
  (pss_one (ps_raise raises_def rfl O_NoRow rfl (pa_c pe_str pa_nil)))
  pss_nil)
  (pss_cons (ps_set (i := 1) sc_expression.nd rfl (Or.inl rfl) (pe_defR G_tokens_of.toR passR hr rfl (pa_c (pv 0) pa_nil)))
  (pss_cons (ps_asg (pe_defR G_read_sum passR hr rfl (pa_c (pv 1) (pa_c pe_int (pa_c pe_int pa_nil)))) (pg_tupG 2 rfl (pgs_cons (pg_name (i := 2) sc_expression.nd rfl (Or.inl rfl)) (pgs_cons (pg_name (i := 3) sc_expression.nd rfl (Or.inl rfl)) pgs_nil))))
  (pss_cons (ps_if (pt_cmpR op_ne (pe_ix ix_g (pv 1) (pv 3) (fun _ _ => rfl)) (pe_glob (v := .str "") rfl hLAST ⟨_, rfl⟩) (nomark _))
  (pss_one (ps_raise raises_def rfl O_NoRow rfl (pa_c (pe_fstr (pj_cons pe_str (pj_cons (pe_fmt (pv 0)) pj_nil))) pa_nil)))
  pss_nil)
  (pss_one (ps_ret (pv 2))))))), ?_⟩
  have hz' : x.length ≤ sizeLine := by unfold sizeLine; omega
  walk_at "rd"
  refine ite2 (fun c => ?_) (fun c => ?_)
  · refine qn ?_ H (Same.refl H)
    unfold exprOf; rw [if_pos (by omega)]
  · have c60 : x.length ≤ 60 := by omega
    unfold exprOf at q qn
    rw [if_neg (by omega)] at q qn
    have hT := tok_ok c60
    have h0 : 0 < (tokensOf x).length := by unfold tokensOf; rw [List.length_append, List.length_singleton]; omega
    refine ⟨x, rfl, c60, fun p H1 hp g1 h1 => ⟨p, _, 0, rfl, h1, hT, h0, fun e n hf hn0 hn r a H2 g2 hr2 ra => ⟨r, rfl, _, hr2, rfl, _, _, rfl, _, _, rfl, rfl, p, rfl, _, rfl, _, .inr (g2 _ _ h1), _, at_nat hn, rfl, ?_⟩, fun hf H2 g2 => ?_⟩⟩
    · rw [List.drop_zero, List.drop_eq_getElem_cons hn] at hf
      rw [hf] at q qn
      by_cases ce : (tokensOf x)[n] = Str.ofString ""
      · rw [ce, decide_eq_true rfl]
        exact iteF (q e (if_pos ce) a H2 (g1.trans g2) ra)
      · rw [decide_eq_false (fun h => ce (V.str.inj h))]
        have hm : (Str.empty ++ Str.ofString "no expression: " ++ x).length ≤ sizeLine := by
          rw [slen, slen]
          have e1 : (Str.ofString "no expression: ").length = 15 := by decide +kernel
          have e0 : Str.empty.length = 0 := rfl
          rw [e1, e0]
          unfold sizeLine
          omega
        exact iteT ⟨by decide +kernel, hm, hm, qn (if_neg ce) H2 (g1.trans g2)⟩
    · rw [List.drop_zero] at hf
      rw [hf] at qn
      exact qn rfl H2 (g1.trans g2)
end
end K05

set_option Elab.async false
set_option linter.all false
set_option maxRecDepth 100000
set_option maxHeartbeats 4000000
namespace K05
open PySem L2
/-! ### what is written is read -/
def Len (f : Pz) : Prop := ∀ r e r2, f r = some (e, r2) → r2.length < r.length
theorem loop_len {f : Pz} {sg : Str → Option Op} (h : Len f) : ∀ (n : Nat) (e : Tr) (rest : List Str) (e' : Tr) (r' : List Str), loopF f sg n e rest = some (e', r') → r'.length ≤ rest.length
  | 0, e, rest, e', r', hf => by cases hf; exact Nat.le_refl _
  | n + 1, e, [], e', r', hf => by cases hf; exact Nat.le_refl _
  | n + 1, e, t :: r, e', r', hf => by
    unfold loopF at hf
    dsimp only at hf
    cases hs : sg t with
    | none => rw [hs] at hf; cases hf; exact Nat.le_refl _
    | some o =>
      rw [hs] at hf
      dsimp only at hf
      cases hr : f r with
      | none => rw [hr] at hf; cases hf
      | some p =>
        obtain ⟨e2, r2⟩ := p
        rw [hr] at hf
        dsimp only at hf
        have h1 := loop_len h n _ _ _ _ hf
        have h2 := h _ _ _ hr
        rw [List.length_cons]; omega
theorem chain_len {f : Pz} {sg : Str → Option Op} (h : Len f) : Len (chainF f sg) := by
  intro r e r2 hf
  unfold chainF at hf
  cases hr : f r with
  | none => rw [hr] at hf; cases hf
  | some p =>
    obtain ⟨e1, r1⟩ := p
    rw [hr] at hf
    dsimp only at hf
    have := loop_len h _ _ _ _ _ hf
    have := h _ _ _ hr
    omega
theorem factor_len {sub : Pz} (h : Len sub) : Len (factorF sub) := by
  intro r e r2 hf
  cases r with
  | nil => cases hf
  | cons t r =>
    rw [factorF_cons] at hf
    rw [List.length_cons]
    by_cases c : t = Str.ofString "("
    · rw [if_pos c] at hf
      cases hs : sub r with
      | none => rw [hs] at hf; cases hf
      | some p =>
        obtain ⟨e1, r1⟩ := p
        rw [hs] at hf
        have h1 := h _ _ _ hs
        cases r1 with
        | nil => cases hf
        | cons t1 r1 =>
          unfold closeF at hf
          dsimp only at hf
          split at hf
          · cases hf; rw [List.length_cons] at h1; omega
          · cases hf
    · rw [if_neg c] at hf
      cases hl : leafOf t with
      | none => rw [hl] at hf; cases hf
      | some u => rw [hl] at hf; cases hf; omega
def subF : Nat → Pz
  | 0 => fun _ => none
  | k + 1 => smF k
theorem smF_eq : ∀ k, smF k = chainF (chainF (factorF (subF k)) sgMul) sgSum
  | 0 => rfl
  | _ + 1 => rfl
theorem sub_len : ∀ k, Len (subF k)
  | 0 => fun _ _ _ h => nomatch h
  | k + 1 => by
    show Len (smF k)
    rw [smF_eq]
    exact chain_len (chain_len (factor_len (sub_len k)))
theorem loop_fuel {f : Pz} {sg : Str → Option Op} (h : Len f) : ∀ (n m : Nat) (e : Tr) (rest : List Str), rest.length ≤ n → rest.length ≤ m → loopF f sg n e rest = loopF f sg m e rest
  | 0, 0, e, rest, _, _ => rfl
  | 0, m + 1, e, [], _, _ => rfl
  | 0, m + 1, e, t :: r, h1, _ => absurd h1 (by rw [List.length_cons]; omega)
  | n + 1, 0, e, [], _, _ => rfl
  | n + 1, 0, e, t :: r, _, h1 => absurd h1 (by rw [List.length_cons]; omega)
  | n + 1, m + 1, e, [], _, _ => rfl
  | n + 1, m + 1, e, t :: r, h1, h2 => by
    unfold loopF
    dsimp only
    cases hs : sg t with
    | none => rfl
    | some o =>
      dsimp only
      cases hr : f r with
      | none => rfl
      | some p =>
        obtain ⟨e2, r2⟩ := p
        dsimp only
        have := h _ _ _ hr
        rw [List.length_cons] at h1 h2
        exact loop_fuel h n m _ _ (by omega) (by omega)
abbrev full (f : Pz) (sg : Str → Option Op) (e : Tr) (rest : List Str) : Option (Tr × List Str) := loopF f sg rest.length e rest
theorem full_step {f : Pz} {sg : Str → Option Op} (h : Len f) {e e2 : Tr} {o : Op} {t : Str} {r r2 : List Str} (hs : sg t = some o) (hr : f r = some (e2, r2)) : full f sg e (t :: r) = full f sg (.bin o e e2) r2 := by
  unfold full
  rw [List.length_cons]
  show loopF f sg (r.length + 1) e (t :: r) = _
  rw [loopF, hs]
  dsimp only
  rw [hr]
  exact loop_fuel h _ _ _ _ (Nat.le_of_lt (h _ _ _ hr)) (Nat.le_refl _)
theorem full_fail {f : Pz} {sg : Str → Option Op} {e : Tr} {o : Op} {t : Str} {r : List Str} (hs : sg t = some o) (hr : f r = none) : full f sg e (t :: r) = none := by
  unfold full
  rw [List.length_cons, loopF, hs]
  dsimp only
  rw [hr]
def NoHead (sg : Str → Option Op) : List Str → Prop
  | [] => True
  | t :: _ => sg t = none
theorem full_stop {f : Pz} {sg : Str → Option Op} {e : Tr} : ∀ {rest : List Str}, NoHead sg rest → full f sg e rest = some (e, rest)
  | [], _ => rfl
  | t :: r, h => by
    have h : sg t = none := h
    unfold full
    rw [List.length_cons, loopF, h]
theorem chain_ok {f : Pz} {sg : Str → Option Op} {e : Tr} {a r : List Str} (h : f a = some (e, r)) : chainF f sg a = full f sg e r := by
  unfold chainF
  rw [h]
theorem chain_no {f : Pz} {sg : Str → Option Op} {a : List Str} (h : f a = none) : chainF f sg a = none := by
  unfold chainF
  rw [h]
/-- how a tree may be written: level 0 a factor, 1 a term, 2 a sum; d how deep its brackets are -/
inductive Pr : Nat → Tr → List Str → Nat → Prop
  | leaf {lv : Nat} {t : Tr} {x : Str} : x ≠ Str.ofString "(" → leafOf x = some t → Pr lv t [x] 0
  | brk {lv : Nat} {t : Tr} {a : List Str} {d : Nat} : Pr 2 t a d → Pr lv t (Str.ofString "(" :: (a ++ [Str.ofString ")"])) (d + 1)
  | mul {lv : Nat} {l r : Tr} {a b : List Str} {d e : Nat} : Pr 1 l a d → Pr 0 r b e → 1 ≤ lv → Pr lv (.bin .mul l r) (a ++ Str.ofString "*" :: b) (max d e)
  | sum {o : Op} {l r : Tr} {a b : List Str} {d e : Nat} : Pr 2 l a d → Pr 1 r b e → sgSum o.sg = some o → Pr 2 (.bin o l r) (a ++ o.sg :: b) (max d e)
theorem Pr.up {lv lv' : Nat} {t : Tr} {a : List Str} {d : Nat} (h : Pr lv t a d) (hl : lv ≤ lv') (hm : lv' ≤ 2) : Pr lv' t a d := by
  cases h with
  | leaf h1 h2 => exact .leaf h1 h2
  | brk h => exact .brk h
  | mul h1 h2 h3 => exact .mul h1 h2 (Nat.le_trans h3 hl)
  | sum h1 h2 h3 =>
    have : lv' = 2 := Nat.le_antisymm hm hl
    subst this
    exact .sum h1 h2 h3
theorem mul_sum {t : Str} {o : Op} (h : sgSum t = some o) : sgMul t = none := by
  unfold sgSum at h
  unfold sgMul
  split at h
  · rename_i e; subst e; decide +kernel
  · split at h
    · rename_i e; subst e; decide +kernel
    · cases h
structure Reads0 (k : Nat) (t : Tr) (a : List Str) (d : Nat) : Prop where
  ok : d ≤ k → ∀ rest, factorF (subF k) (a ++ rest) = some (t, rest)
  no : k < d → ∀ rest, factorF (subF k) (a ++ rest) = none
structure Reads1 (k : Nat) (t : Tr) (a : List Str) (d : Nat) : Prop where
  ok : d ≤ k → ∀ rest, chainF (factorF (subF k)) sgMul (a ++ rest) = full (factorF (subF k)) sgMul t rest
  no : k < d → ∀ rest, chainF (factorF (subF k)) sgMul (a ++ rest) = none
structure Reads2 (k : Nat) (t : Tr) (a : List Str) (d : Nat) : Prop where
  ok : d ≤ k → ∀ rest, NoHead sgMul rest → smF k (a ++ rest) = full (chainF (factorF (subF k)) sgMul) sgSum t rest
  no : k < d → ∀ rest, NoHead sgMul rest → smF k (a ++ rest) = none
theorem Reads0.one {k : Nat} {t : Tr} {a : List Str} {d : Nat} (h : Reads0 k t a d) : Reads1 k t a d :=
  ⟨fun hd rest => chain_ok (h.ok hd rest), fun hd rest => chain_no (h.no hd rest)⟩
theorem Reads1.two {k : Nat} {t : Tr} {a : List Str} {d : Nat} (h : Reads1 k t a d) : Reads2 k t a d := by
  refine ⟨fun hd rest hr => ?_, fun hd rest hr => ?_⟩
  · rw [smF_eq]
    exact chain_ok ((h.ok hd rest).trans (full_stop hr))
  · rw [smF_eq]
    exact chain_no (h.no hd rest)
theorem leaf_reads {k : Nat} {t : Tr} {x : Str} (h1 : x ≠ Str.ofString "(") (h2 : leafOf x = some t) : Reads0 k t [x] 0 := by
  refine ⟨fun _ rest => ?_, fun h => absurd h (Nat.not_lt_zero _)⟩
  show factorF (subF k) (x :: rest) = _
  rw [factorF_cons, if_neg h1, h2]
  rfl
theorem brk_reads {t : Tr} {a : List Str} {d : Nat} (h : ∀ k, Reads2 k t a d) (k : Nat) : Reads0 k t (Str.ofString "(" :: (a ++ [Str.ofString ")"])) (d + 1) := by
  have e : ∀ rest, (Str.ofString "(" :: (a ++ [Str.ofString ")"])) ++ rest = Str.ofString "(" :: (a ++ Str.ofString ")" :: rest) := fun rest => by simp
  have nm : ∀ rest : List Str, NoHead sgMul (Str.ofString ")" :: rest) := fun rest => (show sgMul (Str.ofString ")") = none by decide +kernel)
  have ns : ∀ rest : List Str, NoHead sgSum (Str.ofString ")" :: rest) := fun rest => (show sgSum (Str.ofString ")") = none by decide +kernel)
  refine ⟨fun hd rest => ?_, fun hd rest => ?_⟩
  · rw [e, factorF_cons, if_pos rfl]
    cases k with
    | zero => omega
    | succ k =>
      show closeF (smF k (a ++ Str.ofString ")" :: rest)) = _
      rw [(h k).ok (by omega) _ (nm rest), full_stop (ns rest)]
      unfold closeF
      dsimp only
      rw [if_pos rfl]
  · rw [e, factorF_cons, if_pos rfl]
    cases k with
    | zero => rfl
    | succ k =>
      show closeF (smF k (a ++ Str.ofString ")" :: rest)) = _
      rw [(h k).no (by omega) _ (nm rest)]
      rfl
theorem mul_reads {k : Nat} {l r : Tr} {a b : List Str} {d e : Nat} (hl : Reads1 k l a d) (hr : Reads0 k r b e) : Reads1 k (.bin .mul l r) (a ++ Str.ofString "*" :: b) (max d e) := by
  have sg : sgMul (Str.ofString "*") = some .mul := by unfold sgMul; rw [if_pos rfl]
  have ea : ∀ rest, (a ++ Str.ofString "*" :: b) ++ rest = a ++ (Str.ofString "*" :: (b ++ rest)) := fun rest => by simp
  refine ⟨fun hd rest => ?_, fun hd rest => ?_⟩
  · rw [ea, hl.ok (by omega), full_step (factor_len (sub_len k)) sg (hr.ok (by omega) rest)]
  · rw [ea]
    by_cases hk : k < d
    · exact hl.no hk _
    · rw [hl.ok (by omega), full_fail sg (hr.no (by omega) rest)]
theorem sum_reads {k : Nat} {o : Op} {l r : Tr} {a b : List Str} {d e : Nat} (ho : sgSum o.sg = some o) (hl : Reads2 k l a d) (hr : Reads1 k r b e) : Reads2 k (.bin o l r) (a ++ o.sg :: b) (max d e) := by
  have ea : ∀ rest, (a ++ o.sg :: b) ++ rest = a ++ (o.sg :: (b ++ rest)) := fun rest => by simp
  have nm : ∀ rest : List Str, NoHead sgMul (o.sg :: rest) := fun rest => mul_sum ho
  refine ⟨fun hd rest hn => ?_, fun hd rest hn => ?_⟩
  · rw [ea, hl.ok (by omega) _ (nm _), full_step (chain_len (factor_len (sub_len k))) ho ((hr.ok (by omega) rest).trans (full_stop hn))]
  · rw [ea]
    by_cases hk : k < d
    · exact hl.no hk _ (nm _)
    · rw [hl.ok (by omega) _ (nm _), full_fail ho (hr.no (by omega) rest)]
theorem Pr.reads {lv : Nat} {t : Tr} {a : List Str} {d : Nat} (h : Pr lv t a d) : (lv = 0 → ∀ k, Reads0 k t a d) ∧ (lv ≤ 1 → ∀ k, Reads1 k t a d) ∧ ∀ k, Reads2 k t a d := by
  induction h with
  | leaf h1 h2 => exact ⟨fun _ k => leaf_reads h1 h2, fun _ k => (leaf_reads h1 h2).one, fun k => (leaf_reads h1 h2).one.two⟩
  | brk _ ih => exact ⟨fun _ k => brk_reads ih.2.2 k, fun _ k => (brk_reads ih.2.2 k).one, fun k => (brk_reads ih.2.2 k).one.two⟩
  | mul _ _ h3 ih1 ih2 => exact ⟨fun h => by omega, fun _ k => mul_reads (ih1.2.1 (Nat.le_refl _) k) (ih2.1 rfl k), fun k => (mul_reads (ih1.2.1 (Nat.le_refl _) k) (ih2.1 rfl k)).two⟩
  | sum _ _ h3 ih1 ih2 => exact ⟨fun h => by omega, fun h => by omega, fun k => sum_reads h3 (ih1.2.2 k) (ih2.2.1 (Nat.le_refl _) k)⟩
theorem Pr.whole {t : Tr} {a : List Str} {d : Nat} (h : Pr 2 t a d) (k : Nat) : smF k (a ++ [Str.ofString ""]) = if d ≤ k then some (t, [Str.ofString ""]) else none := by
  have nm : NoHead sgMul [Str.ofString ""] := (show sgMul (Str.ofString "") = none by decide +kernel)
  have ns : NoHead sgSum [Str.ofString ""] := (show sgSum (Str.ofString "") = none by decide +kernel)
  by_cases hd : d ≤ k
  · rw [if_pos hd, (h.reads.2.2 k).ok hd _ nm, full_stop ns]
  · rw [if_neg hd, (h.reads.2.2 k).no (by omega) _ nm]
/-! ### the written word, cut into tokens -/
def flat (a : List Str) : List Nat := a.flatMap fun t => t.cps.toList
def isSg (t : Str) : Prop := ∃ c, t = ⟨#[c]⟩ ∧ isL (Str.ofString "+-*()") c = true
def isLf (t : Str) : Prop := t ≠ Str.ofString "" ∧ ∀ c ∈ t.cps.toList, isL (Str.ofString "+-*()") c = false
/-- no two words beside one another -/
def Apart : Bool → List Str → Prop
  | _, [] => True
  | b, t :: r => (isSg t ∧ Apart false r) ∨ (b = false ∧ isLf t ∧ Apart true r)
theorem run_leaf : ∀ (l : List Nat) (s : List Str × Str), (∀ c ∈ l, isL (Str.ofString "+-*()") c = false) → l.foldl tokStep s = (s.1, ⟨s.2.cps ++ l.toArray⟩)
  | [], s, _ => by simp
  | c :: l, s, h => by
    rw [List.foldl_cons]
    have e : tokStep s c = (s.1, s.2 ++ ⟨#[c]⟩) := by
      unfold tokStep
      rw [if_neg (by rw [h c List.mem_cons_self]; exact Bool.false_ne_true)]
    rw [e, run_leaf l _ fun d hd => h d (List.mem_cons_of_mem _ hd)]
    have : (s.2 ++ (⟨#[c]⟩ : Str)).cps ++ l.toArray = s.2.cps ++ (c :: l).toArray := by
      show (s.2.cps ++ #[c]) ++ l.toArray = _
      rw [Array.append_assoc]
      congr 1
      simp
    rw [this]
def fil (l : List Str) : List Str := l.filter fun t => !decide (t = Str.ofString "")
theorem fil_app (a b : List Str) : fil (a ++ b) = fil a ++ fil b := List.filter_append ..
theorem empty_cps : (Str.ofString "").cps = #[] := by decide +kernel
theorem fil_empty : fil [Str.ofString ""] = [] := by decide +kernel
theorem fil_one {t : Str} (h : t ≠ Str.ofString "") : fil [t] = [t] := by
  unfold fil
  rw [List.filter_cons_of_pos (by simpa using h)]
  rfl
theorem run_apart : ∀ (a : List Str) (b : Bool) (s : List Str × Str), Apart b a → (b = false → s.2 = Str.ofString "") → fil (tokAll ((flat a).foldl tokStep s)) = fil (tokAll s) ++ a
  | [], b, s, _, _ => by simp [flat]
  | t :: r, b, s, h, hs => by
    have ef : flat (t :: r) = t.cps.toList ++ flat r := by unfold flat; rw [List.flatMap_cons]
    rw [ef, List.foldl_append]
    rcases h with ⟨⟨c, rfl, hc⟩, hr⟩ | ⟨rfl, ⟨hn, hl⟩, hr⟩
    · have e : (#[c] : Array Nat).toList.foldl tokStep s = (s.1 ++ [s.2] ++ [⟨#[c]⟩], Str.ofString "") := by
        show tokStep s c = _
        unfold tokStep
        rw [if_pos hc]
      rw [e, run_apart r false _ hr fun _ => rfl]
      have n : (⟨#[c]⟩ : Str) ≠ Str.ofString "" := fun z => by
        have := congrArg (fun x : Str => x.cps.size) z
        rw [empty_cps] at this
        exact absurd this (by simp)
      unfold tokAll
      rw [fil_app, fil_empty, fil_app, fil_one n]
      simp
    · rw [run_leaf _ s hl]
      have e2 : s.2.cps ++ t.cps.toList.toArray = t.cps := by
        rw [hs rfl, empty_cps]; simp
      rw [e2]
      rw [run_apart r true _ hr fun z => by cases z]
      have e3 : (⟨t.cps⟩ : Str) = t := rfl
      unfold tokAll
      rw [e3, fil_app, fil_one hn, fil_app, hs rfl, fil_empty]
      simp
theorem tokens_flat {a : List Str} (h : Apart false a) : tokensOf ⟨(flat a).toArray⟩ = a ++ [Str.ofString ""] := by
  unfold tokensOf tokRun
  have := run_apart a false ([], Str.ofString "") h fun _ => rfl
  have e : fil (tokAll (([], Str.ofString "") : List Str × Str)) = [] := fil_empty
  rw [e] at this
  show fil (tokAll ((flat a).toArray.toList.foldl tokStep ([], Str.ofString ""))) ++ _ = _
  rw [this]
  rfl
theorem Apart.weak {a : List Str} : Apart true a → Apart false a := by
  intro h
  cases a with
  | nil => trivial
  | cons t r =>
    rcases h with h | h
    · exact .inl h
    · exact .inr ⟨rfl, h.2⟩
/-- b: the token ahead is a word, c: the last token is one -/
theorem Apart.app : ∀ {a : List Str} {b : Bool} {t : Str} {r : List Str}, Apart b a → isSg t → Apart false r → Apart b (a ++ t :: r)
  | [], b, t, r, _, hs, hr => .inl ⟨hs, hr⟩
  | u :: a, b, t, r, h, hs, hr => by
    rcases h with ⟨h1, h2⟩ | ⟨h0, h1, h2⟩
    · exact .inl ⟨h1, h2.app hs hr⟩
    · exact .inr ⟨h0, h1, h2.app hs hr⟩
theorem sg_is (o : Op) : isSg o.sg := by
  cases o
  · exact ⟨43, by decide +kernel, by decide +kernel⟩
  · exact ⟨45, by decide +kernel, by decide +kernel⟩
  · exact ⟨42, by decide +kernel, by decide +kernel⟩
theorem lp_is : isSg (Str.ofString "(") := ⟨40, by decide +kernel, by decide +kernel⟩
theorem rp_is : isSg (Str.ofString ")") := ⟨41, by decide +kernel, by decide +kernel⟩
theorem Pr.apart (hlf : ∀ x t, leafOf x = some t → isLf x) {lv : Nat} {t : Tr} {a : List Str} {d : Nat} (h : Pr lv t a d) : Apart false a := by
  induction h with
  | leaf _ h2 => exact .inr ⟨rfl, hlf _ _ h2, trivial⟩
  | brk _ ih => exact .inl ⟨lp_is, ih.app rp_is trivial⟩
  | mul _ _ _ ih1 ih2 => exact ih1.app (sg_is .mul) ih2
  | sum _ _ _ ih1 ih2 => exact ih1.app (sg_is _) ih2
/-! ### how deep a word is -/
def dStep (s : Int × Int) (c : Nat) : Int × Int :=
  let e := if c = 40 then s.1 + 1 else if c = 41 then s.1 - 1 else s.1
  (e, max s.2 e)
theorem deep_leaf : ∀ (l : List Nat) (s : Int × Int), (∀ c ∈ l, isL (Str.ofString "+-*()") c = false) → s.1 ≤ s.2 → l.foldl dStep s = s
  | [], s, _, _ => rfl
  | c :: l, s, h, hs => by
    rw [List.foldl_cons]
    have hc := h c List.mem_cons_self
    have n1 : c ≠ 40 := fun z => by rw [z] at hc; revert hc; decide +kernel
    have n2 : c ≠ 41 := fun z => by rw [z] at hc; revert hc; decide +kernel
    have e : dStep s c = s := by
      unfold dStep
      rw [if_neg n1, if_neg n2]
      show (s.1, max s.2 s.1) = s
      rw [Int.max_eq_left hs]
    rw [e]
    exact deep_leaf l s (fun d hd => h d (List.mem_cons_of_mem _ hd)) hs
theorem deep_op {o : Op} {s : Int × Int} (hs : s.1 ≤ s.2) : o.sg.cps.toList.foldl dStep s = s := by
  have key : ∀ c : Nat, c ≠ 40 → c ≠ 41 → [c].foldl dStep s = s := fun c n1 n2 => by
    show dStep s c = s
    unfold dStep
    rw [if_neg n1, if_neg n2]
    show (s.1, max s.2 s.1) = s
    rw [Int.max_eq_left hs]
  cases o
  · exact key 43 (by decide) (by decide)
  · exact key 45 (by decide) (by decide)
  · exact key 42 (by decide) (by decide)
theorem flat_app (a b : List Str) : flat (a ++ b) = flat a ++ flat b := by unfold flat; rw [List.flatMap_append]
theorem flat_cons (t : Str) (b : List Str) : flat (t :: b) = t.cps.toList ++ flat b := by unfold flat; rw [List.flatMap_cons]
theorem lp_cps : (Str.ofString "(").cps.toList = [40] := by decide +kernel
theorem rp_cps : (Str.ofString ")").cps.toList = [41] := by decide +kernel
theorem Pr.deep (hlf : ∀ x t, leafOf x = some t → isLf x) {lv : Nat} {t : Tr} {a : List Str} {d : Nat} (h : Pr lv t a d) : ∀ s : Int × Int, s.1 ≤ s.2 → (flat a).foldl dStep s = (s.1, max s.2 (s.1 + d)) := by
  induction h with
  | leaf _ h2 =>
    intro s hs
    rw [flat_cons, List.foldl_append, deep_leaf _ s (hlf _ _ h2).2 hs]
    show s = _
    refine Prod.ext rfl ?_
    show s.2 = max s.2 (s.1 + ((0 : Nat) : Int))
    omega
  | @brk lv t a d _ ih =>
    intro s hs
    rw [flat_cons, flat_app, flat_cons, lp_cps, rp_cps, List.foldl_append, List.foldl_append]
    have e1 : [40].foldl dStep s = (s.1 + 1, max s.2 (s.1 + 1)) := rfl
    rw [e1, ih _ (by show s.1 + 1 ≤ max s.2 (s.1 + 1); omega)]
    show ((s.1 + 1) - 1, max (max (max s.2 (s.1 + 1)) (s.1 + 1 + d)) (s.1 + 1 - 1)) = _
    refine Prod.ext (by show s.1 + 1 - 1 = s.1; omega) ?_
    show max (max (max s.2 (s.1 + 1)) (s.1 + 1 + d)) (s.1 + 1 - 1) = max s.2 (s.1 + ((d + 1 : Nat) : Int))
    omega
  | @mul lv l r a b d e _ _ _ ih1 ih2 =>
    intro s hs
    rw [flat_app, flat_cons, List.foldl_append, List.foldl_append, ih1 s hs]
    have := deep_op (o := .mul) (s := (s.1, max s.2 (s.1 + d))) (by show s.1 ≤ max s.2 (s.1 + d); omega)
    have e0 : (Str.ofString "*") = Op.mul.sg := rfl
    rw [e0, this, ih2 _ (by show s.1 ≤ max s.2 (s.1 + d); omega)]
    refine Prod.ext rfl ?_
    show max (max s.2 (s.1 + d)) (s.1 + e) = max s.2 (s.1 + ((max d e : Nat) : Int))
    omega
  | @sum o l r a b d e _ _ _ ih1 ih2 =>
    intro s hs
    rw [flat_app, flat_cons, List.foldl_append, List.foldl_append, ih1 s hs]
    have := deep_op (o := o) (s := (s.1, max s.2 (s.1 + d))) (by show s.1 ≤ max s.2 (s.1 + d); omega)
    rw [this, ih2 _ (by show s.1 ≤ max s.2 (s.1 + d); omega)]
    refine Prod.ext rfl ?_
    show max (max s.2 (s.1 + d)) (s.1 + e) = max s.2 (s.1 + ((max d e : Nat) : Int))
    omega
def deepOf (x : Str) : Int := (x.cps.toList.foldl dStep (0, 0)).2
theorem Pr.expr (hlf : ∀ x t, leafOf x = some t → isLf x) {t : Tr} {a : List Str} {d : Nat} (h : Pr 2 t a d) {w : Str} (hw : w.cps.toList = flat a) : deepOf w = d ∧ exprOf w = if w.length ≤ 60 ∧ deepOf w ≤ 5 then some t else none := by
  have hd : deepOf w = d := by
    unfold deepOf
    rw [hw, h.deep hlf (0, 0) (Int.le_refl _)]
    show max (0 : Int) (0 + d) = d
    omega
  refine ⟨hd, ?_⟩
  unfold exprOf
  by_cases hl : 60 < w.length
  · rw [if_pos hl, if_neg (by omega)]
  · rw [if_neg hl]
    have e : w = ⟨(flat a).toArray⟩ := by rw [← hw]
    have et : tokensOf w = a ++ [Str.ofString ""] := by rw [e, tokens_flat (h.apart hlf)]
    rw [et, h.whole 5]
    by_cases h5 : d ≤ 5
    · rw [if_pos h5, if_pos ⟨by omega, by omega⟩]
      dsimp only
      rw [if_pos rfl]
    · rw [if_neg h5, if_neg (by omega)]
end K05

set_option Elab.async false
set_option linter.all false
set_option maxRecDepth 100000
set_option maxHeartbeats 4000000
namespace K05
open PySem L2
/-! leaves are words of no signs -/
theorem dig_head (m : Nat) (h : 0 < m) : ∃ c r, Nat.toDigits 10 m = c :: r ∧ c.toNat ≠ 48 := by
  induction m using Nat.strongRecOn with
  | _ m ih =>
    by_cases hm : m < 10
    · refine ⟨Nat.digitChar m, [], Nat.toDigits_of_lt_base hm, ?_⟩
      have : ∀ d : Nat, d < 10 → 0 < d → (Nat.digitChar d).toNat ≠ 48 := by decide
      exact this m hm h
    · have hq : m % 10 < 10 := Nat.mod_lt m (by decide)
      have t : Nat.toDigits 10 (m / 10) ++ Nat.toDigits 10 (m % 10) = Nat.toDigits 10 (10 * (m / 10) + m % 10) := Nat.toDigits_append_toDigits (by decide) (by omega) hq
      rw [Nat.div_add_mod] at t
      obtain ⟨c, r, e, hc⟩ := ih (m / 10) (by omega) (by omega)
      exact ⟨c, r ++ Nat.toDigits 10 (m % 10), by rw [← t, e]; rfl, hc⟩
theorem sgS : (Str.ofString "+-*()").cps.toList = [43, 45, 42, 40, 41] := by decide +kernel
theorem letS : (Str.ofString "abcdefghijklmnopqrstuvwxyz").cps.toList = [97, 98, 99, 100, 101, 102, 103, 104, 105, 106, 107, 108, 109, 110, 111, 112, 113, 114, 115, 116, 117, 118, 119, 120, 121, 122] := by decide +kernel
theorem let_no {c : Nat} (h : isL "abcdefghijklmnopqrstuvwxyz" c = true) : 97 ≤ c ∧ c ≤ 122 := by
  rw [isL_mem, decide_eq_true_eq] at h
  have h' : c ∈ (Str.ofString "abcdefghijklmnopqrstuvwxyz").cps.toList := h
  rw [letS] at h'
  simp only [List.mem_cons, List.not_mem_nil, or_false] at h'
  omega
theorem sg_no {c : Nat} (h : 48 ≤ c) : isL (Str.ofString "+-*()") c = false := by
  rw [isL_mem, decide_eq_false_iff_not, sgS]
  simp only [List.mem_cons, List.not_mem_nil, or_false]
  omega
theorem lf_of {x : Str} (hx : 1 ≤ x.length) (h : ∀ c ∈ x.cps.toList, 48 ≤ c) : isLf x := by
  refine ⟨fun e => ?_, fun c hc => sg_no (h c hc)⟩
  rw [e] at hx
  revert hx; decide +kernel
theorem leaf_lf (x : Str) (t : Tr) (h : leafOf x = some t) : isLf x := by
  unfold leafOf at h
  split at h
  · rename_i e; rw [e]; exact lf_of (by decide +kernel) (by decide +kernel)
  split at h
  · rename_i e; rw [e]; exact lf_of (by decide +kernel) (by decide +kernel)
  split at h
  · rename_i e
    unfold nameOk at e
    simp only [Bool.and_eq_true, decide_eq_true_eq] at e
    exact lf_of e.1.1.1 fun c hc => by have := let_no (List.all_eq_true.mp e.2 c hc); omega
  split at h
  · rename_i e
    unfold numOk at e
    simp only [Bool.and_eq_true, decide_eq_true_eq] at e
    exact lf_of e.1.1.1 fun c hc => (fig_dig (List.all_eq_true.mp e.2 c hc)).1
  · cases h
/-- the word of a number -/
theorem num_cps (k : Nat) : (Str.ofString (toString ((k : Nat) : Int))).cps.toList = (Nat.toDigits 10 k).map Char.toNat := PySem.W.KIN.signs_num k
theorem fig_is {c : Char} (h : c.isDigit = true) : isL "0123456789" c.toNat = true := by
  rw [isL_mem, decide_eq_true_eq]
  show c.toNat ∈ (Str.ofString "0123456789").cps.toList
  rw [figs]
  unfold Char.isDigit at h
  simp only [Bool.and_eq_true, decide_eq_true_eq] at h
  have h1 : c.val.toNat ≥ 48 := h.1
  have h2 : c.val.toNat ≤ 57 := h.2
  have e : c.toNat = c.val.toNat := rfl
  simp only [List.mem_cons, List.not_mem_nil, or_false]
  omega
theorem num_len {k : Nat} (h : k < 10 ^ 6) : 1 ≤ (Str.ofString (toString ((k : Nat) : Int))).length ∧ (Str.ofString (toString ((k : Nat) : Int))).length ≤ 6 := by
  have e : (Str.ofString (toString ((k : Nat) : Int))).cps.toList.length = (Str.ofString (toString ((k : Nat) : Int))).length := Array.length_toList
  rw [← e, num_cps, List.length_map]
  exact ⟨PySem.toDigits_len_ge 10 k, PySem.toDigits_len_pow (by decide) (by decide) h⟩
theorem leaf_num {k : Nat} (h : k < 10 ^ 6) : leafOf (Str.ofString (toString ((k : Nat) : Int))) = some (.num k) := by
  have hd : ∀ c ∈ (Str.ofString (toString ((k : Nat) : Int))).cps.toList, isL "0123456789" c = true := fun c hc => by
    rw [num_cps] at hc
    obtain ⟨d, hd, rfl⟩ := List.mem_map.mp hc
    exact fig_is (Nat.isDigit_of_mem_toDigits (by decide) (by decide) hd)
  have hl := num_len h
  have hne : (Str.ofString (toString ((k : Nat) : Int))).cps.toList ≠ [] := fun e => by
    have := congrArg List.length e
    rw [Array.length_toList] at this
    have h2 : (Str.ofString (toString ((k : Nat) : Int))).length = 0 := this
    omega
  obtain ⟨c, r, ec⟩ := List.exists_cons_of_ne_nil hne
  have hc : isL "0123456789" c = true := hd c (by rw [ec]; exact List.mem_cons_self)
  have notS : ∀ s : Str, (∀ d ∈ s.cps.toList.head?, isL "0123456789" d = false) → s.cps.toList ≠ [] → Str.ofString (toString ((k : Nat) : Int)) ≠ s := fun s hs hne' e => by
    rw [e] at ec
    have := hs c (by rw [ec]; rfl)
    rw [hc] at this; cases this
  have e1 : Str.ofString (toString ((k : Nat) : Int)) ≠ Str.ofString "now" := notS _ (by decide +kernel) (by decide +kernel)
  have e2 : Str.ofString (toString ((k : Nat) : Int)) ≠ Str.ofString "own" := notS _ (by decide +kernel) (by decide +kernel)
  have e3 : nameOk (Str.ofString (toString ((k : Nat) : Int))) = false := by
    cases hn : nameOk (Str.ofString (toString ((k : Nat) : Int))) with
    | false => rfl
    | true =>
      unfold nameOk at hn
      simp only [Bool.and_eq_true, decide_eq_true_eq] at hn
      have a := let_no (List.all_eq_true.mp hn.2 c (by rw [ec]; exact List.mem_cons_self))
      have b := fig_dig hc
      omega
  have e4 : numOk (Str.ofString (toString ((k : Nat) : Int))) = true := by
    unfold numOk
    simp only [Bool.and_eq_true, decide_eq_true_eq]
    refine ⟨⟨hl, ?_⟩, List.all_eq_true.mpr hd⟩
    by_cases hk : k = 0
    · subst hk
      decide +kernel
    · obtain ⟨ch, rr, ed, hch⟩ := dig_head k (by omega)
      have hs : PySem.Txt.startswith (Str.ofString (toString ((k : Nat) : Int))) (Str.ofString "0") = false := by
        have h1 : (Str.ofString "0").length = 1 := by decide +kernel
        have z : (Str.ofString "0").cps.toList = [48] := by decide +kernel
        unfold PySem.Txt.startswith
        rw [PySem.StrLaws.subAt_eq, h1, num_cps, ed, z]
        rw [Bool.eq_false_iff]
        intro q
        simp at q
        exact hch q.2
      rw [hs, Bool.not_false, Bool.or_true]
  unfold leafOf
  rw [if_neg e1, if_neg e2, if_neg (by rw [e3]; exact Bool.false_ne_true), if_pos e4, PySem.W.KIN.num_reads (by omega) (by omega)]
  rfl
end K05

set_option Elab.async false
set_option linter.all false
set_option maxRecDepth 100000
set_option maxHeartbeats 4000000
namespace K05
open PySem L2
/-! ### the reader as a walk from token to token -/
def isOp (t : Str) : Bool := (sgMul t).isSome || (sgSum t).isSome
def run : List Str → Bool → Nat → Bool
  | [], _, _ => false
  | t :: r, true, d => if t = Str.ofString "(" then decide (d + 1 ≤ 5) && run r true (d + 1) else (leafOf t).isSome && run r false d
  | t :: r, false, d => if t = Str.ofString ")" then decide (1 ≤ d) && run r false (d - 1) else if isOp t = true then run r true d else decide (t = Str.ofString "") && decide (d = 0)
structure Fw (d : Nat) (P : List Str → Prop) (f : Pz) : Prop where
  ok : ∀ ts e rest, f ts = some (e, rest) → run ts true d = run rest false d ∧ P rest
  no : ∀ ts, f ts = none → run ts true d = false
theorem opMulOk {t : Str} {o : Op} (h : sgMul t = some o) : isOp t = true ∧ t ≠ Str.ofString ")" := by
  unfold sgMul at h
  split at h
  · rename_i e; subst e; exact ⟨by decide +kernel, by decide +kernel⟩
  · cases h
theorem opSumOk {t : Str} {o : Op} (h : sgSum t = some o) : isOp t = true ∧ t ≠ Str.ofString ")" := by
  unfold sgSum at h
  split at h
  · rename_i e; subst e; exact ⟨by decide +kernel, by decide +kernel⟩
  · split at h
    · rename_i e; subst e; exact ⟨by decide +kernel, by decide +kernel⟩
    · cases h
theorem run_op {t : Str} {r : List Str} {d : Nat} (h : isOp t = true ∧ t ≠ Str.ofString ")") : run (t :: r) false d = run r true d := by
  rw [run, if_neg h.2, if_pos h.1]
theorem loop_walk {d : Nat} {P : List Str → Prop} {f : Pz} {sg : Str → Option Op} (h : Fw d P f) (hl : Len f) (hs : ∀ t o, sg t = some o → isOp t = true ∧ t ≠ Str.ofString ")") : ∀ (n : Nat) (e : Tr) (rest : List Str), rest.length ≤ n → P rest →
    (∀ e' r', loopF f sg n e rest = some (e', r') → run rest false d = run r' false d ∧ P r' ∧ NoHead sg r') ∧ (loopF f sg n e rest = none → run rest false d = false)
  | 0, e, [], hn, hp => ⟨fun e' r' hf => by cases hf; exact ⟨rfl, hp, trivial⟩, fun hf => nomatch hf⟩
  | 0, e, t :: r, hn, hp => absurd hn (by rw [List.length_cons]; omega)
  | n + 1, e, [], hn, hp => ⟨fun e' r' hf => by cases hf; exact ⟨rfl, hp, trivial⟩, fun hf => nomatch hf⟩
  | n + 1, e, t :: r, hn, hp => by
    rw [loopF]
    cases ht : sg t with
    | none => exact ⟨fun e' r' hf => by cases hf; exact ⟨rfl, hp, ht⟩, fun hf => nomatch hf⟩
    | some o =>
      dsimp only
      rw [run_op (hs t o ht)]
      cases hr : f r with
      | none => exact And.intro (fun e' r' hf => by cases hf) (fun _ => h.no r hr)
      | some p =>
        obtain ⟨e2, r2⟩ := p
        dsimp only
        obtain ⟨h1, h2⟩ := h.ok r e2 r2 hr
        have hlt := hl _ _ _ hr
        rw [List.length_cons] at hn
        rw [h1]
        exact loop_walk h hl hs n _ r2 (by omega) h2
theorem chain_walk {d : Nat} {P : List Str → Prop} {f : Pz} {sg : Str → Option Op} (h : Fw d P f) (hl : Len f) (hs : ∀ t o, sg t = some o → isOp t = true ∧ t ≠ Str.ofString ")") : Fw d (fun r => P r ∧ NoHead sg r) (chainF f sg) := by
  refine ⟨fun ts e rest hf => ?_, fun ts hf => ?_⟩
  · unfold chainF at hf
    cases hr : f ts with
    | none => rw [hr] at hf; cases hf
    | some p =>
      obtain ⟨e1, r1⟩ := p
      rw [hr] at hf
      dsimp only at hf
      obtain ⟨h1, h2⟩ := h.ok ts e1 r1 hr
      rw [h1]
      exact (loop_walk h hl hs _ e1 r1 (Nat.le_refl _) h2).1 e rest hf
  · unfold chainF at hf
    cases hr : f ts with
    | none => exact h.no ts hr
    | some p =>
      obtain ⟨e1, r1⟩ := p
      rw [hr] at hf
      dsimp only at hf
      obtain ⟨h1, h2⟩ := h.ok ts e1 r1 hr
      rw [h1]
      exact (loop_walk h hl hs _ e1 r1 (Nat.le_refl _) h2).2 hf
def NoOpHead (r : List Str) : Prop := NoHead sgMul r ∧ NoHead sgSum r
theorem run_stop {r : List Str} {d : Nat} (h : NoOpHead r) (hp : ∀ t r', r = t :: r' → t ≠ Str.ofString ")") (hd : d ≠ 0) : run r false d = false := by
  cases r with
  | nil => rfl
  | cons t r' =>
    have h1 : sgMul t = none := h.1
    have h2 : sgSum t = none := h.2
    have e : isOp t = false := by unfold isOp; rw [h1, h2]; rfl
    rw [run, if_neg (hp t r' rfl), if_neg (by rw [e]; exact Bool.false_ne_true)]
    rw [decide_eq_false hd, Bool.and_false]
theorem factor_walk {d : Nat} {sub : Pz} (h : d + 1 ≤ 5 → Fw (d + 1) NoOpHead sub) (h5 : ¬ d + 1 ≤ 5 → ∀ l, sub l = none) : Fw d (fun _ => True) (factorF sub) := by
  refine ⟨fun ts e rest hf => ?_, fun ts hf => ?_⟩
  · cases ts with
    | nil => cases hf
    | cons t r =>
      rw [factorF_cons] at hf
      refine ⟨?_, trivial⟩
      by_cases c : t = Str.ofString "("
      · rw [if_pos c] at hf
        by_cases hd : d + 1 ≤ 5
        · cases hs : sub r with
          | none => rw [hs] at hf; cases hf
          | some p =>
            obtain ⟨e1, r1⟩ := p
            rw [hs] at hf
            obtain ⟨h1, h2⟩ := (h hd).ok r e1 r1 hs
            cases r1 with
            | nil => cases hf
            | cons t1 r1 =>
              unfold closeF at hf
              dsimp only at hf
              split at hf
              · rename_i c1
                cases hf
                rw [run, if_pos c, h1, run, if_pos c1, decide_eq_true hd, Bool.true_and, decide_eq_true (by omega), Bool.true_and]
                rfl
              · cases hf
        · rw [h5 hd] at hf; cases hf
      · rw [if_neg c] at hf
        cases hl : leafOf t with
        | none => rw [hl] at hf; cases hf
        | some u =>
          rw [hl] at hf
          cases hf
          rw [run, if_neg c, hl]
          rfl
  · cases ts with
    | nil => rfl
    | cons t r =>
      rw [factorF_cons] at hf
      by_cases c : t = Str.ofString "("
      · rw [if_pos c] at hf
        rw [run, if_pos c]
        by_cases hd : d + 1 ≤ 5
        · rw [decide_eq_true hd, Bool.true_and]
          cases hs : sub r with
          | none => exact (h hd).no r hs
          | some p =>
            obtain ⟨e1, r1⟩ := p
            rw [hs] at hf
            obtain ⟨h1, h2⟩ := (h hd).ok r e1 r1 hs
            rw [h1]
            refine run_stop h2 (fun t1 r2 e z => ?_) (by omega)
            subst e
            unfold closeF at hf
            dsimp only at hf
            rw [if_pos z] at hf
            cases hf
        · rw [decide_eq_false hd, Bool.false_and]
      · rw [if_neg c] at hf
        cases hl : leafOf t with
        | none => rw [run, if_neg c, hl]; rfl
        | some u => rw [hl] at hf; cases hf
theorem smF_walk : ∀ k, k ≤ 5 → Fw (5 - k) NoOpHead (smF k)
  | 0, _ => by
    have h0 : Fw 5 (fun _ => True) (factorF (subF 0)) := factor_walk (fun h => absurd h (by decide)) fun _ _ => rfl
    have h1 := chain_walk h0 (factor_len (sub_len 0)) fun t o => opMulOk
    have h2 := chain_walk h1 (chain_len (factor_len (sub_len 0))) fun t o => opSumOk
    rw [smF_eq]
    exact ⟨fun ts e rest hf => ⟨(h2.ok ts e rest hf).1, (h2.ok ts e rest hf).2.1.2, (h2.ok ts e rest hf).2.2⟩, h2.no⟩
  | k + 1, hk => by
    have ih := smF_walk k (by omega)
    have e : 5 - k = 5 - (k + 1) + 1 := by omega
    rw [e] at ih
    have h0 : Fw (5 - (k + 1)) (fun _ => True) (factorF (subF (k + 1))) := factor_walk (fun _ => ih) fun h => absurd (show 5 - (k + 1) + 1 ≤ 5 by omega) h
    have h1 := chain_walk h0 (factor_len (sub_len (k + 1))) fun t o => opMulOk
    have h2 := chain_walk h1 (chain_len (factor_len (sub_len (k + 1)))) fun t o => opSumOk
    rw [smF_eq]
    exact ⟨fun ts e rest hf => ⟨(h2.ok ts e rest hf).1, (h2.ok ts e rest hf).2.1.2, (h2.ok ts e rest hf).2.2⟩, h2.no⟩
theorem expr_walk (w : Str) : (exprOf w).isSome = (decide (w.length ≤ 60) && run (tokensOf w) true 0) := by
  unfold exprOf
  by_cases hl : 60 < w.length
  · rw [if_pos hl, decide_eq_false (by omega)]; rfl
  · rw [if_neg hl, decide_eq_true (by omega), Bool.true_and]
    have h := smF_walk 5 (Nat.le_refl _)
    cases hs : smF 5 (tokensOf w) with
    | none => rw [h.no _ hs]; rfl
    | some p =>
      obtain ⟨e, r⟩ := p
      obtain ⟨h1, h2⟩ := h.ok _ _ _ hs
      have h1 : run (tokensOf w) true 0 = run r false 0 := h1
      rw [h1]
      cases r with
      | nil => rfl
      | cons t r =>
        have a1 : sgMul t = none := h2.1
        have a2 : sgSum t = none := h2.2
        have eo : isOp t = false := by unfold isOp; rw [a1, a2]; rfl
        dsimp only
        by_cases c : t = Str.ofString ""
        · rw [if_pos c, run, if_neg (by rw [c]; decide +kernel), if_neg (by rw [eo]; exact Bool.false_ne_true), decide_eq_true c]
          rfl
        · rw [if_neg c, run]
          by_cases c2 : t = Str.ofString ")"
          · rw [if_pos c2]; rfl
          · rw [if_neg c2, if_neg (by rw [eo]; exact Bool.false_ne_true), decide_eq_false c]; rfl
end K05

set_option Elab.async false
set_option linter.all false
set_option maxRecDepth 100000
set_option maxHeartbeats 4000000
namespace K05
open PySem L2
/-! ### what is read was written so -/
theorem factor_sound {sub : Pz} (h : ∀ ts t rest, sub ts = some (t, rest) → ∃ a d, Pr 2 t a d ∧ ts = a ++ rest) {ts : List Str} {t : Tr} {rest : List Str} (hf : factorF sub ts = some (t, rest)) : ∃ a d, Pr 0 t a d ∧ ts = a ++ rest := by
  cases ts with
  | nil => cases hf
  | cons u r =>
    rw [factorF_cons] at hf
    by_cases c : u = Str.ofString "("
    · rw [if_pos c] at hf
      cases hs : sub r with
      | none => rw [hs] at hf; cases hf
      | some p =>
        obtain ⟨e, r1⟩ := p
        rw [hs] at hf
        cases r1 with
        | nil => cases hf
        | cons v r2 =>
          unfold closeF at hf
          dsimp only at hf
          split at hf
          · rename_i c1
            cases hf
            obtain ⟨a, d, p, ea⟩ := h r _ _ hs
            refine ⟨_, _, .brk p, ?_⟩
            rw [c, ea, c1]
            simp
          · cases hf
    · rw [if_neg c] at hf
      cases hl : leafOf u with
      | none => rw [hl] at hf; cases hf
      | some v =>
        rw [hl] at hf
        cases hf
        exact ⟨[u], 0, .leaf c hl, rfl⟩
theorem mul_loop_sound {f : Pz} (h : ∀ ts t rest, f ts = some (t, rest) → ∃ a d, Pr 0 t a d ∧ ts = a ++ rest) : ∀ (n : Nat) (t : Tr) (rest : List Str) (t' : Tr) (r' : List Str) (a : List Str) (d : Nat), Pr 1 t a d → loopF f sgMul n t rest = some (t', r') → ∃ b e, Pr 1 t' (a ++ b) e ∧ rest = b ++ r'
  | 0, t, rest, t', r', a, d, p, hf => by cases hf; exact ⟨[], d, by rw [List.append_nil]; exact p, rfl⟩
  | n + 1, t, [], t', r', a, d, p, hf => by cases hf; exact ⟨[], d, by rw [List.append_nil]; exact p, rfl⟩
  | n + 1, t, u :: r, t', r', a, d, p, hf => by
    rw [loopF] at hf
    cases hs : sgMul u with
    | none => rw [hs] at hf; cases hf; exact ⟨[], d, by rw [List.append_nil]; exact p, rfl⟩
    | some o =>
      rw [hs] at hf
      dsimp only at hf
      cases hr : f r with
      | none => rw [hr] at hf; cases hf
      | some q =>
        obtain ⟨e2, r2⟩ := q
        rw [hr] at hf
        dsimp only at hf
        obtain ⟨b, d2, p2, eb⟩ := h _ _ _ hr
        have hu : u = Str.ofString "*" ∧ o = .mul := by
          unfold sgMul at hs
          split at hs
          · cases hs; exact ⟨by assumption, rfl⟩
          · cases hs
        obtain ⟨rfl, rfl⟩ := hu
        obtain ⟨b3, e3, p3, er⟩ := mul_loop_sound h n _ _ _ _ (a ++ Str.ofString "*" :: b) _ (.mul p p2 (Nat.le_refl _)) hf
        refine ⟨Str.ofString "*" :: b ++ b3, e3, ?_, ?_⟩
        · rw [← List.append_assoc]; exact p3
        · rw [eb, er]; simp
theorem sum_loop_sound {f : Pz} (h : ∀ ts t rest, f ts = some (t, rest) → ∃ a d, Pr 1 t a d ∧ ts = a ++ rest) : ∀ (n : Nat) (t : Tr) (rest : List Str) (t' : Tr) (r' : List Str) (a : List Str) (d : Nat), Pr 2 t a d → loopF f sgSum n t rest = some (t', r') → ∃ b e, Pr 2 t' (a ++ b) e ∧ rest = b ++ r'
  | 0, t, rest, t', r', a, d, p, hf => by cases hf; exact ⟨[], d, by rw [List.append_nil]; exact p, rfl⟩
  | n + 1, t, [], t', r', a, d, p, hf => by cases hf; exact ⟨[], d, by rw [List.append_nil]; exact p, rfl⟩
  | n + 1, t, u :: r, t', r', a, d, p, hf => by
    rw [loopF] at hf
    cases hs : sgSum u with
    | none => rw [hs] at hf; cases hf; exact ⟨[], d, by rw [List.append_nil]; exact p, rfl⟩
    | some o =>
      rw [hs] at hf
      dsimp only at hf
      cases hr : f r with
      | none => rw [hr] at hf; cases hf
      | some q =>
        obtain ⟨e2, r2⟩ := q
        rw [hr] at hf
        dsimp only at hf
        obtain ⟨b, d2, p2, eb⟩ := h _ _ _ hr
        have hu : u = o.sg := by
          unfold sgSum at hs
          split at hs
          · cases hs; assumption
          · split at hs
            · cases hs; assumption
            · cases hs
        subst hu
        obtain ⟨b3, e3, p3, er⟩ := sum_loop_sound h n _ _ _ _ (a ++ o.sg :: b) _ (.sum p p2 hs) hf
        refine ⟨o.sg :: b ++ b3, e3, ?_, ?_⟩
        · rw [← List.append_assoc]; exact p3
        · rw [eb, er]; simp
theorem smF_sound : ∀ (k : Nat) (ts : List Str) (t : Tr) (rest : List Str), smF k ts = some (t, rest) → ∃ a d, Pr 2 t a d ∧ ts = a ++ rest := by
  have step : ∀ sub : Pz, (∀ ts t rest, sub ts = some (t, rest) → ∃ a d, Pr 2 t a d ∧ ts = a ++ rest) → ∀ ts t rest, chainF (chainF (factorF sub) sgMul) sgSum ts = some (t, rest) → ∃ a d, Pr 2 t a d ∧ ts = a ++ rest := by
    intro sub hsub
    have h1 : ∀ ts t rest, chainF (factorF sub) sgMul ts = some (t, rest) → ∃ a d, Pr 1 t a d ∧ ts = a ++ rest := by
      intro ts t rest hf
      unfold chainF at hf
      cases hr : factorF sub ts with
      | none => rw [hr] at hf; cases hf
      | some p =>
        obtain ⟨e, r⟩ := p
        rw [hr] at hf
        dsimp only at hf
        obtain ⟨a, d, p, ea⟩ := factor_sound hsub hr
        obtain ⟨b, e', p', er⟩ := mul_loop_sound (fun ts t rest => factor_sound hsub) _ _ _ _ _ a d (p.up (Nat.zero_le _) (by decide)) hf
        exact ⟨_, _, p', by rw [ea, er, List.append_assoc]⟩
    intro ts t rest hf
    unfold chainF at hf
    cases hr : chainF (factorF sub) sgMul ts with
    | none => unfold chainF at hr; rw [hr] at hf; cases hf
    | some p =>
      obtain ⟨e, r⟩ := p
      have hr' := hr
      unfold chainF at hr'
      rw [hr'] at hf
      dsimp only at hf
      obtain ⟨a, d, p, ea⟩ := h1 _ _ _ hr
      obtain ⟨b, e', p', er⟩ := sum_loop_sound h1 _ _ _ _ _ a d (p.up (by decide) (by decide)) hf
      exact ⟨_, _, p', by rw [ea, er, List.append_assoc]⟩
  intro k
  induction k with
  | zero => exact step _ fun _ _ _ h => nomatch h
  | succ k ih => exact step _ ih
/-! ### two heaps: numbers and signs -/
def Op.ap : Op → Int → Int → Int | .add, a, b => a + b | .sub, a, b => a - b | .mul, a, b => a * b
def bigN (n : Int) : Bool := decide (1000000 < (if n < 0 then -n else n))
structure Sy where
  nums : List Int
  sgs : List Str
  big : Bool
/-- the uppermost two, by the uppermost sign (the last of a list is the uppermost) -/
def opOf (s : Str) : Op := if s = Str.ofString "+" then .add else if s = Str.ofString "-" then .sub else .mul
def reck (s : Sy) : Sy := match s.nums.reverse, s.sgs.reverse with
  | o :: p :: ns, g :: gs => ⟨ns.reverse ++ [(opOf g).ap p o], gs.reverse, bigN ((opOf g).ap p o) || s.big⟩
  | _, _ => s
def goesOn (star : Bool) (g : Str) : Bool := !decide (g = Str.ofString "(") && (!star || decide (g = Str.ofString "*"))
def redF (star : Bool) : Nat → Sy → Sy
  | 0, s => s
  | n + 1, s => match s.sgs.getLast? with
    | none => s
    | some g => if goesOn star g = true then redF star n (reck s) else s
abbrev red (star : Bool) (s : Sy) : Sy := redF star s.sgs.length s
def stepS (val : Str → Int) (s : Sy) (t : Str) : Sy :=
  if t = Str.ofString "(" then { s with sgs := s.sgs ++ [t] }
  else if t = Str.ofString ")" then (let r := red false s; { r with sgs := r.sgs.dropLast })
  else if isOp t = true then (let r := red (decide (t = Str.ofString "*")) s; { r with sgs := r.sgs ++ [t] })
  else { s with nums := s.nums ++ [val t] }
def syRun (val : Str → Int) (ts : List Str) (s : Sy) : Sy := ts.foldl (stepS val) s
theorem reck_eq {N : List Int} {p o : Int} {S : List Str} {g : Str} {b : Bool} : reck ⟨N ++ [p, o], S ++ [g], b⟩ = ⟨N ++ [(opOf g).ap p o], S, bigN ((opOf g).ap p o) || b⟩ := by
  unfold reck
  simp
theorem red_step {star : Bool} {N : List Int} {p o : Int} {S : List Str} {g : Str} {b : Bool} (h : goesOn star g = true) : red star ⟨N ++ [p, o], S ++ [g], b⟩ = red star ⟨N ++ [(opOf g).ap p o], S, bigN ((opOf g).ap p o) || b⟩ := by
  show redF star (S ++ [g]).length _ = _
  rw [List.length_append, List.length_singleton, redF]
  show (match (S ++ [g]).getLast? with | none => _ | some g => _) = _
  rw [List.getLast?_concat]
  dsimp only
  rw [if_pos h, reck_eq]
theorem red_stop {star : Bool} {N : List Int} {S : List Str} {g : Str} {b : Bool} (h : goesOn star g = false) : red star ⟨N, S ++ [g], b⟩ = ⟨N, S ++ [g], b⟩ := by
  show redF star (S ++ [g]).length _ = _
  rw [List.length_append, List.length_singleton, redF]
  show (match (S ++ [g]).getLast? with | none => _ | some g => _) = _
  rw [List.getLast?_concat]
  dsimp only
  rw [if_neg (by rw [h]; exact Bool.false_ne_true)]
theorem red_nil {star : Bool} {N : List Int} {b : Bool} : red star ⟨N, [], b⟩ = ⟨N, [], b⟩ := rfl
/-- a tree's worth without bounds, and whether a part of it is too big -/
def exact (v : Tr → Int) : Tr → Int
  | .bin o l r => o.ap (exact v l) (exact v r)
  | t => v t
def anyBig (v : Tr → Int) : Tr → Bool
  | .bin o l r => bigN (o.ap (exact v l) (exact v r)) || (anyBig v l || anyBig v r)
  | _ => false
/-- the sign below is none, a bracket, or (for a term) a sum's -/
def Low1 (S : List Str) : Prop := S = [] ∨ ∃ S' g, S = S' ++ [g] ∧ goesOn true g = false
def Low2 (S : List Str) : Prop := S = [] ∨ ∃ S', S = S' ++ [Str.ofString "("]
theorem Low2.one {S : List Str} (h : Low2 S) : Low1 S := by
  rcases h with h | ⟨S', h⟩
  · exact .inl h
  · exact .inr ⟨S', _, h, by decide +kernel⟩
theorem low1_red {N : List Int} {S : List Str} {b : Bool} (h : Low1 S) : red true ⟨N, S, b⟩ = ⟨N, S, b⟩ := by
  rcases h with rfl | ⟨S', g, rfl, hg⟩
  · exact red_nil
  · exact red_stop hg
theorem low2_red {N : List Int} {S : List Str} {b : Bool} (h : Low2 S) : red false ⟨N, S, b⟩ = ⟨N, S, b⟩ := by
  rcases h with rfl | ⟨S', rfl⟩
  · exact red_nil
  · exact red_stop (by decide +kernel)
section
variable {val : Str → Int} {v : Tr → Int}
theorem sy_app {a b : List Str} {s : Sy} : syRun val (a ++ b) s = syRun val b (syRun val a s) := List.foldl_append ..
structure S0 (val : Str → Int) (v : Tr → Int) (t : Tr) (a : List Str) : Prop where
  ok : ∀ N S b, syRun val a ⟨N, S, b⟩ = ⟨N ++ [exact v t], S, anyBig v t || b⟩
structure S1 (val : Str → Int) (v : Tr → Int) (t : Tr) (a : List Str) : Prop where
  st : ∀ N S b, Low1 S → red true (syRun val a ⟨N, S, b⟩) = ⟨N ++ [exact v t], S, anyBig v t || b⟩
  al : ∀ N S b, Low1 S → red false (syRun val a ⟨N, S, b⟩) = red false ⟨N ++ [exact v t], S, anyBig v t || b⟩
structure S2 (val : Str → Int) (v : Tr → Int) (t : Tr) (a : List Str) : Prop where
  al : ∀ N S b, Low2 S → red false (syRun val a ⟨N, S, b⟩) = ⟨N ++ [exact v t], S, anyBig v t || b⟩
theorem S0.one {t : Tr} {a : List Str} (h : S0 val v t a) : S1 val v t a :=
  ⟨fun N S b hS => by rw [h.ok, low1_red hS], fun N S b hS => by rw [h.ok]⟩
theorem S1.two {t : Tr} {a : List Str} (h : S1 val v t a) : S2 val v t a :=
  ⟨fun N S b hS => by rw [h.al N S b hS.one, low2_red hS]⟩
theorem op_no {o : Op} : o.sg ≠ Str.ofString "(" ∧ o.sg ≠ Str.ofString ")" ∧ isOp o.sg = true := by
  cases o <;> exact ⟨by decide +kernel, by decide +kernel, by decide +kernel⟩
theorem step_op {o : Op} {s : Sy} : stepS val s o.sg = { red (decide (o.sg = Str.ofString "*")) s with sgs := (red (decide (o.sg = Str.ofString "*")) s).sgs ++ [o.sg] } := by
  obtain ⟨h1, h2, h3⟩ := op_no (o := o)
  unfold stepS
  rw [if_neg h1, if_neg h2, if_pos h3]
theorem opOf_sg (o : Op) : opOf o.sg = o := by cases o <;> rfl
theorem mul_S {l r : Tr} {a b : List Str} (hl : S1 val v l a) (hr : S0 val v r b) : S1 val v (.bin .mul l r) (a ++ Str.ofString "*" :: b) := by
  have key : ∀ N S bb, Low1 S → syRun val (a ++ Str.ofString "*" :: b) ⟨N, S, bb⟩ = ⟨N ++ [exact v l, exact v r], S ++ [Str.ofString "*"], anyBig v r || (anyBig v l || bb)⟩ := by
    intro N S bb hS
    rw [sy_app]
    show syRun val b (stepS val (syRun val a ⟨N, S, bb⟩) Op.mul.sg) = _
    have ed : decide (Op.mul.sg = Str.ofString "*") = true := by decide +kernel
    rw [step_op, ed, hl.st N S bb hS]
    show syRun val b ⟨N ++ [exact v l], S ++ [Str.ofString "*"], anyBig v l || bb⟩ = _
    rw [hr.ok]
    simp
  have eb : ∀ bb, (bigN (Op.ap (opOf (Str.ofString "*")) (exact v l) (exact v r)) || (anyBig v r || (anyBig v l || bb))) = (anyBig v (.bin .mul l r) || bb) := by
    intro bb
    show _ = ((bigN (Op.mul.ap (exact v l) (exact v r)) || (anyBig v l || anyBig v r)) || bb)
    rw [show opOf (Str.ofString "*") = Op.mul from opOf_sg .mul]
    cases anyBig v l <;> cases anyBig v r <;> cases bb <;> simp
  refine ⟨fun N S bb hS => ?_, fun N S bb hS => ?_⟩
  · rw [key N S bb hS, red_step (by decide +kernel), low1_red hS, eb]
    rfl
  · rw [key N S bb hS, red_step (by decide +kernel), eb]
    rfl
theorem sum_S {o : Op} {l r : Tr} {a b : List Str} (ho : sgSum o.sg = some o) (hl : S2 val v l a) (hr : S1 val v r b) : S2 val v (.bin o l r) (a ++ o.sg :: b) := by
  have hm : o.sg ≠ Str.ofString "*" := fun e => by
    rw [e] at ho
    revert ho
    unfold sgSum
    rw [if_neg (by decide +kernel), if_neg (by decide +kernel)]
    exact fun z => nomatch z
  have hg : goesOn true o.sg = false := by
    unfold goesOn
    rw [decide_eq_false hm]
    simp
  have hg2 : goesOn false o.sg = true := by
    unfold goesOn
    rw [decide_eq_false (op_no (o := o)).1]
    rfl
  refine ⟨fun N S bb hS => ?_⟩
  rw [sy_app]
  show red false (syRun val b (stepS val (syRun val a ⟨N, S, bb⟩) o.sg)) = _
  rw [step_op, decide_eq_false hm, hl.al N S bb hS]
  show red false (syRun val b ⟨N ++ [exact v l], S ++ [o.sg], anyBig v l || bb⟩) = _
  rw [hr.al _ _ _ (.inr ⟨S, _, rfl, hg⟩), List.append_assoc]
  show red false ⟨N ++ [exact v l, exact v r], S ++ [o.sg], _⟩ = _
  rw [red_step hg2, low2_red hS, opOf_sg]
  show (⟨N ++ [o.ap (exact v l) (exact v r)], S, bigN (o.ap (exact v l) (exact v r)) || (anyBig v r || (anyBig v l || bb))⟩ : Sy) = ⟨N ++ [o.ap (exact v l) (exact v r)], S, (bigN (o.ap (exact v l) (exact v r)) || (anyBig v l || anyBig v r)) || bb⟩
  cases anyBig v l <;> cases anyBig v r <;> cases bb <;> simp
theorem brk_S {t : Tr} {a : List Str} (h : S2 val v t a) : S0 val v t (Str.ofString "(" :: (a ++ [Str.ofString ")"])) := by
  refine ⟨fun N S b => ?_⟩
  show syRun val (a ++ [Str.ofString ")"]) (stepS val ⟨N, S, b⟩ (Str.ofString "(")) = _
  have e1 : stepS val ⟨N, S, b⟩ (Str.ofString "(") = ⟨N, S ++ [Str.ofString "("], b⟩ := by
    unfold stepS
    rw [if_pos rfl]
  rw [e1, sy_app]
  show stepS val (syRun val a ⟨N, S ++ [Str.ofString "("], b⟩) (Str.ofString ")") = _
  unfold stepS
  rw [if_neg (by decide +kernel), if_pos rfl, h.al N _ b (.inr ⟨S, rfl⟩)]
  simp
theorem leaf_S {x : Str} {t : Tr} (h1 : x ≠ Str.ofString "(") (h2 : x ≠ Str.ofString ")") (h3 : isOp x = false) (hv : exact v t = val x) (hb : anyBig v t = false) : S0 val v t [x] := by
  refine ⟨fun N S b => ?_⟩
  show stepS val ⟨N, S, b⟩ x = _
  unfold stepS
  rw [if_neg h1, if_neg h2, if_neg (by rw [h3]; exact Bool.false_ne_true), hv, hb]
  rfl
theorem Pr.sy (hlf : ∀ x t, leafOf x = some t → x ≠ Str.ofString ")" ∧ isOp x = false ∧ exact v t = val x ∧ anyBig v t = false) {lv : Nat} {t : Tr} {a : List Str} {d : Nat} (h : Pr lv t a d) : (lv = 0 → S0 val v t a) ∧ (lv ≤ 1 → S1 val v t a) ∧ S2 val v t a := by
  induction h with
  | leaf h1 h2 =>
    obtain ⟨a1, a2, a3, a4⟩ := hlf _ _ h2
    have := leaf_S h1 a1 a2 a3 a4
    exact ⟨fun _ => this, fun _ => this.one, this.one.two⟩
  | brk _ ih => exact ⟨fun _ => brk_S ih.2.2, fun _ => (brk_S ih.2.2).one, (brk_S ih.2.2).one.two⟩
  | mul _ _ h3 ih1 ih2 => exact ⟨fun h => by omega, fun _ => mul_S (ih1.2.1 (Nat.le_refl _)) (ih2.1 rfl), (mul_S (ih1.2.1 (Nat.le_refl _)) (ih2.1 rfl)).two⟩
  | sum _ _ h3 ih1 ih2 => exact ⟨fun h => by omega, fun h => by omega, sum_S h3 ih1.2.2 (ih2.2.1 (Nat.le_refl _))⟩
theorem Pr.syAll (hlf : ∀ x t, leafOf x = some t → x ≠ Str.ofString ")" ∧ isOp x = false ∧ exact v t = val x ∧ anyBig v t = false) {t : Tr} {a : List Str} {d : Nat} (h : Pr 2 t a d) : syRun val (a ++ [Str.ofString ")"]) ⟨[], [], false⟩ = ⟨[exact v t], [], anyBig v t⟩ := by
  rw [sy_app]
  show stepS val (syRun val a ⟨[], [], false⟩) (Str.ofString ")") = _
  unfold stepS
  rw [if_neg (by decide +kernel), if_pos rfl, (h.sy hlf).2.2.al [] [] false (.inl rfl)]
  simp
end
theorem end_once : ∀ (ts a r : List Str), (∀ x ∈ ts, x ≠ Str.ofString "") → ts ++ [Str.ofString ""] = a ++ Str.ofString "" :: r → ts = a
  | [], [], r, _, _ => rfl
  | [], u :: a, r, _, e => by
    have e' : Str.ofString "" :: [] = u :: (a ++ Str.ofString "" :: r) := e
    have := congrArg List.length e'
    simp at this
  | x :: ts, [], r, h, e => by
    have e' : x :: (ts ++ [Str.ofString ""]) = Str.ofString "" :: r := e
    exact absurd (List.cons.inj e').1 (h x List.mem_cons_self)
  | x :: ts, u :: a, r, h, e => by
    have e' : x :: (ts ++ [Str.ofString ""]) = u :: (a ++ Str.ofString "" :: r) := e
    obtain ⟨e1, e2⟩ := List.cons.inj e'
    rw [e1, end_once ts a r (fun y hy => h y (List.mem_cons_of_mem _ hy)) e2]
theorem expr_sy {val : Str → Int} {v : Tr → Int} (hlf : ∀ x t, leafOf x = some t → x ≠ Str.ofString ")" ∧ isOp x = false ∧ exact v t = val x ∧ anyBig v t = false) {ts : List Str} {w : Str} (hne : ∀ x ∈ ts, x ≠ Str.ofString "") (hw : tokensOf w = ts ++ [Str.ofString ""]) {t : Tr} (h : exprOf w = some t) :
    syRun val (ts ++ [Str.ofString ")"]) ⟨[], [], false⟩ = ⟨[exact v t], [], anyBig v t⟩ := by
  unfold exprOf at h
  split at h
  · cases h
  · cases hs : smF 5 (tokensOf w) with
    | none => rw [hs] at h; cases h
    | some p =>
      obtain ⟨e, r⟩ := p
      rw [hs] at h
      cases r with
      | nil => cases h
      | cons u r =>
        dsimp only at h
        split at h
        · rename_i c
          cases h
          obtain ⟨a, d, p, ea⟩ := smF_sound 5 _ _ _ hs
          rw [hw, c] at ea
          have e2 := end_once ts a r hne ea
          rw [e2]
          exact p.syAll hlf
        · cases h
end K05

set_option Elab.async false
set_option linter.all false
set_option maxRecDepth 100000
set_option maxHeartbeats 4000000
namespace K05
open PySem L2
def Tr.depth : Tr → Nat
  | .bin _ l r => max l.depth r.depth + 1
  | _ => 0
def Bd (n : Int) : Prop := -(2 ^ 40) < n ∧ n < 2 ^ 40
def Tr.good : Tr → Prop
  | .name x => (PyData.str x).canLay0 = true
  | .num n => Bd n
  | .bin _ l r => l.good ∧ r.good
  | _ => True
inductive Res | val (n : Int) | unk (x : Str) | big
def Res.toD : Res → PyData
  | .val n => .tuple [.int n, .none]
  | .unk x => .tuple [.none, .tuple [.str "unknown", .str x]]
  | .big => .tuple [.none, .tuple [.str "big"]]
def bnd (n : Int) : Res := if 1000000 < (if n < 0 then -n else n) then .big else .val n
def look (kvs : List (Key × V)) (x : Str) : Res := match valV kvs (.inr x) with
  | some (.int n) => .val n
  | _ => .unk x
def ev (kvs : List (Key × V)) (now own : Int) : Tr → Res
  | .name x => look kvs x
  | .num n => .val n
  | .now => .val now
  | .own => .val own
  | .bin o l r => match ev kvs now own l with
    | .val a => match ev kvs now own r with
      | .val b => bnd (o.ap a b)
      | .unk y => .unk y
      | .big => .big
    | .unk y => .unk y
    | .big => .big
def KvOk (kvs : List (Key × V)) : Prop := ∀ kv ∈ kvs, ∃ n, kv.2 = .int n ∧ Bd n
theorem look_bd {kvs : List (Key × V)} {x : Str} {n : Int} (h : KvOk kvs) (e : look kvs x = .val n) : Bd n := by
  unfold look at e
  split at e
  · rename_i m q
    cases e
    obtain ⟨kv, hm, e2⟩ := valV_mem q
    obtain ⟨m', e3, b⟩ := h kv hm
    rw [e3] at e2
    cases e2
    exact b
  · cases e
theorem bnd_bd {m n : Int} (e : bnd m = .val n) : Bd n := by
  unfold bnd at e
  by_cases h : 1000000 < (if m < 0 then -m else m)
  · rw [if_pos h] at e; cases e
  · rw [if_neg h] at e; cases e
    unfold Bd
    split at h <;> omega
theorem ev_bd {kvs : List (Key × V)} {now own : Int} (h : KvOk kvs) (h1 : Bd now) (h2 : Bd own) : ∀ {t : Tr} {n : Int}, t.good → ev kvs now own t = .val n → Bd n
  | .name x, n, _, e => look_bd h e
  | .num m, n, g, e => by cases e; exact g
  | .now, n, _, e => by cases e; exact h1
  | .own, n, _, e => by cases e; exact h2
  | .bin o l r, n, g, e => by
    unfold ev at e
    split at e
    · split at e
      · exact bnd_bd e
      · cases e
      · cases e
    · cases e
    · cases e
section
variable {P : Program} {w : World} {K : PySem.W.Frag} {mg : Str → Option Value} {base : Heap}
def spStir : Sp := fun vs H Q _ => ∃ c k : Int, vs = [.int c, .int k] ∧ 0 ≤ k ∧ k ≤ 1000 ∧ ∀ m : Int, 0 ≤ m → m < 2 ^ 28 → Q (.int m) H
theorem ok_stir (D : DefAt K mg "_law_stir" s__law_stir ["cell", "k"]) : OkD P w K mg base 1 "_law_stir" ["cell", "k"] spStir := by
  refine D.ok sc__law_stir (fun vs H Q E h => ?_) (fun f cdv A outer s H vs Q E hr h => ?_)
  · obtain ⟨c, k, rfl, _⟩ := h; rfl
  obtain ⟨c, k, rfl, h0, h1, q⟩ := h
  refine ⟨_, (pss_cons (ps_if (pt_cmpR op_ge (pv 0) (pe_op op_pow pe_int pe_int) (nomark _))
  (pss_one (ps_ret (pe_op op_mod (pe_op op_shr (pe_op op_sub (pv 0) (pe_op op_pow pe_int pe_int)) (pe_op op_mul pe_int (pv 1))) (pe_op op_pow pe_int pe_int))))
  pss_nil)
  (pss_cons (ps_set (i := 2) sc__law_stir.nd rfl (Or.inl rfl) (pe_op op_mod (pe_op op_mul (pe_op op_add (pe_op op_add (pv 0) (pe_op op_mul pe_int (pv 1))) pe_int) pe_int) pe_int))
  (pss_cons (ps_set (i := 2) sc__law_stir.nd rfl (Or.inl rfl) (pe_op op_mod (pe_op op_mul (pv 2) (pv 2)) pe_int))
  (pss_one (ps_ret (pe_op op_fdiv (pe_op op_mod (pe_op op_mul (pv 2) pe_int) pe_int) pe_int)))))), ?_⟩
  walk_at "rd"
  split
  · exact ⟨by omega, q _ (Int.emod_nonneg _ (by decide)) (Int.emod_lt_of_pos _ (by decide))⟩
  · refine ⟨by omega, q _ ?_ ?_⟩ <;> omega
def spReck : Sp := fun vs H Q _ => ∃ (o : Op) (a b : Int), vs = [.str o.sg, .int a, .int b] ∧ Bd a ∧ Q (.int (o.ap a b)) H
theorem ok_reck (D : DefAt K mg "reckoned" s_reckoned ["sign", "left", "right"]) : OkD P w K mg base 1 "reckoned" ["sign", "left", "right"] spReck := by
  refine D.ok sc_reckoned (fun vs H Q E h => ?_) (fun f cdv A outer s H vs Q E hr h => ?_)
  · obtain ⟨o, a, b, rfl, _⟩ := h; rfl
  obtain ⟨o, a, b, rfl, hb, q⟩ := h
  refine ⟨_, (pss_cons (ps_if (pt_cmpR op_eq (pv 0) pe_str (nomark _))
  (pss_one (ps_ret (pe_op op_add (pv 1) (pv 2))))
  pss_nil)
  (pss_cons (ps_if (pt_cmpR op_eq (pv 0) pe_str (nomark _))
  (pss_one (ps_ret (pe_op op_sub (pv 1) (pv 2))))
  pss_nil)
  (pss_one (ps_ret (pe_op op_mul (pv 1) (pv 2)))))), ?_⟩
  cases o <;> simp only [Op.sg, Op.ap] at q ⊢ <;> walk_at "rd"
  unfold Bd at hb; omega
def spBnd (K : PySem.W.Frag) : Sp := fun vs H Q _ => ∃ n : Int, vs = [.int n] ∧ ∀ r H', Same H H' → Rp K H' r (bnd n).toD → Q r H'
theorem rp_val {K : PySem.W.Frag} {H : Hp} {p : Addr} {n : Int} (h : H p = some (.tup [.int n, .non])) : Rp K H (.ref p) (Res.val n).toD := .tup h (.cons (.int n) (.cons .non .nil))
theorem rp_big {K : PySem.W.Frag} {H : Hp} {p r : Addr} (h : H p = some (.tup [.non, .ref r])) (hr : H r = some (.tup [.str "big"])) : Rp K H (.ref p) Res.big.toD := .tup h (.cons .non (.cons (.tup hr (.cons (.str _) .nil)) .nil))
theorem rp_unk {K : PySem.W.Frag} {H : Hp} {p r : Addr} {x : Str} (h : H p = some (.tup [.non, .ref r])) (hr : H r = some (.tup [.str "unknown", .str x])) : Rp K H (.ref p) (Res.unk x).toD := .tup h (.cons .non (.cons (.tup hr (.cons (.str _) (.cons (.str _) .nil))) .nil))
theorem ok_bounded (D : DefAt K mg "bounded" s_bounded ["n"]) {tk : Tok} (hMW : mg "MOST_WORTH" = some (.int 1000000 tk)) (habs : mg "abs" = none) : OkD P w K mg base 1 "bounded" ["n"] (spBnd K) := by
  refine D.ok sc_bounded (fun vs H Q E h => ?_) (fun f cdv A outer s H vs Q E hr h => ?_)
  · obtain ⟨n, rfl, _⟩ := h; rfl
  obtain ⟨n, rfl, q⟩ := h
  refine ⟨_, (pss_cons (ps_if (pt_cmpR op_gt (pe_cB call_abs rfl habs (by decide +kernel) (pa_c (pv 0) pa_nil)) (pe_glob (v := .int 1000000) rfl hMW ⟨_, rfl⟩) (nomark _))
  (pss_one (ps_ret (pe_tupG (pa_c pe_non (pa_c (pe_tupG (pa_c pe_str pa_nil)) pa_nil)))))
  pss_nil)
  (pss_one (ps_ret (pe_tupG (pa_c (pv 0) (pa_c pe_non pa_nil)))))), ?_⟩
  walk_at "rd"
  refine ite2 (fun c => ?_) (fun c => ?_)
  · intro p H1 hp g1 h1 r H2 hr g2 h2
    exact q _ _ (g1.trans g2) (by rw [bnd, if_pos c]; exact rp_big h2 (g2 _ _ h1))
  · intro p H1 hp g1 h1
    exact q _ _ g1 (by rw [bnd, if_neg c]; exact rp_val h1)
def spName (K : PySem.W.Frag) : Sp := fun vs H Q _ => ∃ (x : Str) (d : Addr) (kvs : List (Key × V)), vs = [.str x, .ref d] ∧ H d = some (.dK kvs) ∧ KvOk kvs ∧ ∀ r H', Same H H' → Rp K H' r (look kvs x).toD → Q r H'
theorem look_some {kvs : List (Key × V)} {x : Str} {v : V} (hk : KvOk kvs) (e : valV kvs (.inr x) = some v) : ∃ n, v = .int n ∧ look kvs x = .val n := by
  obtain ⟨kv, hm, e2⟩ := valV_mem e
  obtain ⟨n, e3, _⟩ := hk kv hm
  rw [e3] at e2
  subst e2
  exact ⟨n, rfl, by unfold look; rw [e]⟩
theorem ok_name (D : DefAt K mg "worth_of_name" s_worth_of_name ["name", "values"]) : OkD P w K mg base 1 "worth_of_name" ["name", "values"] (spName K) := by
  refine D.ok sc_worth_of_name (fun vs H Q E h => ?_) (fun f cdv A outer s H vs Q E hr h => ?_)
  · obtain ⟨x, d, kvs, rfl, _⟩ := h; rfl
  obtain ⟨x, d, kvs, rfl, hd, hk, q⟩ := h
  have hu := hu_of hr
  refine ⟨_, (pss_cons (ps_if (pt_cmp (pc_dinG hu (pv 0) (pv 1)) (by with_unfolding_all rfl))
  (pss_one (ps_ret (pe_tupG (pa_c (pe_dgetG hu (pv 1) (pv 0) (fun _ _ => rfl)) (pa_c pe_non pa_nil)))))
  pss_nil)
  (pss_one (ps_ret (pe_tupG (pa_c pe_non (pa_c (pe_tupG (pa_c pe_str (pa_c (pv 0) pa_nil))) pa_nil)))))), ?_⟩
  walk_at "rd"
  cases e : valV kvs (Sum.inr x) with
  | some v =>
    obtain ⟨n, rfl, el⟩ := look_some hk e
    exact iteT ⟨_, rfl, fun p H1 hp g1 h1 => q _ _ g1 (by rw [el]; exact rp_val h1)⟩
  | none =>
    refine iteF fun p H1 hp g1 h1 r H2 hr g2 h2 => ?_
    exact q _ _ (g1.trans g2) (by unfold look; rw [e]; exact rp_unk h2 (g2 _ _ h1))
/-- worth and _law_due: one promise -/
def spW (K : PySem.W.Frag) (n : Nat) : Sp := fun vs H Q _ => ∃ (v : V) (d : Addr) (kvs : List (Key × V)) (now own : Int) (t : Tr), vs = [v, .ref d, .int now, .int own] ∧ Rp K H v t.toD ∧ t.depth < n ∧ t.good ∧ H d = some (.dK kvs) ∧ KvOk kvs ∧ Bd now ∧ Bd own ∧
  ∀ r H', Same H H' → Rp K H' r (ev kvs now own t).toD → Q r H'
theorem res_cases {K : PySem.W.Frag} {H : Hp} {v : V} {r : Res} (h : Rp K H v r.toD) : (∃ n a, r = .val n ∧ v = .ref a ∧ H a = some (.tup [.int n, .non])) ∨ ((∀ n, r ≠ .val n) ∧ ∃ a b, v = .ref a ∧ H a = some (.tup [.non, .ref b]) ∧ Rp K H (.ref b) (match r.toD with | .tuple [_, e] => e | _ => .none)) := by
  cases r with
  | val n =>
    obtain ⟨a, x, y, rfl, ha, hx, hy⟩ := Rp.tup2 h
    cases hx.int_inv
    cases hy.non_inv
    exact .inl ⟨n, a, rfl, rfl, ha⟩
  | unk z =>
    obtain ⟨a, x, y, rfl, ha, hx, hy⟩ := Rp.tup2 h
    cases hx.non_inv
    obtain ⟨b, xs, rfl, hb, r⟩ := hy.tup_inv
    exact .inr ⟨fun n => by simp, a, b, rfl, ha, .tup hb r⟩
  | big =>
    obtain ⟨a, x, y, rfl, ha, hx, hy⟩ := Rp.tup2 h
    cases hx.non_inv
    obtain ⟨b, xs, rfl, hb, r⟩ := hy.tup_inv
    exact .inr ⟨fun n => by simp, a, b, rfl, ha, .tup hb r⟩
theorem ok_worth (D : DefAt K mg "worth" s_worth ["e", "values", "now", "own"]) (G_worth_of_name : OkD P w K mg base 1 "worth_of_name" ["name", "values"] (spName K)) (G_reckoned : OkD P w K mg base 1 "reckoned" ["sign", "left", "right"] spReck)
    (G_bounded : OkD P w K mg base 1 "bounded" ["n"] (spBnd K)) : ∀ n : Nat, OkD P w K mg base (n + 1) "worth" ["e", "values", "now", "own"] (spW K n)
  | 0 => D.never _ fun vs H Q E h => by obtain ⟨_, _, _, _, _, _, _, _, h, _⟩ := h; omega
  | n + 1 => by
    have G_worth := ok_worth D G_worth_of_name G_reckoned G_bounded n
    refine D.ok sc_worth (fun vs H Q E h => ?_) (fun f cdv A outer s H vs Q E hr h => ?_)
    · obtain ⟨_, _, _, _, _, _, rfl, _⟩ := h; rfl
    obtain ⟨v, d, kvs, now, own, t, rfl, hv, hn, hg, hd, hk, b1, b2, q⟩ := h
    refine ⟨_, (pss_cons (ps_set (i := 4) sc_worth.nd rfl (Or.inl rfl) (pe_ix ix_g (pv 0) pe_int (fun _ _ => rfl)))
  (pss_cons (ps_if (pt_cmpR op_eq (pv 4) pe_str (nomark _))
  (pss_one (ps_ret (pe_tupG (pa_c (pe_ix ix_g (pv 0) pe_int (fun _ _ => rfl)) (pa_c pe_non pa_nil)))))
  pss_nil)
  (pss_cons (ps_if (pt_cmpR op_eq (pv 4) pe_str (nomark _))
  (pss_one (ps_ret (pe_def G_worth_of_name hr rfl (pa_c (pe_ix ix_g (pv 0) pe_int (fun _ _ => rfl)) (pa_c (pv 1) pa_nil)))))
  pss_nil)
  (pss_cons (ps_if (pt_cmpR op_eq (pv 4) pe_str (nomark _))
  (pss_one (ps_ret (pe_tupG (pa_c (pv 2) (pa_c pe_non pa_nil)))))
  pss_nil)
  (pss_cons (ps_if (pt_cmpR op_eq (pv 4) pe_str (nomark _))
  (pss_one (ps_ret (pe_tupG (pa_c (pv 3) (pa_c pe_non pa_nil)))))
  pss_nil)
  (pss_cons (ps_set (i := 5) sc_worth.nd rfl (Or.inl rfl) (pe_def G_worth hr rfl (pa_c (pe_ix ix_g (pv 0) pe_int (fun _ _ => rfl)) (pa_c (pv 1) (pa_c (pv 2) (pa_c (pv 3) pa_nil))))))
  (pss_cons (ps_if (pt_cmpR op_notN (pe_ix ix_g (pv 5) pe_int (fun _ _ => rfl)) pe_non (nomark _))
  (pss_one (ps_ret (pv 5)))
  pss_nil)
  (pss_cons (ps_set (i := 6) sc_worth.nd rfl (Or.inl rfl) (pe_def G_worth hr rfl (pa_c (pe_ix ix_g (pv 0) pe_int (fun _ _ => rfl)) (pa_c (pv 1) (pa_c (pv 2) (pa_c (pv 3) pa_nil))))))
  (pss_cons (ps_if (pt_cmpR op_notN (pe_ix ix_g (pv 6) pe_int (fun _ _ => rfl)) pe_non (nomark _))
  (pss_one (ps_ret (pv 6)))
  pss_nil)
  (pss_one (ps_ret (pe_def G_bounded hr rfl (pa_c (pe_def G_reckoned hr rfl (pa_c (pv 4) (pa_c (pe_ix ix_g (pv 5) pe_int (fun _ _ => rfl)) (pa_c (pe_ix ix_g (pv 6) pe_int (fun _ _ => rfl)) pa_nil)))) pa_nil))))))))))))), ?_⟩
    cases t with
    | num m =>
      obtain ⟨a, x, y, rfl, ha, hx, hy⟩ := Rp.tup2 hv
      cases hx.str_inv
      cases hy.int_inv
      walk_at "rd"
      exact fun p H1 hp g1 h1 => q _ _ g1 (rp_val h1)
    | name z =>
      obtain ⟨a, x, y, rfl, ha, hx, hy⟩ := Rp.tup2 hv
      cases hx.str_inv
      cases hy.str_inv
      walk_at "rd"
      exact ⟨z, d, kvs, rfl, hd, hk, q⟩
    | now =>
      obtain ⟨a, x, rfl, ha, hx⟩ := Rp.tup1 hv
      cases hx.str_inv
      walk_at "rd"
      exact fun p H1 hp g1 h1 => q _ _ g1 (rp_val h1)
    | own =>
      obtain ⟨a, x, rfl, ha, hx⟩ := Rp.tup1 hv
      cases hx.str_inv
      walk_at "rd"
      exact fun p H1 hp g1 h1 => q _ _ g1 (rp_val h1)
    | bin o l r =>
      obtain ⟨a, x, y, z, rfl, ha, hx, hy, hz⟩ := Rp.tup3 hv
      cases hx.str_inv
      have so : ∀ c : String, (c = "number" ∨ c = "name" ∨ c = "now" ∨ c = "own") → (o.sg = Str.ofString c) = False := by
        intro c hc
        cases o <;> rcases hc with rfl | rfl | rfl | rfl <;> simp only [Op.sg, ofString_inj, String.reduceEq]
      have s1 := so "number" (by simp)
      have s2 := so "name" (by simp)
      have s3 := so "now" (by simp)
      have s4 := so "own" (by simp)
      clear so
      walk_at "rd"
      have hn' : max l.depth r.depth + 1 < n + 1 := hn
      refine ⟨y, d, kvs, now, own, l, rfl, hy, by omega, hg.1, hd, hk, b1, b2, fun r1 H1 g1 e1 => ?_⟩
      have ha1 := g1 _ _ ha
      have hd1 := g1 _ _ hd
      rcases res_cases e1 with ⟨n1, p1, el, rfl, h1⟩ | ⟨el, p1, p2, rfl, h1, _⟩
      · walk_at "rd"
        refine ⟨z, d, kvs, now, own, r, rfl, hz.mono g1, by omega, hg.2, hd1, hk, b1, b2, fun r2 H2 g2 e2 => ?_⟩
        have h12 := g2 _ _ h1
        rcases res_cases e2 with ⟨n2, p2, er, rfl, h2⟩ | ⟨er, p2, p3, rfl, h2, _⟩
        · walk_at "rd"
          refine ⟨o, n1, n2, rfl, ev_bd hk b1 b2 hg.1 el, _, rfl, fun r3 H3 g3 e3 => q _ _ ((g1.trans g2).trans g3) ?_⟩
          rw [show ev kvs now own (.bin o l r) = bnd (o.ap n1 n2) by
            show (match ev kvs now own l with | .val a => _ | .unk y => _ | .big => _) = _
            rw [el]
            show (match ev kvs now own r with | .val a => _ | .unk y => _ | .big => _) = _
            rw [er]]
          exact e3
        · walk_at "rd"
          refine q _ _ (g1.trans g2) ?_
          rw [show ev kvs now own (.bin o l r) = ev kvs now own r by
            show (match ev kvs now own l with | .val a => _ | .unk y => _ | .big => _) = _
            rw [el]
            cases e3 : ev kvs now own r with
            | val m => exact absurd e3 (er m)
            | unk y => rfl
            | big => rfl]
          exact e2
      · walk_at "rd"
        refine q _ _ g1 ?_
        rw [show ev kvs now own (.bin o l r) = ev kvs now own l by
          show (match ev kvs now own l with | .val a => _ | .unk y => _ | .big => _) = _
          cases e3 : ev kvs now own l with
          | val m => exact absurd e3 (el m)
          | unk y => rfl
          | big => rfl]
        exact e1
end
end K05

set_option Elab.async false
set_option linter.all false
set_option maxRecDepth 100000
set_option maxHeartbeats 4000000
namespace K05
open PySem L2
/-! ### the walk as states -/
def stepR (s : Option (Bool × Nat)) (t : Str) : Option (Bool × Nat) := match s with
  | none => none
  | some (true, d) => if t = Str.ofString "(" then (if d + 1 ≤ 5 then some (true, d + 1) else none) else if (leafOf t).isSome = true then some (false, d) else none
  | some (false, d) => if t = Str.ofString ")" then (if 1 ≤ d then some (false, d - 1) else none) else if isOp t = true then some (true, d) else none
theorem stepR_t {d : Nat} {t : Str} : stepR (some (true, d)) t = if t = Str.ofString "(" then (if d + 1 ≤ 5 then some (true, d + 1) else none) else if (leafOf t).isSome = true then some (false, d) else none := rfl
theorem stepR_f {d : Nat} {t : Str} : stepR (some (false, d)) t = if t = Str.ofString ")" then (if 1 ≤ d then some (false, d - 1) else none) else if isOp t = true then some (true, d) else none := rfl
theorem stepR_none : ∀ ts : List Str, ts.foldl stepR none = none
  | [] => rfl
  | t :: ts => stepR_none ts
theorem run_fold (hem : leafOf (Str.ofString "") = none) : ∀ (ts : List Str) (b : Bool) (d : Nat), ts.foldl stepR (some (b, d)) = some (false, 0) → run (ts ++ [Str.ofString ""]) b d = true
  | [], b, d, h => by
    cases h
    show run [Str.ofString ""] false 0 = true
    rw [run, if_neg (by decide +kernel), if_neg (by decide +kernel)]
    decide +kernel
  | t :: ts, true, d, h => by
    rw [List.foldl_cons] at h
    show run (t :: (ts ++ [Str.ofString ""])) true d = true
    rw [run]
    rw [stepR_t] at h
    split at h
    · rename_i c
      rw [if_pos c]
      split at h
      · rename_i hd
        rw [decide_eq_true hd, Bool.true_and]
        exact run_fold hem ts true (d + 1) h
      · rw [stepR_none] at h; cases h
    · rename_i c
      rw [if_neg c]
      split at h
      · rename_i hl
        rw [hl, Bool.true_and]
        exact run_fold hem ts false d h
      · rw [stepR_none] at h; cases h
  | t :: ts, false, d, h => by
    rw [List.foldl_cons] at h
    show run (t :: (ts ++ [Str.ofString ""])) false d = true
    rw [run]
    rw [stepR_f] at h
    split at h
    · rename_i c
      rw [if_pos c]
      split at h
      · rename_i hd
        rw [decide_eq_true hd, Bool.true_and]
        exact run_fold hem ts false (d - 1) h
      · rw [stepR_none] at h; cases h
    · rename_i c
      rw [if_neg c]
      split at h
      · rename_i hl
        rw [if_pos hl]
        exact run_fold hem ts true d h
      · rw [stepR_none] at h; cases h
theorem op_is {t : Str} (h : isOp t = true) : isSg t := by
  unfold isOp sgMul sgSum at h
  by_cases h1 : t = Str.ofString "*"
  · rw [h1]; exact ⟨42, by decide +kernel, by decide +kernel⟩
  · rw [if_neg h1] at h
    by_cases h2 : t = Str.ofString "+"
    · rw [h2]; exact ⟨43, by decide +kernel, by decide +kernel⟩
    · rw [if_neg h2] at h
      by_cases h3 : t = Str.ofString "-"
      · rw [h3]; exact ⟨45, by decide +kernel, by decide +kernel⟩
      · rw [if_neg h3] at h; cases h
theorem fold_apart (hlf : ∀ x t, leafOf x = some t → isLf x) : ∀ (ts : List Str) (b : Bool) (d : Nat), (ts.foldl stepR (some (b, d))).isSome = true → Apart (!b) ts
  | [], b, d, _ => trivial
  | t :: ts, true, d, h => by
    rw [List.foldl_cons] at h
    rw [stepR_t] at h
    split at h
    · rename_i c
      split at h
      · exact .inl ⟨c ▸ lp_is, fold_apart hlf ts true (d + 1) h⟩
      · rw [stepR_none] at h; cases h
    · split at h
      · rename_i hl
        obtain ⟨u, hu⟩ := Option.isSome_iff_exists.mp hl
        exact .inr ⟨rfl, hlf _ _ hu, fold_apart hlf ts false d h⟩
      · rw [stepR_none] at h; cases h
  | t :: ts, false, d, h => by
    rw [List.foldl_cons] at h
    rw [stepR_f] at h
    split at h
    · rename_i c
      split at h
      · exact .inl ⟨c ▸ rp_is, (fold_apart hlf ts false (d - 1) h).weak⟩
      · rw [stepR_none] at h; cases h
    · split at h
      · rename_i hl
        exact .inl ⟨op_is hl, fold_apart hlf ts true d h⟩
      · rw [stepR_none] at h; cases h
def Tr.dep : Tr → Nat
  | .bin _ l r => max l.dep r.dep + 1
  | _ => 0
theorem Pr.dep (hb : ∀ x t, leafOf x = some t → t.dep = 0) {lv : Nat} {t : Tr} {a : List Str} {d : Nat} (h : Pr lv t a d) : t.dep < a.length := by
  induction h with
  | leaf _ h2 => rw [hb _ _ h2]; exact Nat.zero_lt_one
  | brk _ ih => rw [List.length_cons, List.length_append, List.length_singleton]; omega
  | mul _ _ _ ih1 ih2 =>
    rw [List.length_append, List.length_cons]
    show max _ _ + 1 < _
    omega
  | sum _ _ _ ih1 ih2 =>
    rw [List.length_append, List.length_cons]
    show max _ _ + 1 < _
    omega
/-- what holds of all leaves -/
def Tr.All (q : Tr → Prop) : Tr → Prop
  | .bin _ l r => l.All q ∧ r.All q
  | t => q t
theorem Pr.all {q : Tr → Prop} {lv : Nat} {t : Tr} {a : List Str} {d : Nat} (h : Pr lv t a d) : (∀ x ∈ a, ∀ u, leafOf x = some u → u.All q) → t.All q := by
  induction h with
  | leaf _ h2 => intro hq; exact hq _ (List.mem_singleton_self _) _ h2
  | brk _ ih => intro hq; exact ih fun x hx => hq x (List.mem_cons_of_mem _ (List.mem_append_left _ hx))
  | mul _ _ _ ih1 ih2 => intro hq; exact ⟨ih1 fun x hx => hq x (List.mem_append_left _ hx), ih2 fun x hx => hq x (List.mem_append_right _ (List.mem_cons_of_mem _ hx))⟩
  | sum _ _ _ ih1 ih2 => intro hq; exact ⟨ih1 fun x hx => hq x (List.mem_append_left _ hx), ih2 fun x hx => hq x (List.mem_append_right _ (List.mem_cons_of_mem _ hx))⟩
theorem expr_pr {ts : List Str} {w : Str} (hne : ∀ x ∈ ts, x ≠ Str.ofString "") (hw : tokensOf w = ts ++ [Str.ofString ""]) {t : Tr} (h : exprOf w = some t) : ∃ d, Pr 2 t ts d := by
  unfold exprOf at h
  split at h
  · cases h
  · cases hs : smF 5 (tokensOf w) with
    | none => rw [hs] at h; cases h
    | some p =>
      obtain ⟨e, r⟩ := p
      rw [hs] at h
      cases r with
      | nil => cases h
      | cons u r =>
        dsimp only at h
        split at h
        · rename_i c
          cases h
          obtain ⟨a, d, p, ea⟩ := smF_sound 5 _ _ _ hs
          rw [hw, c] at ea
          rw [end_once ts a r hne ea]
          exact ⟨d, p⟩
        · cases h
end K05

set_option Elab.async false
set_option linter.all false
set_option maxRecDepth 100000
set_option maxHeartbeats 4000000
namespace K05
open PySem L2
/-! the tokens that are drawn -/
def names5 : List Str := ["now", "own", "a", "bb", "c"]
def leaf5 (x : Str) : Prop := (∃ n : Nat, n < 3000 ∧ x = Str.ofString (toString ((n : Nat) : Int))) ∨ x ∈ names5
def tok5 (x : Str) : Prop := leaf5 x ∨ x = Str.ofString "(" ∨ x = Str.ofString ")" ∨ isOp x = true
theorem leaf5_some {x : Str} (h : leaf5 x) : (leafOf x).isSome = true := by
  rcases h with ⟨n, hn, rfl⟩ | h
  · rw [leaf_num (by omega)]; rfl
  · have : ∀ x ∈ names5, (leafOf x).isSome = true := by decide +kernel
    exact this x h
theorem leaf5_no {x : Str} (h : leaf5 x) : x ≠ Str.ofString "(" ∧ x ≠ Str.ofString ")" ∧ isOp x = false ∧ x ≠ Str.ofString "" := by
  obtain ⟨t, ht⟩ := Option.isSome_iff_exists.mp (leaf5_some h)
  obtain ⟨h1, h2⟩ := leaf_lf _ _ ht
  have key : ∀ s : Str, (∃ c ∈ s.cps.toList, isL (Str.ofString "+-*()") c = true) → x ≠ s := fun s ⟨c, hc, h1⟩ e => by
    subst e
    rw [h2 c hc] at h1
    cases h1
  refine ⟨key _ ⟨40, by decide +kernel, by decide +kernel⟩, key _ ⟨41, by decide +kernel, by decide +kernel⟩, ?_, h1⟩
  unfold isOp sgMul sgSum
  rw [if_neg (key _ ⟨42, by decide +kernel, by decide +kernel⟩), if_neg (key _ ⟨43, by decide +kernel, by decide +kernel⟩), if_neg (key _ ⟨45, by decide +kernel, by decide +kernel⟩)]
  rfl
def lvs (ts : List Str) : Nat := ts.countP fun x => (leafOf x).isSome
structure W5 (ts : List Str) (b : Bool) (d n m : Nat) : Prop where
  st : ts.foldl stepR (some (true, 0)) = some (b, d)
  tk : ∀ x ∈ ts, tok5 x
  lv : lvs ts ≤ n
  ln : ts.length ≤ m
  dp : d ≤ 5
theorem W5.snoc {ts : List Str} {b b' : Bool} {d d' n n' m : Nat} {x : Str} (h : W5 ts b d n m) (hs : stepR (some (b, d)) x = some (b', d')) (hx : tok5 x) (hd : d' ≤ 5) (hl : n + (if (leafOf x).isSome = true then 1 else 0) ≤ n') : W5 (ts ++ [x]) b' d' n' (m + 1) := by
  refine ⟨?_, fun y hy => ?_, ?_, ?_, hd⟩
  · rw [List.foldl_append, h.st]; exact hs
  · rcases List.mem_append.mp hy with hy | hy
    · exact h.tk y hy
    · rw [List.mem_singleton.mp hy]; exact hx
  · unfold lvs
    rw [List.countP_append, List.countP_cons, List.countP_nil]
    have := h.lv
    unfold lvs at this
    omega
  · rw [List.length_append, List.length_singleton]
    have := h.ln
    omega
theorem W5.up {ts : List Str} {b : Bool} {d n n' m m' : Nat} (h : W5 ts b d n m) (hn : n ≤ n') (hm : m ≤ m') : W5 ts b d n' m' := ⟨h.st, h.tk, Nat.le_trans h.lv hn, Nat.le_trans h.ln hm, h.dp⟩
theorem no_leaf {x : Str} (h : x = Str.ofString "(" ∨ x = Str.ofString ")" ∨ isOp x = true) : (leafOf x).isSome = false := by
  cases hl : leafOf x with
  | none => rfl
  | some t =>
    obtain ⟨_, h2⟩ := leaf_lf _ _ hl
    have hs : isSg x := by
      rcases h with rfl | rfl | h
      · exact lp_is
      · exact rp_is
      · exact op_is h
    obtain ⟨c, rfl, hc⟩ := hs
    have := h2 c (by simp)
    rw [hc] at this; cases this
theorem W5.opn {ts : List Str} {d n m : Nat} (h : W5 ts true d n m) (hd : d < 5) : W5 (ts ++ [Str.ofString "("]) true (d + 1) n (m + 1) :=
  h.snoc (by rw [stepR_t, if_pos rfl, if_pos (by omega)]) (.inr (.inl rfl)) (by omega) (by rw [no_leaf (.inl rfl)]; simp)
theorem W5.shut {ts : List Str} {d n m : Nat} (h : W5 ts false d n m) (hd : 1 ≤ d) : W5 (ts ++ [Str.ofString ")"]) false (d - 1) n (m + 1) :=
  h.snoc (by rw [stepR_f, if_pos rfl, if_pos hd]) (.inr (.inr (.inl rfl))) (by have := h.dp; omega) (by rw [no_leaf (.inr (.inl rfl))]; simp)
theorem W5.leaf {ts : List Str} {d n m : Nat} {x : Str} (h : W5 ts true d n m) (hx : leaf5 x) : W5 (ts ++ [x]) false d (n + 1) (m + 1) :=
  h.snoc (by rw [stepR_t, if_neg (leaf5_no hx).1, if_pos (leaf5_some hx)]) (.inl hx) h.dp (by rw [leaf5_some hx]; simp)
theorem W5.op {ts : List Str} {d n m : Nat} {x : Str} (h : W5 ts false d n m) (hx : isOp x = true) : W5 (ts ++ [x]) true d n (m + 1) :=
  h.snoc (by rw [stepR_f, if_neg (fun e => by rw [e] at hx; revert hx; decide +kernel), if_pos hx]) (.inr (.inr (.inr hx))) h.dp (by rw [no_leaf (.inr (.inr hx))]; simp)
theorem W5.shutAll {n : Nat} : ∀ (d : Nat) {ts : List Str} {m : Nat}, W5 ts false d n m → W5 (ts ++ List.replicate d (Str.ofString ")")) false 0 n (m + d)
  | 0, ts, m, h => by rw [List.replicate_zero, List.append_nil]; exact h
  | d + 1, ts, m, h => by
    have h1 := W5.shutAll d (h.shut (by omega))
    rw [List.append_assoc] at h1
    have e : m + 1 + d = m + (d + 1) := by omega
    rw [e] at h1
    exact h1
theorem rep_one : ∀ d : Nat, (List.replicate d [V.str (Str.ofString ")")]).flatten = (List.replicate d (Str.ofString ")")).map V.str
  | 0 => rfl
  | d + 1 => by rw [List.replicate_succ, List.replicate_succ, List.flatten_cons, List.map_cons, ← rep_one d]; rfl
section
variable {P : Program} {w : World} {K : PySem.W.Frag} {mg : Str → Option Value} {base : Heap}
def spParts : Sp := fun vs H Q _ => ∃ c : Int, vs = [.int c] ∧ ∀ p H' ts, Same H H' → H' p = some (.lst (ts.map V.str)) → W5 ts false 0 10 200 → Q (.ref p) H'
theorem ok_parts (D : DefAt K mg "_law_parts" s__law_parts ["cell"]) (G__law_stir : OkD P w K mg base 1 "_law_stir" ["cell", "k"] spStir) (hrange : mg "range" = none) (hstr : mg "str" = none) : OkD P w K mg base 2 "_law_parts" ["cell"] spParts := by
  refine D.ok sc__law_parts (fun vs H Q E h => ?_) (fun f cdv A outer s H vs Q E hr h => ?_)
  · obtain ⟨_, rfl, _⟩ := h; rfl
  obtain ⟨c, rfl, q⟩ := h
  have big : 100000 ≤ sizeLine := by unfold sizeLine; decide
  refine ⟨_, (pss_cons (ps_set (i := 1) sc__law_parts.nd rfl (Or.inl rfl) (pe_lstG pa_nil))
  (pss_cons (ps_set (i := 2) sc__law_parts.nd rfl (Or.inl rfl) pe_int)
  (pss_cons (ps_for PassesOwn.never rfl (pi_range1 rfl hrange (pa_c (pe_op op_add pe_int (pe_op op_mod (pe_def G__law_stir hr rfl (pa_c (pv 0) (pa_c pe_int pa_nil))) pe_int)) pa_nil)) (pg_name (i := 3) sc__law_parts.nd rfl (Or.inl rfl))
  (pss_cons (ps_set (i := 4) sc__law_parts.nd rfl (Or.inl rfl) (pe_def G__law_stir hr rfl (pa_c (pv 0) (pa_c (pe_op op_add pe_int (pv 3)) pa_nil))))
  (pss_cons (ps_up (ps_while PassesOwn.never (PW.pt (pw_and (pt_cmpR op_eq (pe_op op_mod (pv 4) pe_int) pe_int (nomark _)) (pw_and (pt_cmpR op_gt (pv 4) pe_int (nomark _)) (pw_and1 (pt_cmpR op_lt (pv 2) pe_int (nomark _))))))
  (pss_cons (ps_expr (pe_appG (pv 1) pe_str))
  (pss_cons (ps_set (i := 2) sc__law_parts.nd rfl (Or.inl rfl) (pe_op op_add (pv 2) pe_int))
  (pss_one (ps_set (i := 4) sc__law_parts.nd rfl (Or.inl rfl) (pe_op op_fdiv (pv 4) pe_int)))))))
  (pss_cons (ps_set (i := 5) sc__law_parts.nd rfl (Or.inl rfl) (pe_ix ix_g (pe_lstG (pa_c (pe_cTy call_str_int rfl hstr (by decide +kernel) (pa_c (pe_op op_mod (pe_op op_fdiv (pv 4) pe_int) pe_int) pa_nil)) (pa_c (pe_cTy call_str_int rfl hstr (by decide +kernel) (pa_c (pe_op op_mod (pe_op op_fdiv (pv 4) pe_int) pe_int) pa_nil)) (pa_c pe_str (pa_c pe_str (pa_c pe_str (pa_c pe_str (pa_c pe_str pa_nil)))))))) (pe_op op_mod (pv 4) pe_int) (fun _ _ => rfl)))
  (pss_cons (ps_expr (pe_appG (pv 1) (pv 5)))
  (pss_cons (ps_set (i := 4) sc__law_parts.nd rfl (Or.inl rfl) (pe_op op_fdiv (pv 4) pe_int))
  (pss_cons (ps_up (ps_while PassesOwn.never (PW.pt (pw_and (pt_cmpR op_eq (pe_op op_mod (pv 4) pe_int) pe_int (nomark _)) (pw_and (pt_cmpR op_gt (pv 4) pe_int (nomark _)) (pw_and1 (pt_cmpR op_gt (pv 2) pe_int (nomark _))))))
  (pss_cons (ps_expr (pe_appG (pv 1) pe_str))
  (pss_cons (ps_set (i := 2) sc__law_parts.nd rfl (Or.inl rfl) (pe_op op_sub (pv 2) pe_int))
  (pss_one (ps_set (i := 4) sc__law_parts.nd rfl (Or.inl rfl) (pe_op op_fdiv (pv 4) pe_int)))))))
  (pss_one (ps_expr (pe_appG (pv 1) (pe_ix ix_str pe_str (pe_op op_mod (pv 4) pe_int) (fun _ _ => rfl))))))))))))
  (pss_one (ps_ret (pe_op op_catG (pe_slice sl_g (pv 1) po_none (po_some (pe_un un_neg pe_int))) (pe_op op_repG (pe_lstG (pa_c pe_str pa_nil)) (pv 2)))))))), ?_⟩
  walk_at "rd"
  intro p H1 hp g1 h1
  refine tfor_in ?_
  simp only [iRng1]
  walk_at "rd"
  refine ⟨c, 0, rfl, by decide, by decide, fun m m0 m1 => ?_⟩
  walk_at "rd"
  refine ⟨by omega, by omega, for_range (fun i σ H2 => ∃ (ts : List Str) (d : Nat) (v3 v4 v5 : Option V), σ = [some (.int c), some (.ref p), some (.int (d : Nat)), v3, v4, v5] ∧ Same H H2 ∧ H2 p = some (.lst (ts.map V.str)) ∧ W5 ts true d i (12 * i) ∧ (i ≠ 0 → ∃ qs o, ts = qs ++ [o] ∧ W5 qs false d i (12 * i))) ?_ ?_ ?_⟩
  · exact ⟨[], 0, none, none, none, rfl, g1, h1, ⟨rfl, fun x hx => absurd hx List.not_mem_nil, Nat.zero_le _, Nat.zero_le _, Nat.zero_le _⟩, fun z => absurd rfl z⟩
  · rintro i σ H2 hi ⟨ts, d, v3, v4, v5, rfl, g2, h2, w2, _⟩
    walk_at "rd"
    refine ⟨c, _, rfl, by omega, by omega, fun n n0 n1 => ?_⟩
    refine ⟨fun σ' H' => ∃ (ts' : List Str) (d' : Nat) (n' : Int), σ' = [some (.int c), some (.ref p), some (.int (d' : Nat)), some (.int (0 + i)), some (.int n'), v5] ∧ Same H H' ∧ H' p = some (.lst (ts'.map V.str)) ∧ W5 ts' true d' i (12 * i + d') ∧ 0 ≤ n' ∧ n' < 2 ^ 28, ?_, ?_⟩
    · refine ⟨fun m' σ' H' => ∃ (ts' : List Str) (d' : Nat) (n' : Int), σ' = [some (.int c), some (.ref p), some (.int (d' : Nat)), some (.int (0 + i)), some (.int n'), v5] ∧ Same H H' ∧ H' p = some (.lst (ts'.map V.str)) ∧ W5 ts' true d' i (12 * i + d') ∧ 0 ≤ n' ∧ n' < 2 ^ 28 ∧ m' = 5 - d',
        ⟨5 - d, ts, d, n, rfl, g2, h2, w2.up (Nat.le_refl _) (by omega), n0, n1, rfl⟩, ?_⟩
      rintro m' σ' H' ⟨ts', d', n', rfl, g', h', w', a0, a1, rfl⟩
      clear g2 h2 w2
      walk_at "rd"
      have st : ∃ (ts'_1 : List Str) (d'_1 : Nat), ((d' : Nat) : Int) = (d'_1 : Nat) ∧ List.map V.str ts' = List.map V.str ts'_1 ∧ W5 ts'_1 true d'_1 i (12 * i + d'_1) ∧ n' < 268435456 := ⟨ts', d', rfl, rfl, w', a1⟩
      refine ite2 (fun c1 => ite2 (fun c2 => ite2 (fun c3 => ?_) fun _ => st) fun _ => st) fun _ => st
      have l' := w'.ln
      have d'' := w'.dp
      refine ⟨fun σ'' H'' => σ'' = [some (V.int c), some (V.ref p), some (V.int (↑d' + 1)), some (V.int (0 + ↑i)), some (V.int (n' / 4)), v5] ∧ Same H H'' ∧ H'' p = some (.lst ((ts' ++ [Str.ofString "("]).map V.str)), ?_, by rw [List.length_map]; omega, fun H3 mu => ⟨rfl, mu.same g' hp, by rw [mu.at_, List.map_append]; rfl⟩⟩
      rintro σ'' H'' ⟨rfl, b1, b2⟩
      exact ⟨5 - (d' + 1), by omega, _, d' + 1, n' / 4, rfl, b1, b2, (w'.opn (by omega)).up (Nat.le_refl _) (by omega), by omega, by omega, rfl⟩
    · rintro σ' H3 ⟨ts3, d3, n3, rfl, g3, h3, w3, n30, n31⟩
      clear h2 w2 g2
      walk_at "rd"
      have lg : ∀ k : Int, 0 ≤ k → k < 3000 → k.natAbs.log2 < 1920 := fun k k0 k1 => by
        have : k.natAbs < 2 ^ 1920 := Nat.lt_of_lt_of_le (show k.natAbs < 2 ^ 30 by omega) (Nat.pow_le_pow_right (by decide) (by decide))
        by_cases z : k.natAbs = 0
        · rw [z]; decide
        · exact (Nat.log2_lt z).mpr this
      refine ⟨lg _ (by omega) (by omega), lg _ (by omega) (by omega), by omega, fun p4 H4 hp4 g4 h4 => ⟨_, .inr h4, ?_⟩⟩
      obtain ⟨y, hy, hym, _⟩ := atI_in (xs := [V.str (Str.ofString (toString (n3 / 8 % 12))), V.str (Str.ofString (toString (n3 / 8 % 3000))), V.str (Str.ofString "now"), V.str (Str.ofString "own"), V.str (Str.ofString "a"), V.str (Str.ofString "bb"), V.str (Str.ofString "c")]) (i := n3 % 7) (by omega) (by show n3 % 7 < 7; omega)
      obtain ⟨x, rfl, hx⟩ : ∃ x : Str, y = .str x ∧ leaf5 x := by
        simp only [List.mem_cons, List.not_mem_nil, or_false] at hym
        rcases hym with rfl | rfl | rfl | rfl | rfl | rfl | rfl
        · exact ⟨_, rfl, .inl ⟨(n3 / 8 % 12).toNat, by omega, by rw [Int.toNat_of_nonneg (by omega)]⟩⟩
        · exact ⟨_, rfl, .inl ⟨(n3 / 8 % 3000).toNat, by omega, by rw [Int.toNat_of_nonneg (by omega)]⟩⟩
        · exact ⟨_, rfl, .inr (by decide +kernel)⟩
        · exact ⟨_, rfl, .inr (by decide +kernel)⟩
        · exact ⟨_, rfl, .inr (by decide +kernel)⟩
        · exact ⟨_, rfl, .inr (by decide +kernel)⟩
        · exact ⟨_, rfl, .inr (by decide +kernel)⟩
      have h34 := g4 _ _ h3
      have wl := w3.leaf hx
      have l3 := w3.ln
      have d3' := w3.dp
      have hne : H p = none := hp
      refine ⟨_, hy, _, h34, _, h34, by rw [List.length_map]; omega, fun H5 mu5 => ?_⟩
      have g5 : Same H H5 := mu5.same (g3.trans g4) hp
      have h5 : H5 p = some (.lst ((ts3 ++ [x]).map V.str)) := by rw [mu5.at_, List.map_append]; rfl
      clear h34 h3 h4 g3 g4 mu5 w3
      refine ⟨fun σ' H' => ∃ (ts' : List Str) (d' : Nat) (n' : Int), σ' = [some (.int c), some (.ref p), some (.int (d' : Nat)), some (.int (0 + i)), some (.int n'), some (.str x)] ∧ Same H H' ∧ H' p = some (.lst (ts'.map V.str)) ∧ W5 ts' false d' (i + 1) (12 * i + 11) ∧ 0 ≤ n', ?_, ?_⟩
      · refine ⟨fun m' σ' H' => ∃ (ts' : List Str) (d' : Nat) (n' : Int), σ' = [some (.int c), some (.ref p), some (.int (d' : Nat)), some (.int (0 + i)), some (.int n'), some (.str x)] ∧ Same H H' ∧ H' p = some (.lst (ts'.map V.str)) ∧ W5 ts' false d' (i + 1) (12 * i + 11 - d') ∧ 0 ≤ n' ∧ m' = d',
          ⟨d3, ts3 ++ [x], d3, n3 / 56, rfl, g5, h5, wl.up (Nat.le_refl _) (by omega), by omega, rfl⟩, ?_⟩
        rintro m' σ' H' ⟨ts', d', n', rfl, g', h', w', a0, rfl⟩
        clear g5 h5 wl
        walk_at "rd"
        have st : ∃ (ts'_1 : List Str) (d' : Nat), ((m' : Nat) : Int) = (d' : Nat) ∧ List.map V.str ts' = List.map V.str ts'_1 ∧ W5 ts'_1 false d' (i + 1) (12 * i + 11) := ⟨ts', m', rfl, rfl, w'.up (Nat.le_refl _) (by omega)⟩
        refine ite2 (fun c1 => ite2 (fun c2 => ite2 (fun c3 => ?_) fun _ => st) fun _ => st) fun _ => st
        have l' := w'.ln
        have d'' := w'.dp
        refine ⟨fun σ'' H'' => σ'' = [some (V.int c), some (V.ref p), some (V.int (↑m' - 1)), some (V.int (0 + ↑i)), some (V.int (n' / 3)), some (V.str x)] ∧ Same H H'' ∧ H'' p = some (.lst ((ts' ++ [Str.ofString ")"]).map V.str)), ?_, by rw [List.length_map]; omega, fun H3 mu => ⟨rfl, mu.same g' hp, by rw [mu.at_, List.map_append]; rfl⟩⟩
        rintro σ'' H'' ⟨rfl, b1, b2⟩
        have e1 : ((m' : Nat) : Int) - 1 = ((m' - 1 : Nat) : Int) := by omega
        exact ⟨m' - 1, by omega, _, m' - 1, n' / 3, by rw [e1], b1, b2, (w'.shut (by omega)).up (Nat.le_refl _) (by omega), by omega, rfl⟩
      · rintro σ' H6 ⟨ts6, d6, n6, rfl, g6, h6, w6, n60⟩
        clear g5 h5 wl
        walk_at "rd"
        obtain ⟨y, hy, hym, _⟩ := atI_in (xs := [43, 45, 42]) (i := n6 % 3) (by omega) (by simp only [List.length_cons, List.length_nil]; omega)
        have ho : isOp (⟨#[y]⟩ : Str) = true := by
          simp only [List.mem_cons, List.not_mem_nil, or_false] at hym
          rcases hym with rfl | rfl | rfl <;> decide +kernel
        have l6 := w6.ln
        refine ⟨Nat.le_of_lt (small1000 (by decide +kernel)), y, by rw [show (Str.ofString "+-*").cps.toList = [43, 45, 42] by decide +kernel]; exact hy, by rw [List.length_map]; omega, fun H7 mu => ⟨ts6 ++ [⟨#[y]⟩], d6, rfl, mu.same g6 hp, by rw [mu.at_, List.map_append]; rfl, (w6.op ho).up (Nat.le_refl _) (by omega), fun _ => ⟨ts6, _, rfl, w6.up (Nat.le_refl _) (by omega)⟩⟩⟩
  · rintro σ H2 ⟨ts, d, v3, v4, v5, rfl, g2, h2, w2, w3⟩
    walk_at "rd"
    obtain ⟨qs, o, rfl, wq⟩ := w3 (by omega)
    have lq := wq.ln
    have dq := wq.dp
    have e1 : List.take ((-1 + ((List.map V.str (qs ++ [o])).length : Int)).toNat - 0) (List.map V.str (qs ++ [o])) = qs.map V.str := by
      have e0 : (-1 + ((List.map V.str (qs ++ [o])).length : Int)).toNat - 0 = (qs.map V.str).length := by
        rw [List.length_map, List.length_map, List.length_append, List.length_singleton]; omega
      rw [e0, List.map_append, List.take_left]
    have e2 : (List.replicate (((d : Nat) : Int)).toNat [V.str (Str.ofString ")")]).flatten = (List.replicate d (Str.ofString ")")).map V.str := by
      rw [Int.toNat_natCast]
      exact rep_one d
    intro p3 H3 hp3 g3 h3 p4 H4 hp4 g4 h4
    rw [e1] at h3
    refine ⟨_, h4, by omega, by omega, by show 1 * _ ≤ _; omega, fun p5 H5 hp5 g5 h5 => ⟨_, g5 _ _ (g4 _ _ h3), _, h5, ?_, fun p6 H6 hp6 g6 h6 => q p6 H6 (qs ++ List.replicate d (Str.ofString ")")) (((g2.trans g3).trans g4).trans (g5.trans g6)) ?_ ((wq.shutAll d).up (by omega) (by omega))⟩⟩
    · rw [e2, List.length_map, List.length_map, List.length_replicate]; omega
    · rw [h6, e2, List.map_append]
end
end K05

set_option Elab.async false
set_option linter.all false
set_option maxRecDepth 100000
set_option maxHeartbeats 4000000
namespace K05
open PySem L2
/-! the two heaps, as they lie: numbers with bounds -/
inductive Bs : List Int → List Nat → Prop
  | nil : Bs [] []
  | cons {x : Int} {c : Nat} {xs : List Int} {cs : List Nat} : -(3000 : Int) ^ c ≤ x → x ≤ 3000 ^ c → 1 ≤ c → Bs xs cs → Bs (x :: xs) (c :: cs)
theorem Bs.snoc {x : Int} {c : Nat} (h1 : -(3000 : Int) ^ c ≤ x) (h2 : x ≤ 3000 ^ c) (h3 : 1 ≤ c) : ∀ {xs : List Int} {cs : List Nat}, Bs xs cs → Bs (xs ++ [x]) (cs ++ [c])
  | _, _, .nil => .cons h1 h2 h3 .nil
  | _, _, .cons a b d t => .cons a b d (t.snoc h1 h2 h3)
theorem Bs.unsnoc {x : Int} : ∀ {xs : List Int} {cs : List Nat}, Bs (xs ++ [x]) cs → ∃ cs' c, cs = cs' ++ [c] ∧ Bs xs cs' ∧ -(3000 : Int) ^ c ≤ x ∧ x ≤ 3000 ^ c ∧ 1 ≤ c
  | [], _, .cons a b d .nil => ⟨[], _, rfl, .nil, a, b, d⟩
  | y :: xs, _, .cons a b d t => by
    obtain ⟨cs', c, rfl, t', e⟩ := Bs.unsnoc t
    exact ⟨_ :: cs', c, rfl, .cons a b d t', e⟩
theorem pow_mono {a b : Nat} (h : a ≤ b) : (3000 : Int) ^ a ≤ 3000 ^ b := by
  have e : ∀ k : Nat, (3000 : Int) ^ k = ((3000 ^ k : Nat) : Int) := fun k => by simp
  rw [e, e]
  exact Int.ofNat_le.mpr (Nat.pow_le_pow_right (by decide) h)
theorem pow_pos' (a : Nat) : (0 : Int) < 3000 ^ a := Int.pow_pos (by decide)
theorem ap_bd {o : Op} {x y : Int} {a b : Nat} (h1 : -(3000 : Int) ^ a ≤ x) (h2 : x ≤ 3000 ^ a) (h3 : -(3000 : Int) ^ b ≤ y) (h4 : y ≤ 3000 ^ b) (ha : 1 ≤ a) (hb : 1 ≤ b) : -(3000 : Int) ^ (a + b) ≤ o.ap x y ∧ o.ap x y ≤ 3000 ^ (a + b) := by
  have e : (3000 : Int) ^ (a + b) = 3000 ^ a * 3000 ^ b := Int.pow_add ..
  have pa := pow_pos' a
  have pb := pow_pos' b
  have a1 : (3000 : Int) ≤ 3000 ^ a := by have := pow_mono ha; simpa using this
  have b1 : (3000 : Int) ≤ 3000 ^ b := by have := pow_mono hb; simpa using this
  rw [e]
  generalize (3000 : Int) ^ a = p at *
  generalize (3000 : Int) ^ b = r at *
  have s1 : p + r ≤ p * r := by
    have h := Int.mul_le_mul_of_nonneg_left (show (2 : Int) ≤ r by omega) (show 0 ≤ p by omega)
    have h' := Int.mul_le_mul_of_nonneg_right (show (2 : Int) ≤ p by omega) (show 0 ≤ r by omega)
    omega
  cases o with
  | add => show _ ≤ x + y ∧ x + y ≤ _; omega
  | sub => show _ ≤ x - y ∧ x - y ≤ _; omega
  | mul =>
    show -(p * r) ≤ x * y ∧ x * y ≤ p * r
    have n1 : x.natAbs ≤ p.natAbs := by omega
    have n2 : y.natAbs ≤ r.natAbs := by omega
    have n3 : (x * y).natAbs ≤ (p * r).natAbs := by rw [Int.natAbs_mul, Int.natAbs_mul]; exact Nat.mul_le_mul n1 n2
    have n4 : 0 ≤ p * r := Int.mul_nonneg (by omega) (by omega)
    omega
theorem small5 {c : Nat} {x : Int} (h1 : -(3000 : Int) ^ c ≤ x) (h2 : x ≤ 3000 ^ c) (hc : c ≤ 5) : -(18446744073709551616 : Int) < x ∧ x < 18446744073709551616 := by
  have := pow_mono hc
  have e : (3000 : Int) ^ 5 < 18446744073709551616 := by decide
  omega
section
variable {P : Program} {w : World} {K : PySem.W.Frag} {mg : Str → Option Value} {base : Heap}
def Bt2 (a b : Addr) (H H' : Hp) : Prop := ∀ c u, c ≠ a → c ≠ b → H c = some u → H' c = some u
def spReckon : Sp := fun vs H Q _ => ∃ (a b : Addr) (N : List Int) (x y : Int) (S : List Str) (o : Op) (cs : List Nat), vs = [.ref a, .ref b] ∧ a ≠ b ∧ H a = some (.lst ((N.map V.int ++ [.int x]) ++ [.int y])) ∧ H b = some (.lst (S.map V.str ++ [.str o.sg])) ∧ Bs ((N ++ [x]) ++ [y]) cs ∧ cs.sum ≤ 10 ∧ N.length ≤ 1000 ∧
  ∀ H', Bt2 a b H H' → H' a = some (.lst (N.map V.int ++ [.int (o.ap x y)])) → H' b = some (.lst (S.map V.str)) → Q (.bl (bigN (o.ap x y))) H'
theorem ok_reckon (D : DefAt K mg "_law_reckon" s__law_reckon ["numbers", "signs"]) (habs : mg "abs" = none) : OkD P w K mg base 1 "_law_reckon" ["numbers", "signs"] spReckon := by
  refine D.ok sc__law_reckon (fun vs H Q E h => ?_) (fun f cdv A outer s H vs Q E hr h => ?_)
  · obtain ⟨_, _, _, _, _, _, _, _, rfl, _⟩ := h; rfl
  obtain ⟨a, b, N, x, y, S, o, cs, rfl, hab, ha, hb, bs, sm, nl, q⟩ := h
  have hu := hu_of hr
  have big : 100000 ≤ sizeLine := by unfold sizeLine; decide
  refine ⟨_, (pss_cons (ps_set (i := 2) sc__law_reckon.nd rfl (Or.inl rfl) (pe_bm0 PySem.F.plainAttrs_list PySem.F.slot_list_pop PySem.F.type_list_pop mt_popG (pv 1)))
  (pss_cons (ps_set (i := 3) sc__law_reckon.nd rfl (Or.inl rfl) (pe_bm0 PySem.F.plainAttrs_list PySem.F.slot_list_pop PySem.F.type_list_pop mt_popG (pv 0)))
  (pss_cons (ps_set (i := 4) sc__law_reckon.nd rfl (Or.inl rfl) (pe_bm0 PySem.F.plainAttrs_list PySem.F.slot_list_pop PySem.F.type_list_pop mt_popG (pv 0)))
  (pss_cons (ps_set (i := 5) sc__law_reckon.nd rfl (Or.inl rfl) (pe_dgetG hu (pe_dispG (pps_cons pe_str (pe_op op_add (pv 4) (pv 3)) (pps_cons pe_str (pe_op op_sub (pv 4) (pv 3)) (pps_cons pe_str (pe_op op_mul (pv 4) (pv 3)) pps_nil))) rfl rfl (by simp) (by decide)) (pv 2) (fun _ _ => rfl)))
  (pss_cons (ps_expr (pe_appG (pv 0) (pv 5)))
  (pss_one (ps_ret (pe_cmpR op_gt (pe_cB call_abs rfl habs (by decide +kernel) (pa_c (pv 5) pa_nil)) (pe_op op_pow pe_int pe_int) (nomark _))))))))), ?_⟩
  walk_at "rd"
  obtain ⟨cs1, cy, rfl, bs1, y1, y2, y3⟩ := bs.unsnoc
  obtain ⟨cs2, cx, rfl, bs2, x1, x2, x3⟩ := bs1.unsnoc
  have sm' : cx ≤ 5 ∨ cy ≤ 5 := by
    simp only [List.sum_append, List.sum_cons, List.sum_nil] at sm
    omega
  have mul : (-18446744073709551616 < x ∧ x < 18446744073709551616) ∨ -18446744073709551616 < y ∧ y < 18446744073709551616 := sm'.elim (fun h => .inl (small5 x1 x2 h)) fun h => .inr (small5 y1 y2 h)
  refine ⟨⟨_, SqL.of hb⟩, _, _, rfl, fun H1 mu1 => ?_⟩
  have ha1 : H1 a = some (.lst ((N.map V.int ++ [.int x]) ++ [.int y])) := mu1.old ha hab
  refine ⟨⟨_, SqL.of ha1⟩, _, _, ha1, fun H2 mu2 => ⟨⟨_, SqL.of mu2.at_⟩, _, _, mu2.at_, fun H3 mu3 p H4 hp g4 h4 => ?_⟩⟩
  refine ⟨x, rfl, y, rfl, x, rfl, y, rfl, x, rfl, y, rfl, mul, h4, fun H5 mu5 => ?_⟩
  have hb3 : H3 b = some (.lst (S.map V.str)) := mu3.old (mu2.old mu1.at_ hab.symm) hab.symm
  have pb : b ≠ p := ne_of_none hb3 hp
  have pa : a ≠ p := ne_of_none mu3.at_ hp
  have ha5 : H5 a = some (.lst (N.map V.int)) := mu5.old (g4 _ _ mu3.at_) pa
  have hb5 : H5 b = some (.lst (S.map V.str)) := mu5.old (g4 _ _ hb3) pb
  have h5 := mu5.at_
  have bt : Bt2 a b H H5 := fun c u n1 n2 hc => by
    have h3 : H3 c = some u := mu3.old (mu2.old (mu1.old hc n2) n1) n1
    exact mu5.old (g4 _ _ h3) (ne_of_none h3 hp)
  clear ha hb ha1 mu1 mu2 mu3 h4 g4 hp
  walk_at "rd"
  refine ⟨.int (o.ap x y), ?_, by rw [List.length_map]; omega, fun H6 mu6 => ⟨_, rfl, q H6 (fun c u n1 n2 hc => mu6.old (bt c u n1 n2 hc) n1) mu6.at_ (mu6.old hb5 hab.symm)⟩⟩
  cases o <;> rfl
end
end K05

set_option Elab.async false
set_option linter.all false
set_option maxRecDepth 100000
set_option maxHeartbeats 4000000
namespace K05
open PySem L2
/-! what holds of the two heaps at each step -/
def opsN (S : List Str) : Nat := S.countP isOp
structure MI (s : Sy) (cs : List Nat) (b : Bool) (n : Nat) : Prop where
  sg : ∀ g ∈ s.sgs, g = Str.ofString "(" ∨ isOp g = true
  ct : s.nums.length = opsN s.sgs + (if b = true then 0 else 1)
  bs : Bs s.nums cs
  sm : cs.sum ≤ n
theorem isOp_lp : isOp (Str.ofString "(") = false := by decide +kernel
theorem op_sg {g : Str} (h : isOp g = true) : g = (opOf g).sg := by
  unfold isOp sgMul sgSum at h
  unfold opOf
  by_cases h2 : g = Str.ofString "+"
  · rw [if_pos h2]; exact h2
  · rw [if_neg h2]
    by_cases h3 : g = Str.ofString "-"
    · rw [if_pos h3]; exact h3
    · rw [if_neg h3]
      by_cases h1 : g = Str.ofString "*"
      · exact h1
      · rw [if_neg h1, if_neg h2, if_neg h3] at h; cases h
theorem goes_op {star : Bool} {g : Str} (h : goesOn star g = true) : g ≠ Str.ofString "(" := fun e => by
  unfold goesOn at h
  rw [decide_eq_true e] at h
  cases h
/-- the uppermost sign goes: two numbers are there -/
theorem MI.two {s : Sy} {cs : List Nat} {n : Nat} {S : List Str} {g : Str} (h : MI s cs false n) (e : s.sgs = S ++ [g]) (hg : isOp g = true) : ∃ N x y, s.nums = (N ++ [x]) ++ [y] := by
  have hc := h.ct
  rw [e] at hc
  unfold opsN at hc
  rw [List.countP_append, List.countP_cons, List.countP_nil, if_pos hg] at hc
  have hl : 2 ≤ s.nums.length := by
    rw [hc]
    simp
  rcases List.eq_nil_or_concat s.nums with e1 | ⟨M, y, e1⟩
  · rw [e1] at hl; simp at hl
  · rw [List.concat_eq_append] at e1
    rcases List.eq_nil_or_concat M with e2 | ⟨N, x, e2⟩
    · rw [e1, e2] at hl; simp at hl
    · rw [List.concat_eq_append] at e2
      exact ⟨N, x, y, by rw [e1, e2]⟩
theorem reck_is {s : Sy} {N : List Int} {x y : Int} {S : List Str} {g : Str} (e1 : s.nums = (N ++ [x]) ++ [y]) (e2 : s.sgs = S ++ [g]) : reck s = ⟨N ++ [(opOf g).ap x y], S, bigN ((opOf g).ap x y) || s.big⟩ := by
  have := reck_eq (N := N) (p := x) (o := y) (S := S) (g := g) (b := s.big)
  rw [← this]
  cases s with | mk a b c =>
  simp only at e1 e2
  rw [e1, e2, List.append_assoc]
  rfl
theorem MI.reck {s : Sy} {cs : List Nat} {n : Nat} {S : List Str} {g : Str} {N : List Int} {x y : Int} (h : MI s cs false n) (e1 : s.nums = (N ++ [x]) ++ [y]) (e2 : s.sgs = S ++ [g]) (hg : isOp g = true) : ∃ cs', MI (K05.reck s) cs' false n := by
  have hb := h.bs
  rw [e1] at hb
  obtain ⟨cs1, cy, rfl, bs1, y1, y2, y3⟩ := hb.unsnoc
  obtain ⟨cs2, cx, rfl, bs2, x1, x2, x3⟩ := bs1.unsnoc
  rw [reck_is e1 e2]
  obtain ⟨b1, b2⟩ := ap_bd (o := opOf g) x1 x2 y1 y2 x3 y3
  refine ⟨cs2 ++ [cx + cy], ⟨fun k hk => h.sg k (by rw [e2]; exact List.mem_append_left _ hk), ?_, bs2.snoc b1 b2 (by omega), ?_⟩⟩
  · have hc := h.ct
    rw [e1, e2] at hc
    unfold opsN at hc ⊢
    rw [List.countP_append, List.countP_cons, List.countP_nil, if_pos hg] at hc
    simp only [List.length_append, List.length_cons, List.length_nil] at hc ⊢
    omega
  · have := h.sm
    simp only [List.sum_append, List.sum_cons, List.sum_nil] at this ⊢
    omega
theorem MI.push {s : Sy} {cs : List Nat} {n : Nat} {g : Str} (h : MI s cs false n) (hg : isOp g = true) : MI { s with sgs := s.sgs ++ [g] } cs true n := by
  refine ⟨fun k hk => ?_, ?_, h.bs, h.sm⟩
  · rcases List.mem_append.mp hk with hk | hk
    · exact h.sg k hk
    · rw [List.mem_singleton.mp hk]; exact .inr hg
  · have := h.ct
    show s.nums.length = opsN (s.sgs ++ [g]) + 0
    unfold opsN at this ⊢
    rw [List.countP_append, List.countP_cons, List.countP_nil, if_pos hg, this]
    simp
theorem MI.open {s : Sy} {cs : List Nat} {n : Nat} (h : MI s cs true n) : MI { s with sgs := s.sgs ++ [Str.ofString "("] } cs true n := by
  refine ⟨fun k hk => ?_, ?_, h.bs, h.sm⟩
  · rcases List.mem_append.mp hk with hk | hk
    · exact h.sg k hk
    · rw [List.mem_singleton.mp hk]; exact .inl rfl
  · have := h.ct
    show s.nums.length = opsN (s.sgs ++ [Str.ofString "("]) + 0
    unfold opsN at this ⊢
    rw [List.countP_append, List.countP_cons, List.countP_nil, if_neg (by rw [isOp_lp]; exact Bool.false_ne_true), this]
    simp
theorem MI.num {s : Sy} {cs : List Nat} {n : Nat} {x : Int} (h : MI s cs true n) (h1 : -3000 ≤ x) (h2 : x ≤ 3000) : MI { s with nums := s.nums ++ [x] } (cs ++ [1]) false (n + 1) := by
  refine ⟨h.sg, ?_, h.bs.snoc (by simpa using h1) (by simpa using h2) (Nat.le_refl _), ?_⟩
  · have := h.ct
    show (s.nums ++ [x]).length = opsN s.sgs + 1
    rw [List.length_append, List.length_singleton, this]
    simp
  · have := h.sm
    simp only [List.sum_append, List.sum_cons, List.sum_nil]
    omega
theorem MI.shut {s : Sy} {cs : List Nat} {n : Nat} (h : MI s cs false n) (hl : s.sgs.getLast? = none ∨ s.sgs.getLast? = some (Str.ofString "(")) : MI { s with sgs := s.sgs.dropLast } cs false n := by
  refine ⟨fun k hk => h.sg k (List.dropLast_subset _ hk), ?_, h.bs, h.sm⟩
  have := h.ct
  show s.nums.length = opsN s.sgs.dropLast + 1
  rcases hl with hl | hl
  · rw [List.getLast?_eq_none_iff.mp hl] at this ⊢
    exact this
  · obtain ⟨S, e⟩ := List.getLast?_eq_some_iff.mp hl
    rw [e] at this ⊢
    rw [List.dropLast_concat]
    unfold opsN at this ⊢
    rw [List.countP_append, List.countP_cons, List.countP_nil, if_neg (by rw [isOp_lp]; exact Bool.false_ne_true)] at this
    simpa using this
theorem red_done {star : Bool} {s : Sy} (h : s.sgs.getLast? = none ∨ ∃ g, s.sgs.getLast? = some g ∧ goesOn star g = false) : red star s = s := by
  rcases h with h | ⟨g, h, hg⟩
  · have e := List.getLast?_eq_none_iff.mp h
    unfold red
    rw [e]; rfl
  · obtain ⟨S, e⟩ := List.getLast?_eq_some_iff.mp h
    cases s with | mk a b c =>
    simp only at e
    subst e
    exact red_stop hg
theorem red_more {star : Bool} {s : Sy} {N : List Int} {x y : Int} {S : List Str} {g : Str} (e1 : s.nums = (N ++ [x]) ++ [y]) (e2 : s.sgs = S ++ [g]) (hg : goesOn star g = true) : red star s = red star (K05.reck s) := by
  rw [reck_is e1 e2]
  cases s with | mk a b c =>
  simp only at e1 e2
  subst e1 e2
  rw [List.append_assoc]
  exact red_step hg
end K05

set_option Elab.async false
set_option linter.all false
set_option maxRecDepth 100000
set_option maxHeartbeats 4000000
namespace K05
open PySem L2
def valOf (kvs : List (Key × V)) (x : Str) : Int := match valV kvs (.inr x) with
  | some (.int n) => n
  | _ => (PySem.intText? x).getD 0
structure Kn (kvs : List (Key × V)) (kv : Str → Int) : Prop where
  yes : ∀ x ∈ names5, valV kvs (.inr x) = some (.int (kv x)) ∧ -3000 ≤ kv x ∧ kv x ≤ 3000
  no : ∀ x, x ∉ names5 → valV kvs (.inr x) = none
theorem num_no {n : Nat} (h : n < 3000) : Str.ofString (toString ((n : Nat) : Int)) ∉ names5 := fun hm => by
  have h1 : ∀ x ∈ names5, ∀ t, leafOf x = some t → t.depth = 0 ∧ ∀ k, t ≠ .num k := by
    intro x hx t ht
    have : ∀ x ∈ names5, leafOf x = some .now ∨ leafOf x = some .own ∨ leafOf x = some (.name x) := by
      intro y hy
      have hy' : y = Str.ofString "now" ∨ y = Str.ofString "own" ∨ y = Str.ofString "a" ∨ y = Str.ofString "bb" ∨ y = Str.ofString "c" := by
        unfold names5 at hy
        simpa using hy
      have nm : ∀ z : Str, z ≠ Str.ofString "now" → z ≠ Str.ofString "own" → nameOk z = true → leafOf z = some (.name z) := fun z z1 z2 z3 => by
        unfold leafOf
        rw [if_neg z1, if_neg z2, if_pos z3]
      rcases hy' with rfl | rfl | rfl | rfl | rfl
      · exact .inl (by unfold leafOf; rw [if_pos rfl])
      · exact .inr (.inl (by unfold leafOf; rw [if_neg (by decide +kernel), if_pos rfl]))
      · exact .inr (.inr (nm _ (by decide +kernel) (by decide +kernel) (by decide +kernel)))
      · exact .inr (.inr (nm _ (by decide +kernel) (by decide +kernel) (by decide +kernel)))
      · exact .inr (.inr (nm _ (by decide +kernel) (by decide +kernel) (by decide +kernel)))
    rcases this x hx with e | e | e <;> rw [e] at ht <;> cases ht <;> exact ⟨rfl, fun k z => by cases z⟩
  exact (h1 _ hm _ (leaf_num (by omega))).2 _ rfl
theorem leaf5_val {kvs : List (Key × V)} {kv : Str → Int} (k : Kn kvs kv) {x : Str} (h : leaf5 x) : (∃ n : Int, valV kvs (.inr x) = some (.int n) ∧ valOf kvs x = n ∧ -3000 ≤ n ∧ n ≤ 3000) ∨ (valV kvs (.inr x) = none ∧ ∃ n : Nat, n < 3000 ∧ PySem.intText? x = some (n : Int) ∧ x.length ≤ 6 ∧ valOf kvs x = n) := by
  rcases h with ⟨n, hn, rfl⟩ | h
  · refine .inr ⟨k.no _ (num_no hn), n, hn, PySem.W.KIN.num_reads (by omega) (by omega), (num_len (by omega)).2, ?_⟩
    unfold valOf
    rw [k.no _ (num_no hn), PySem.W.KIN.num_reads (by omega) (by omega)]
    rfl
  · obtain ⟨e, b1, b2⟩ := k.yes x h
    exact .inl ⟨kv x, e, by unfold valOf; rw [e], b1, b2⟩
theorem Bs.len : ∀ {xs : List Int} {cs : List Nat}, Bs xs cs → xs.length ≤ cs.sum
  | _, _, .nil => Nat.le_refl _
  | _, _, .cons _ _ h t => by
    have := t.len
    rw [List.length_cons, List.sum_cons]
    omega
theorem in_four {y : Str} : inV (.str y) [.str (Str.ofString "+"), .str (Str.ofString "-"), .str (Str.ofString "*"), .str (Str.ofString ")")] = true ↔ (isOp y = true ∨ y = Str.ofString ")") := by
  simp only [inV_cons, inV_nil, eqV_ss, Bool.or_false, Bool.or_eq_true, decide_eq_true_eq]
  constructor
  · rintro (rfl | rfl | rfl | rfl)
    · exact .inl (by decide +kernel)
    · exact .inl (by decide +kernel)
    · exact .inl (by decide +kernel)
    · exact .inr rfl
  · rintro (h | h)
    · have e := op_sg h
      rw [e]
      cases opOf y
      · exact .inl rfl
      · exact .inr (.inl rfl)
      · exact .inr (.inr (.inl rfl))
    · exact .inr (.inr (.inr h.symm))
theorem sg_no5 {x : Str} (h : x = Str.ofString "(" ∨ x = Str.ofString ")" ∨ isOp x = true) : x ∉ names5 := fun hm => by
  have h1 := no_leaf h
  rw [leaf5_some (.inr hm)] at h1
  cases h1
theorem rpl_strs {K : PySem.W.Frag} {H : Hp} : ∀ ss : List Str, RpL K H (ss.map V.str) (ss.map PyData.str)
  | [] => .nil
  | s :: ss => .cons (.str s) (rpl_strs ss)
theorem depth_strs : ∀ ss : List Str, PyData.depthAll (ss.map PyData.str) ≤ 1
  | [] => Nat.zero_le _
  | s :: ss => by
    have := depth_strs ss
    simp only [List.map_cons, PyData.depthAll, PyData.depth]
    omega
theorem shaped_strs {ss : List Str} (h : ss.all PyData.strOk = true) : SeqAt.shaped (.list (ss.map PyData.str)) = true := by
  unfold SeqAt.shaped
  have e : PyData.canLay0 (.list (ss.map PyData.str)) = ss.all PyData.strOk := by
    simp only [PyData.canLay0]
    exact PyProof.Rows.canLayAll_strs' ss
  have d := depth_strs ss
  rw [e, h, Bool.true_and, decide_eq_true_eq]
  simp only [PyData.depth]
  omega
theorem eqv_nil {ss : List Str} : PyData.eqv (.list (ss.map PyData.str)) (.list []) = ss.isEmpty := by
  cases ss <;> simp [PyData.eqv, PyData.eqvAll]
theorem sg_str {S : List Str} (h : ∀ g ∈ S, g = Str.ofString "(" ∨ isOp g = true) : S.all PyData.strOk = true := by
  rw [List.all_eq_true]
  intro g hg
  rcases h g hg with rfl | h
  · decide +kernel
  · rw [op_sg h]
    cases opOf g <;> decide +kernel
section
variable {P : Program} {w : World} {K : PySem.W.Frag} {mg : Str → Option Value} {base : Heap}
def spDue : Sp := fun vs H Q _ => ∃ (p d : Addr) (ts : List Str) (kvs : List (Key × V)) (kv : Str → Int), vs = [.ref p, .ref d] ∧ H p = some (.lst (ts.map V.str)) ∧ W5 ts false 0 10 200 ∧ H d = some (.dK kvs) ∧ Kn kvs kv ∧
  ∀ r H' n ns S b, Same H H' → syRun (valOf kvs) (ts ++ [Str.ofString ")"]) ⟨[], [], false⟩ = ⟨n :: ns, S, b⟩ → H' r = some (.lst [.int n, .bl b]) → Q (.ref r) H'
theorem ok_due (D : DefAt K mg "_law_due" s__law_due ["parts", "values"]) (hint : mg "int" = none) (G__law_reckon : OkD P w K mg base 1 "_law_reckon" ["numbers", "signs"] spReckon) : OkD P w K mg base 10 "_law_due" ["parts", "values"] spDue := by
  refine D.ok sc__law_due (fun vs H Q E h => ?_) (fun f cdv A outer s H vs Q E hr h => ?_)
  · obtain ⟨_, _, _, _, _, rfl, _⟩ := h; rfl
  obtain ⟨p, d, ts, kvs, kv, rfl, hp, wt, hd, kn, q⟩ := h
  have hu := hu_of hr
  have hu64 := hr.units
  have big : 100000 ≤ sizeLine := by unfold sizeLine; decide
  have tl := wt.ln
  refine ⟨_, (pss_cons (ps_set (i := 2) sc__law_due.nd rfl (Or.inl rfl) (pe_lstG pa_nil))
  (pss_cons (ps_set (i := 3) sc__law_due.nd rfl (Or.inl rfl) (pe_lstG pa_nil))
  (pss_cons (ps_set (i := 4) sc__law_due.nd rfl (Or.inl rfl) pe_bl)
  (pss_cons (ps_for PassesOwn.never rfl (pi_list (pe_op op_catG (pv 0) (pe_lstG (pa_c pe_str pa_nil)))) (pg_name (i := 5) sc__law_due.nd rfl (Or.inl rfl))
  (pss_one (ps_if (pt_cmpR op_eq (pv 5) pe_str (nomark _))
  (pss_one (ps_expr (pe_appG (pv 3) (pv 5))))
  (pss_one (ps_if (pt_cmp (pc_dinG hu (pv 5) (pv 1)) (by with_unfolding_all rfl))
  (pss_one (ps_expr (pe_appG (pv 2) (pe_dgetG hu (pv 1) (pv 5) (fun _ _ => rfl)))))
  (pss_one (ps_if (pt_cmpR op_notInG (pv 5) (pe_lstG (pa_c pe_str (pa_c pe_str (pa_c pe_str (pa_c pe_str pa_nil))))) (by with_unfolding_all rfl))
  (pss_one (ps_expr (pe_appG (pv 2) (pe_cTy call_int_str rfl hint (by decide +kernel) (pa_c (pv 5) pa_nil)))))
  (pss_cons (ps_up (ps_while PassesOwn.never (PW.pt (pw_and (pt_cmpR (op_neD hu64) (pv 3) (pe_lstG pa_nil) (nomark _)) (pw_and (pt_cmpR op_ne (pe_ix ix_g (pv 3) (pe_un un_neg pe_int) (fun _ _ => rfl)) pe_str (nomark _)) (pw_and1 (PW.pt (pw_or (pt_cmpR op_ne (pv 5) pe_str (nomark _)) (pw_or1 (pt_cmpR op_eq (pe_ix ix_g (pv 3) (pe_un un_neg pe_int) (fun _ _ => rfl)) pe_str (nomark _)))))))))
  (pss_one (ps_set (i := 4) sc__law_due.nd rfl (Or.inl rfl) (pe_or (pe_def G__law_reckon hr rfl (pa_c (pv 2) (pa_c (pv 3) pa_nil))) (pe_one (pv 4)))))))
  (pss_one (ps_if (pt_cmpR op_ne (pv 5) pe_str (nomark _))
  (pss_one (ps_expr (pe_appG (pv 3) (pv 5))))
  (pss_one (ps_if (pt_cmpR (op_neD hu64) (pv 3) (pe_lstG pa_nil) (nomark _))
  (pss_one (ps_expr (pe_bm0 PySem.F.plainAttrs_list PySem.F.slot_list_pop PySem.F.type_list_pop mt_popG (pv 3))))
  pss_nil))))))))))))
  (pss_one (ps_ret (pe_lstG (pa_c (pe_ix ix_g (pv 2) pe_int (fun _ _ => rfl)) (pa_c (pv 4) pa_nil))))))))), ?_⟩
  walk_at "rd"
  intro a H1 ha g1 h1 b H2 hb g2 h2
  refine tfor_in ?_
  simp only [iList]
  have hp2 := g2 _ _ (g1 _ _ hp)
  walk_at "rd"
  intro e H3 he g3 h3
  have hp3 := g3 _ _ hp2
  walk_at "rd"
  refine ⟨by simp only [List.length_map]; omega, fun q4 H4 hq4 g4 h4 => ⟨⟨_, SqL.of h4⟩, ?_⟩⟩
  have hH : Same H H4 := ((g1.trans g2).trans g3).trans g4
  have eT : ts.map V.str ++ [V.str (Str.ofString ")")] = (ts ++ [Str.ofString ")"]).map V.str := by rw [List.map_append]; rfl
  rw [eT] at h4
  have hab : a ≠ b := ne_of_none h1 hb
  have hbH : H b = none := none_of_same g1 hb
  have haq : q4 ≠ a := fun z => by rw [z, g3 _ _ (g2 _ _ h1)] at hq4; cases hq4
  have hbq : q4 ≠ b := fun z => by rw [z, g3 _ _ h2] at hq4; cases hq4
  have h14 := g4 _ _ (g3 _ _ (g2 _ _ h1))
  have h24 := g4 _ _ (g3 _ _ h2)
  have keepT : ∀ {Hx Hy : Hp} {o : HO} {c : Addr}, (c = a ∨ c = b) → Mu Hx c o Hy → Hx q4 = some (.lst ((ts ++ [Str.ofString ")"]).map V.str)) → Hy q4 = some (.lst ((ts ++ [Str.ofString ")"]).map V.str)) := fun {Hx Hy o c} hc mu h => mu.old h (fun z => by rcases hc with rfl | rfl; exact haq z; exact hbq z)
  clear g1 g2 g3 g4 h1 h2 h3 he hq4 hp2 hp3 hb
  refine for_list (xs := (ts ++ [Str.ofString ")"]).map V.str) (fun i σ Hx => ∃ (s : Sy) (v5 : Option V), σ = [some (.ref p), some (.ref d), some (.ref a), some (.ref b), some (.bl s.big), v5] ∧ Same H Hx ∧ Hx q4 = some (.lst ((ts ++ [Str.ofString ")"]).map V.str)) ∧ Hx a = some (.lst (s.nums.map V.int)) ∧ Hx b = some (.lst (s.sgs.map V.str)) ∧ s = syRun (valOf kvs) ((ts ++ [Str.ofString ")"]).take i) ⟨[], [], false⟩ ∧
      (i ≤ ts.length → ∃ cs bb dd, (ts.take i).foldl stepR (some (true, 0)) = some (bb, dd) ∧ MI s cs bb (lvs (ts.take i))) ∧ (i = ts.length + 1 → s.nums ≠ []) ∧ s.sgs.length ≤ i) ?_ ?_ ?_ ?_
  · refine ⟨⟨[], [], false⟩, none, rfl, hH, h4, h14, h24, rfl, fun _ => ⟨[], true, 0, rfl, ⟨fun g hg => absurd hg List.not_mem_nil, rfl, .nil, Nat.zero_le _⟩⟩, fun z => by omega, Nat.le_refl _⟩
  · rintro i σ Hx hi ⟨s, v5, rfl, gx, hq, _⟩
    exact SqL.of hq
  · rintro i x σ Hx hx ⟨s, v5, rfl, gx, hq, hxa, hxb, es, mi, _, sl⟩
    have hi : i ≤ ts.length := by
      have := (List.getElem?_eq_some_iff.mp hx).1
      rw [List.length_map, List.length_append, List.length_singleton] at this
      omega
    obtain ⟨t, rfl, ht⟩ : ∃ t, x = V.str t ∧ (ts ++ [Str.ofString ")"])[i]? = some t := by
      rw [List.getElem?_map] at hx
      cases e : (ts ++ [Str.ofString ")"])[i]? with
      | none => rw [e] at hx; cases hx
      | some t => rw [e] at hx; cases hx; exact ⟨t, rfl, rfl⟩
    have eS : syRun (valOf kvs) ((ts ++ [Str.ofString ")"]).take (i + 1)) ⟨[], [], false⟩ = stepS (valOf kvs) s t := by
      obtain ⟨h1, h2⟩ := List.getElem?_eq_some_iff.mp ht
      rw [← List.take_append_getElem h1, h2, sy_app, ← es]
      rfl
    obtain ⟨cs, bb, dd, hst, hmi⟩ := mi hi
    have nxt : ∀ s' cs' bb', MI s' cs' bb' (lvs (ts.take i) + (if (leafOf t).isSome = true then 1 else 0)) → (i < ts.length → ∃ dd', stepR (some (bb, dd)) t = some (bb', dd')) → (i < ts.length ∨ s'.nums ≠ []) →
        (i + 1 ≤ ts.length → ∃ cs bb dd, (ts.take (i + 1)).foldl stepR (some (true, 0)) = some (bb, dd) ∧ MI s' cs bb (lvs (ts.take (i + 1)))) ∧ (i = ts.length → s'.nums ≠ []) := by
      intro s' cs' bb' m1 m2 m3
      refine ⟨fun hlt => ?_, fun he => m3.elim (fun z => by omega) id⟩
      obtain ⟨dd', hs⟩ := m2 (by omega)
      have hti : ts[i]? = some t := by
        rw [List.getElem?_append_left (by omega)] at ht
        exact ht
      obtain ⟨h1, h2⟩ := List.getElem?_eq_some_iff.mp hti
      refine ⟨cs', bb', dd', ?_, ?_⟩
      · rw [← List.take_append_getElem h1, h2, List.foldl_append, hst]
        exact hs
      · have : lvs (ts.take (i + 1)) = lvs (ts.take i) + (if (leafOf t).isSome = true then 1 else 0) := by
          unfold lvs
          rw [← List.take_append_getElem h1, h2, List.countP_append, List.countP_cons, List.countP_nil]
          omega
        rw [this]
        exact m1
    have hlv : lvs (ts.take i) ≤ 10 := Nat.le_trans (by unfold lvs; exact List.Sublist.countP_le (List.take_sublist _ _)) wt.lv
    have kind : (t = Str.ofString "(" ∧ bb = true ∧ i < ts.length ∧ stepR (some (bb, dd)) t ≠ none) ∨ (leaf5 t ∧ bb = true ∧ i < ts.length) ∨ ((isOp t = true ∨ t = Str.ofString ")") ∧ bb = false ∧ (i < ts.length → stepR (some (bb, dd)) t ≠ none)) := by
      by_cases hlt : i < ts.length
      · have hti : ts[i]? = some t := by
          rw [List.getElem?_append_left hlt] at ht
          exact ht
        obtain ⟨h1, h2⟩ := List.getElem?_eq_some_iff.mp hti
        have hs : stepR (some (bb, dd)) t ≠ none := fun hn => by
          have hw := wt.st
          rw [← List.take_append_drop (i + 1) ts, ← List.take_append_getElem h1, h2, List.foldl_append, List.foldl_append, hst] at hw
          have : ([t].foldl stepR (some (bb, dd))) = none := hn
          rw [this, stepR_none] at hw
          cases hw
        have tk := wt.tk t (List.mem_of_getElem? hti)
        cases bb with
        | true =>
          have hs0 := hs
          rw [stepR_t] at hs
          by_cases c1 : t = Str.ofString "("
          · exact .inl ⟨c1, rfl, hlt, hs0⟩
          · rw [if_neg c1] at hs
            by_cases c2 : (leafOf t).isSome = true
            · rcases tk with h | h
              · exact .inr (.inl ⟨h, rfl, hlt⟩)
              · rw [no_leaf h] at c2; cases c2
            · rw [if_neg c2] at hs; exact absurd rfl hs
        | false =>
          have hs0 := hs
          rw [stepR_f] at hs
          by_cases c1 : t = Str.ofString ")"
          · exact .inr (.inr ⟨.inr c1, rfl, fun _ => hs0⟩)
          · rw [if_neg c1] at hs
            by_cases c2 : isOp t = true
            · exact .inr (.inr ⟨.inl c2, rfl, fun _ => hs0⟩)
            · rw [if_neg c2] at hs; exact absurd rfl hs
      · have e : i = ts.length := by omega
        subst e
        rw [List.getElem?_append_right (Nat.le_refl _), Nat.sub_self] at ht
        cases ht
        rw [List.take_length, wt.st] at hst
        cases hst
        exact .inr (.inr ⟨.inr rfl, rfl, fun z => absurd z hlt⟩)
    have hdx := gx _ _ hd
    have nl : s.nums.length ≤ 1000 ∧ s.sgs.length ≤ 1000 := ⟨by have := hmi.bs.len; have := hmi.sm; omega, by omega⟩
    clear es ht hx mi hst
    rw [eS]
    rcases kind with ⟨rfl, rfl, hlt, hs0⟩ | ⟨h5, rfl, hlt⟩ | ⟨hop, rfl, hs0⟩
    · walk_at "rd"
      refine ⟨by rw [List.length_map]; omega, fun Hy mu => ⟨{ s with sgs := s.sgs ++ [Str.ofString "("] }, rfl, mu.same gx hbH, keepT (.inr rfl) mu hq, mu.old hxa hab, by rw [mu.at_, List.map_append]; rfl, ?_, ?_⟩⟩
      · unfold stepS; rw [if_pos rfl]
      · obtain ⟨m1, m2⟩ := nxt { s with sgs := s.sgs ++ [Str.ofString "("] } cs true (by rw [no_leaf (.inl rfl)]; exact hmi.open) (fun _ => by
          rw [stepR_t, if_pos rfl]
          by_cases z : dd + 1 ≤ 5
          · exact ⟨_, if_pos z⟩
          · rw [stepR_t, if_pos rfl, if_neg z] at hs0; exact absurd rfl hs0) (.inl hlt)
        exact ⟨m1, m2, by rw [List.length_append]; exact Nat.add_le_add_right sl 1⟩
    · obtain ⟨n1, n2, n3, n4⟩ := leaf5_no h5
      rcases leaf5_val kn h5 with ⟨n, ev, eo, b1, b2⟩ | ⟨ev, n, hn, ei, hl, eo⟩
      · walk_at "rd"
        rw [if_pos (by rfl)]
        refine ⟨by rw [List.length_map]; omega, fun Hy mu => ⟨{ s with nums := s.nums ++ [n] }, rfl, mu.same gx ha, keepT (.inl rfl) mu hq, by rw [mu.at_, List.map_append]; rfl, mu.old hxb hab.symm, ?_, ?_⟩⟩
        · unfold stepS; rw [if_neg n1, if_neg n2, if_neg (by rw [n3]; exact Bool.false_ne_true), eo]
        · obtain ⟨m1, m2⟩ := nxt { s with nums := s.nums ++ [n] } (cs ++ [1]) false (by rw [leaf5_some h5]; exact hmi.num b1 b2) (fun _ => ⟨dd, by rw [stepR_t, if_neg n1, if_pos (leaf5_some h5)]⟩) (.inl hlt)
          exact ⟨m1, m2, by show s.sgs.length ≤ i + 1; omega⟩
      · walk_at "rd"
        rw [if_neg (by simp)]
        intro p5 H5 hp5 g5 h5'
        have inf : inV (.str t) [.str (Str.ofString "+"), .str (Str.ofString "-"), .str (Str.ofString "*"), .str (Str.ofString ")")] = false := by
          cases hh : inV (.str t) [.str (Str.ofString "+"), .str (Str.ofString "-"), .str (Str.ofString "*"), .str (Str.ofString ")")] with
          | false => rfl
          | true =>
            rcases in_four.mp hh with z | z
            · rw [n3] at z; cases z
            · exact absurd z n2
        refine ⟨_, .inr h5', rfl, ?_⟩
        rw [inf]
        refine iteT ⟨_, g5 _ _ hxa, by omega, _, g5 _ _ hxa, by rw [List.length_map]; omega, fun Hy mu => ⟨{ s with nums := s.nums ++ [(n : Int)] }, rfl, mu.same (gx.trans g5) ha, keepT (.inl rfl) mu (g5 _ _ hq), by rw [mu.at_, List.map_append]; rfl, mu.old (g5 _ _ hxb) hab.symm, ?_, ?_⟩⟩
        · unfold stepS; rw [if_neg n1, if_neg n2, if_neg (by rw [n3]; exact Bool.false_ne_true), eo]
        · obtain ⟨m1, m2⟩ := nxt { s with nums := s.nums ++ [(n : Int)] } (cs ++ [1]) false (by rw [leaf5_some h5]; exact hmi.num (by omega) (by omega)) (fun _ => ⟨dd, by rw [stepR_t, if_neg n1, if_pos (leaf5_some h5)]⟩) (.inl hlt)
          exact ⟨m1, m2, by show s.sgs.length ≤ i + 1; omega⟩
    · have hno := kn.no t (sg_no5 (hop.elim (fun h => .inr (.inr h)) fun h => .inr (.inl h)))
      have n1 : t ≠ Str.ofString "(" := fun z => by subst z; rcases hop with h | h; revert h; decide +kernel; revert h; decide +kernel
      walk_at "rd"
      rw [if_neg (by simp)]
      intro p5 H5 hp5 g5 h5'
      refine ⟨_, .inr h5', rfl, ?_⟩
      rw [in_four.mpr hop]
      refine iteF ?_
      have gx5 := gx.trans g5
      have hq5 := g5 _ _ hq
      have hxa5 := g5 _ _ hxa
      have hxb5 := g5 _ _ hxb
      clear h5' gx hq hxa hxb g5 hp5
      refine ⟨fun σ' H' => ∃ (s' : Sy) (cs' : List Nat), σ' = [some (.ref p), some (.ref d), some (.ref a), some (.ref b), some (.bl s'.big), some (.str t)] ∧ Same H H' ∧ H' q4 = some (.lst ((ts ++ [Str.ofString ")"]).map V.str)) ∧ H' a = some (.lst (s'.nums.map V.int)) ∧ H' b = some (.lst (s'.sgs.map V.str)) ∧ s' = red (decide (t = Str.ofString "*")) s ∧ MI s' cs' false (lvs (ts.take i)) ∧ s'.sgs.length ≤ i ∧
          (s'.sgs.getLast? = none ∨ ∃ g, s'.sgs.getLast? = some g ∧ goesOn (decide (t = Str.ofString "*")) g = false), ?_, ?_⟩
      · refine ⟨fun m' σ' H' => ∃ (s' : Sy) (cs' : List Nat), σ' = [some (.ref p), some (.ref d), some (.ref a), some (.ref b), some (.bl s'.big), some (.str t)] ∧ Same H H' ∧ H' q4 = some (.lst ((ts ++ [Str.ofString ")"]).map V.str)) ∧ H' a = some (.lst (s'.nums.map V.int)) ∧ H' b = some (.lst (s'.sgs.map V.str)) ∧ red (decide (t = Str.ofString "*")) s' = red (decide (t = Str.ofString "*")) s ∧ MI s' cs' false (lvs (ts.take i)) ∧ s'.sgs.length ≤ i ∧ m' = s'.sgs.length,
          ⟨s.sgs.length, s, cs, rfl, gx5, hq5, hxa5, hxb5, rfl, hmi, sl, rfl⟩, ?_⟩
        rintro m' σ' H' ⟨s', cs', rfl, g', hq', ha', hb', er, mi', sl', rfl⟩
        clear gx5 hq5 hxa5 hxb5
        walk_at "rd"
        intro p7 H7 hp7 g7 h7
        have stop : (s'.sgs.getLast? = none ∨ ∃ g, s'.sgs.getLast? = some g ∧ goesOn (decide (t = Str.ofString "*")) g = false) → ∃ s'_1 : Sy, s'.big = s'_1.big ∧ Same H H7 ∧ H7 q4 = some (.lst ((ts ++ [Str.ofString ")"]).map V.str)) ∧ H7 a = some (.lst (s'_1.nums.map V.int)) ∧ H7 b = some (.lst (s'_1.sgs.map V.str)) ∧ s'_1 = red (decide (t = Str.ofString "*")) s ∧ ∃ x, MI s'_1 x false (lvs (ts.take i)) ∧ s'_1.sgs.length ≤ i ∧ (s'_1.sgs.getLast? = none ∨ ∃ g, s'_1.sgs.getLast? = some g ∧ goesOn (decide (t = Str.ofString "*")) g = false) := fun hl =>
          ⟨s', rfl, g'.trans g7, g7 _ _ hq', g7 _ _ ha', g7 _ _ hb', (red_done hl).symm.trans er, cs', mi', sl', hl⟩
        refine ⟨.list (s'.sgs.map PyData.str), .list [], .lst (g7 _ _ hb') (rpl_strs _), .lst h7 .nil, shaped_strs (sg_str mi'.sg), by decide, _, rfl, ?_⟩
        rw [eqv_nil]
        rcases List.eq_nil_or_concat s'.sgs with e0 | ⟨S, g, e0⟩
        · have e1 : s'.sgs.isEmpty = true := by rw [e0]; rfl
          rw [e1]
          exact iteF (stop (.inl (by rw [e0]; rfl)))
        rw [List.concat_eq_append] at e0
        have e1 : s'.sgs.isEmpty = false := by rw [e0]; cases S <;> rfl
        have el : s'.sgs.getLast? = some g := by rw [e0, List.getLast?_concat]
        have hb7 : H7 b = some (.lst (S.map V.str ++ [.str g])) := by rw [g7 _ _ hb', e0, List.map_append]; rfl
        rw [e1]
        refine iteT ⟨_, .inr hb7, _, atI_last _ _, rfl, ?_⟩
        by_cases c1 : g = Str.ofString "("
        · rw [decide_eq_true (by rw [c1])]
          exact iteF (stop (.inr ⟨g, el, by unfold goesOn; rw [decide_eq_true c1]; rfl⟩))
        rw [decide_eq_false (fun z => c1 (by cases z; rfl))]
        refine iteT ?_
        have isg : isOp g = true := (mi'.sg g (by rw [e0]; simp)).resolve_left c1
        have go : goesOn (decide (t = Str.ofString "*")) g = true → ∃ N : St → Hp → Prop, (∀ σ' H', N σ' H' → ∃ m', m' < s'.sgs.length ∧ ∃ s'_1 : Sy, σ' = [some (.ref p), some (.ref d), some (.ref a), some (.ref b), some (.bl s'_1.big), some (.str t)] ∧ Same H H' ∧ H' q4 = some (.lst ((ts ++ [Str.ofString ")"]).map V.str)) ∧ H' a = some (.lst (s'_1.nums.map V.int)) ∧ H' b = some (.lst (s'_1.sgs.map V.str)) ∧ red (decide (t = Str.ofString "*")) s'_1 = red (decide (t = Str.ofString "*")) s ∧ ∃ x, MI s'_1 x false (lvs (ts.take i)) ∧ s'_1.sgs.length ≤ i ∧ m' = s'_1.sgs.length) ∧
            spReckon [.ref a, .ref b] H7 (fun x H1 => ∃ c, x = .bl c ∧ if c = true then N [some (.ref p), some (.ref d), some (.ref a), some (.ref b), some (.bl true), some (.str t)] H1 else N [some (.ref p), some (.ref d), some (.ref a), some (.ref b), some (.bl s'.big), some (.str t)] H1) E0 := by
          intro hgo
          obtain ⟨N, x, y, en⟩ := mi'.two e0 isg
          obtain ⟨cs2, mi2⟩ := mi'.reck en e0 isg
          have er2 := (red_more en e0 hgo).symm.trans er
          have ek := reck_is en e0
          have ln : s'.sgs.length = S.length + 1 := by rw [e0, List.length_append]; rfl
          have nN : N.length ≤ 1000 := by
            have h1 := mi'.bs.len
            have h2 := mi'.sm
            rw [en] at h1
            simp only [List.length_append] at h1
            omega
          refine ⟨fun σ2 H2 => σ2 = [some (.ref p), some (.ref d), some (.ref a), some (.ref b), some (.bl (K05.reck s').big), some (.str t)] ∧ Same H H2 ∧ H2 q4 = some (.lst ((ts ++ [Str.ofString ")"]).map V.str)) ∧ H2 a = some (.lst ((K05.reck s').nums.map V.int)) ∧ H2 b = some (.lst ((K05.reck s').sgs.map V.str)), ?_, ?_⟩
          · rintro σ2 H2 ⟨rfl, f1, f2, f3, f4⟩
            have l2 : (K05.reck s').sgs.length = S.length := by rw [ek]
            exact ⟨(K05.reck s').sgs.length, by omega, K05.reck s', rfl, f1, f2, f3, f4, er2, cs2, mi2, by omega, rfl⟩
          · refine ⟨a, b, N, x, y, S, opOf g, cs', rfl, hab, by rw [g7 _ _ ha', en]; simp only [List.map_append]; rfl, by rw [← op_sg isg]; exact hb7, by rw [← en]; exact mi'.bs, Nat.le_trans mi'.sm hlv, nN, fun H8 bt h8a h8b => ⟨_, rfl, ?_⟩⟩
            have gg : Same H H8 := fun c u hc => bt c u (fun z => by rw [z, ha] at hc; cases hc) (fun z => by rw [z, hbH] at hc; cases hc) ((g'.trans g7) _ _ hc)
            have rest : Same H H8 ∧ H8 q4 = some (.lst ((ts ++ [Str.ofString ")"]).map V.str)) ∧ H8 a = some (.lst ((K05.reck s').nums.map V.int)) ∧ H8 b = some (.lst ((K05.reck s').sgs.map V.str)) := by
              refine ⟨gg, bt _ _ haq hbq (g7 _ _ hq'), ?_, ?_⟩
              · rw [h8a, ek, List.map_append]; rfl
              · rw [h8b, ek]
            cases hbg : bigN ((opOf g).ap x y) with
            | true => exact iteT ⟨by rw [ek, hbg]; rfl, rest⟩
            | false => exact iteF ⟨by rw [ek, hbg]; rfl, rest⟩
        by_cases c2 : t = Str.ofString "*"
        · rw [decide_eq_true c2] at go stop ⊢
          refine iteF ⟨_, .inr hb7, _, atI_last _ _, rfl, ?_⟩
          by_cases c3 : g = Str.ofString "*"
          · rw [if_pos (by rw [c3])]
            exact go (by unfold goesOn; rw [decide_eq_false c1, decide_eq_true c3]; rfl)
          · rw [if_neg (fun z => c3 (by cases z; rfl))]
            exact stop (.inr ⟨g, el, by unfold goesOn; rw [decide_eq_false c1, decide_eq_false c3]; rfl⟩)
        · rw [decide_eq_false c2] at go stop ⊢
          exact iteT (go (by unfold goesOn; rw [decide_eq_false c1]; rfl))
      · rintro σ' H6 ⟨s6, cs6, rfl, g6, hq6, ha6, hb6, es6, mi6, sl6, last6⟩
        clear gx5 hq5 hxa5 hxb5
        have noleaf : (if (leafOf t).isSome = true then 1 else 0) = 0 := by rw [no_leaf (hop.elim (fun h => .inr (.inr h)) fun h => .inr (.inl h))]; rfl
        have ne6 : s6.nums ≠ [] := fun z => by
          have := mi6.ct
          rw [z] at this
          simp at this
        have eS6 : t ≠ Str.ofString ")" → stepS (valOf kvs) s t = { s6 with sgs := s6.sgs ++ [t] } := fun z => by
          unfold stepS
          rw [if_neg n1, if_neg z, if_pos (hop.resolve_right z), es6]
        have eS7 : t = Str.ofString ")" → stepS (valOf kvs) s t = { s6 with sgs := s6.sgs.dropLast } := fun z => by
          unfold stepS
          rw [if_neg n1, if_pos z, es6, z]
          rfl
        have lo7 : t = Str.ofString ")" → s6.sgs.getLast? = none ∨ s6.sgs.getLast? = some (Str.ofString "(") := fun z => by
          rcases last6 with l | ⟨g, l, hg⟩
          · exact .inl l
          · rw [z] at hg
            refine .inr (l.trans (congrArg some ?_))
            by_cases c : g = Str.ofString "("
            · exact c
            · unfold goesOn at hg
              rw [decide_eq_false c] at hg
              revert hg
              have : decide (Str.ofString ")" = Str.ofString "*") = false := by decide +kernel
              rw [this]
              exact fun z => by cases z
        clear es6
        walk_at "rd"
        by_cases c2 : t = Str.ofString ")"
        · rw [decide_eq_true c2]
          refine iteF fun p7 H7 hp7 g7 h7 => ?_
          refine ⟨.list (s6.sgs.map PyData.str), .list [], .lst (g7 _ _ hb6) (rpl_strs _), .lst h7 .nil, shaped_strs (sg_str mi6.sg), by decide, _, rfl, ?_⟩
          rw [eqv_nil, eS7 c2]
          obtain ⟨m1, m2⟩ := nxt { s6 with sgs := s6.sgs.dropLast } cs6 false (by rw [noleaf]; exact mi6.shut (lo7 c2)) (fun hlt => by
            have := hs0 hlt
            rw [stepR_f, if_pos c2] at this ⊢
            by_cases z : 1 ≤ dd
            · exact ⟨_, if_pos z⟩
            · rw [if_neg z] at this; exact absurd rfl this) (.inr ne6)
          have fin : ∀ H8, Same H H8 → H8 q4 = some (.lst ((ts ++ [Str.ofString ")"]).map V.str)) → H8 a = some (.lst (s6.nums.map V.int)) → H8 b = some (.lst (s6.sgs.dropLast.map V.str)) → ∃ s_1 : Sy, s6.big = s_1.big ∧ Same H H8 ∧ H8 q4 = some (.lst ((ts ++ [Str.ofString ")"]).map V.str)) ∧ H8 a = some (.lst (s_1.nums.map V.int)) ∧ H8 b = some (.lst (s_1.sgs.map V.str)) ∧ s_1 = { s6 with sgs := s6.sgs.dropLast } ∧ (i + 1 ≤ ts.length → ∃ cs bb dd, (ts.take (i + 1)).foldl stepR (some (true, 0)) = some (bb, dd) ∧ MI s_1 cs bb (lvs (ts.take (i + 1)))) ∧ (i = ts.length → s_1.nums ≠ []) ∧ s_1.sgs.length ≤ i + 1 :=
            fun H8 f1 f2 f3 f4 => ⟨{ s6 with sgs := s6.sgs.dropLast }, rfl, f1, f2, f3, f4, rfl, m1, m2, by show s6.sgs.dropLast.length ≤ i + 1; rw [List.length_dropLast]; omega⟩
          rcases List.eq_nil_or_concat s6.sgs with e0 | ⟨S, g, e0⟩
          · have e1 : s6.sgs.isEmpty = true := by rw [e0]; rfl
            rw [e1]
            exact iteF (fin H7 (g6.trans g7) (g7 _ _ hq6) (g7 _ _ ha6) (by rw [g7 _ _ hb6, e0]; rfl))
          · rw [List.concat_eq_append] at e0
            have e1 : s6.sgs.isEmpty = false := by rw [e0]; cases S <;> rfl
            have hb7 : H7 b = some (.lst (S.map V.str ++ [.str g])) := by rw [g7 _ _ hb6, e0, List.map_append]; rfl
            rw [e1]
            refine iteT ⟨⟨_, SqL.of hb7⟩, _, _, hb7, fun H8 mu => ?_⟩
            exact fin H8 (mu.same (g6.trans g7) hbH) (keepT (.inr rfl) mu (g7 _ _ hq6)) (mu.old (g7 _ _ ha6) hab) (by rw [mu.at_, e0, List.dropLast_concat])
        · rw [decide_eq_false c2, eS6 c2]
          have ht' := hop.resolve_right c2
          obtain ⟨m1, m2⟩ := nxt { s6 with sgs := s6.sgs ++ [t] } cs6 true (by rw [noleaf]; exact mi6.push ht') (fun hlt => by
            exact ⟨dd, by rw [stepR_f, if_neg c2, if_pos ht']⟩) (.inr ne6)
          refine iteT ⟨by rw [List.length_map]; omega, fun H8 mu => ⟨{ s6 with sgs := s6.sgs ++ [t] }, rfl, mu.same g6 hbH, keepT (.inr rfl) mu hq6, mu.old ha6 hab, by rw [mu.at_, List.map_append]; rfl, rfl, m1, m2, ?_⟩⟩
          show (s6.sgs ++ [t]).length ≤ i + 1
          rw [List.length_append]
          exact Nat.add_le_add_right sl6 1
  · rintro σ Hx ⟨s, v5, rfl, gx, hq, hxa, hxb, es, _, ne, _⟩
    have el : ((ts ++ [Str.ofString ")"]).map V.str).length = ts.length + 1 := by rw [List.length_map, List.length_append]; rfl
    rw [el] at es ne
    obtain ⟨n, ns, en⟩ := List.exists_cons_of_ne_nil (ne rfl)
    have et : (ts ++ [Str.ofString ")"]).take (ts.length + 1) = ts ++ [Str.ofString ")"] := List.take_of_length_le (by rw [List.length_append]; exact Nat.le_refl _)
    rw [et] at es
    have qf : ∀ r H', Same H H' → H' r = some (.lst [.int n, .bl s.big]) → Q (.ref r) H' := fun r H' g h => q r H' n ns s.sgs s.big g (by rw [← es, ← en]) h
    clear es ne
    rw [en] at hxa
    walk_at "rd"
    exact fun p' H' _ g h => qf p' H' (gx.trans g) h
end
end K05

set_option Elab.async false
set_option linter.all false
set_option maxRecDepth 100000
set_option maxHeartbeats 4000000
namespace K05
open PySem L2
/-! the law's heart -/
def vOf (val : Str → Int) : Tr → Int
  | .name x => val x
  | .num n => n
  | .now => val (Str.ofString "now")
  | .own => val (Str.ofString "own")
  | .bin _ _ _ => 0
theorem mem5 {x : Str} : x ∈ names5 ↔ x = Str.ofString "now" ∨ x = Str.ofString "own" ∨ x = Str.ofString "a" ∨ x = Str.ofString "bb" ∨ x = Str.ofString "c" := by
  unfold names5
  simp only [List.mem_cons, List.not_mem_nil, or_false]
theorem leaf_cases {x : Str} {t : Tr} (h : leafOf x = some t) : (x = Str.ofString "now" ∧ t = .now) ∨ (x = Str.ofString "own" ∧ t = .own) ∨ t = .name x ∨ ∃ n, t = .num n ∧ PySem.intText? x = some n ∧ x ∉ names5 := by
  unfold leafOf at h
  by_cases h1 : x = Str.ofString "now"
  · rw [if_pos h1] at h; cases h; exact .inl ⟨h1, rfl⟩
  rw [if_neg h1] at h
  by_cases h2 : x = Str.ofString "own"
  · rw [if_pos h2] at h; cases h; exact .inr (.inl ⟨h2, rfl⟩)
  rw [if_neg h2] at h
  by_cases h3 : nameOk x = true
  · rw [if_pos h3] at h; cases h; exact .inr (.inr (.inl rfl))
  rw [if_neg h3] at h
  by_cases h4 : numOk x = true
  · rw [if_pos h4] at h
    cases e : PySem.intText? x with
    | none => rw [e] at h; cases h
    | some n =>
      rw [e] at h
      cases h
      refine .inr (.inr (.inr ⟨n, rfl, rfl, fun z => ?_⟩))
      rcases mem5.mp z with z | z | z | z | z
      · exact h1 z
      · exact h2 z
      · exact h3 (by rw [z]; decide +kernel)
      · exact h3 (by rw [z]; decide +kernel)
      · exact h3 (by rw [z]; decide +kernel)
  · rw [if_neg h4] at h; cases h
theorem leaf_v {kvs : List (Key × V)} {kv : Str → Int} (k : Kn kvs kv) : ∀ x t, leafOf x = some t → x ≠ Str.ofString ")" ∧ isOp x = false ∧ exact (vOf (valOf kvs)) t = valOf kvs x ∧ anyBig (vOf (valOf kvs)) t = false := by
  intro x t h
  have nl : (leafOf x).isSome = true := by rw [h]; rfl
  refine ⟨fun z => (by rw [no_leaf (.inr (.inl z))] at nl; cases nl), ?_, ?_⟩
  · cases z : isOp x with
    | false => rfl
    | true => rw [no_leaf (.inr (.inr z))] at nl; cases nl
  · rcases leaf_cases h with ⟨rfl, rfl⟩ | ⟨rfl, rfl⟩ | rfl | ⟨n, rfl, e, hn⟩
    · exact ⟨rfl, rfl⟩
    · exact ⟨rfl, rfl⟩
    · exact ⟨rfl, rfl⟩
    · refine ⟨?_, rfl⟩
      show n = valOf kvs x
      unfold valOf
      rw [k.no x hn, e]
      rfl
def q5 (kvs : List (Key × V)) (val : Str → Int) (u : Tr) : Prop := u.good ∧ ∀ x, u = .name x → valV kvs (.inr x) = some (.int (val x))
theorem all_good {kvs : List (Key × V)} {val : Str → Int} : ∀ {t : Tr}, t.All (q5 kvs val) → t.good
  | .name _, h => h.1
  | .num _, h => h.1
  | .now, h => h.1
  | .own, h => h.1
  | .bin _ _ _, h => ⟨all_good h.1, all_good h.2⟩
theorem ev_is {kvs : List (Key × V)} {val : Str → Int} {now own : Int} (hn : val (Str.ofString "now") = now) (ho : val (Str.ofString "own") = own) : ∀ {t : Tr}, t.All (q5 kvs val) → ev kvs now own t = if anyBig (vOf val) t = true then .big else .val (exact (vOf val) t)
  | .name x, h => by
    have e := h.2 x rfl
    show look kvs x = Res.val (val x)
    unfold look
    rw [e]
  | .num _, h => rfl
  | .now, h => by show Res.val now = Res.val (val _); rw [hn]
  | .own, h => by show Res.val own = Res.val (val _); rw [ho]
  | .bin o l r, h => by
    have h1 := ev_is hn ho h.1
    have h2 := ev_is hn ho h.2
    show (match ev kvs now own l with | .val a => _ | .unk y => _ | .big => _) = if (bigN (o.ap (exact (vOf val) l) (exact (vOf val) r)) || (anyBig (vOf val) l || anyBig (vOf val) r)) = true then _ else Res.val (o.ap (exact (vOf val) l) (exact (vOf val) r))
    rw [h1]
    cases hl : anyBig (vOf val) l with
    | true => simp
    | false =>
      show (match ev kvs now own r with | .val a => _ | .unk y => _ | .big => _) = _
      rw [h2]
      cases hr : anyBig (vOf val) r with
      | true => simp
      | false =>
        show bnd (o.ap (exact (vOf val) l) (exact (vOf val) r)) = _
        unfold bnd bigN
        simp
theorem dep_eq : ∀ t : Tr, t.depth = t.dep
  | .name _ => rfl
  | .num _ => rfl
  | .now => rfl
  | .own => rfl
  | .bin _ l r => by show max l.depth r.depth + 1 = max l.dep r.dep + 1; rw [dep_eq l, dep_eq r]
theorem dep_leaf (x : Str) (t : Tr) (h : leafOf x = some t) : t.dep = 0 := by
  rcases leaf_cases h with ⟨_, rfl⟩ | ⟨_, rfl⟩ | rfl | ⟨n, rfl, _⟩ <;> rfl
theorem tok_len {x : Str} (h : tok5 x) : x.length ≤ 6 := by
  rcases h with (⟨n, hn, rfl⟩ | h) | rfl | rfl | h
  · exact (num_len (by omega)).2
  · rcases mem5.mp h with rfl | rfl | rfl | rfl | rfl <;> decide +kernel
  · decide +kernel
  · decide +kernel
  · rw [op_sg h]; cases opOf x <;> decide +kernel
theorem tok_ne {x : Str} (h : tok5 x) : x ≠ Str.ofString "" := by
  rcases h with h | rfl | rfl | h
  · exact (leaf5_no h).2.2.2
  · decide +kernel
  · decide +kernel
  · rw [op_sg h]; cases opOf x <;> decide +kernel
theorem leaf_name {x : Str} (h1 : x ≠ Str.ofString "now") (h2 : x ≠ Str.ofString "own") (h3 : nameOk x = true) : leafOf x = some (.name x) := by
  unfold leafOf
  rw [if_neg h1, if_neg h2, if_pos h3]
theorem tok_q {kvs : List (Key × V)} {val : Str → Int} (hv : ∀ x, x = Str.ofString "a" ∨ x = Str.ofString "bb" ∨ x = Str.ofString "c" → valV kvs (.inr x) = some (.int (val x))) {x : Str} (h : tok5 x) (u : Tr) (hu : leafOf x = some u) : u.All (q5 kvs val) := by
  have nl : (leafOf x).isSome = true := by rw [hu]; rfl
  rcases h with (⟨n, hn, rfl⟩ | h) | h
  · rw [leaf_num (by omega)] at hu
    cases hu
    exact ⟨⟨by omega, by omega⟩, fun y hy => by cases hy⟩
  · have nm : x = Str.ofString "a" ∨ x = Str.ofString "bb" ∨ x = Str.ofString "c" → u.All (q5 kvs val) := fun hx => by
      rw [leaf_name (by rcases hx with rfl | rfl | rfl <;> decide +kernel) (by rcases hx with rfl | rfl | rfl <;> decide +kernel) (by rcases hx with rfl | rfl | rfl <;> decide +kernel)] at hu
      cases hu
      refine ⟨?_, fun y hy => by cases hy; exact hv _ hx⟩
      show (PyData.str x).canLay0 = true
      rcases hx with rfl | rfl | rfl <;> decide +kernel
    rcases mem5.mp h with rfl | rfl | h
    · have e : leafOf (Str.ofString "now") = some .now := by unfold leafOf; rw [if_pos rfl]
      rw [e] at hu; cases hu
      exact ⟨trivial, fun y hy => by cases hy⟩
    · have e : leafOf (Str.ofString "own") = some .own := by unfold leafOf; rw [if_neg (by decide +kernel), if_pos rfl]
      rw [e] at hu; cases hu
      exact ⟨trivial, fun y hy => by cases hy⟩
    · exact nm h
  · rw [no_leaf h] at nl; cases nl
theorem join_flat : ∀ ts : List Str, Str.join Str.empty ts = ⟨(flat ts).toArray⟩
  | [] => rfl
  | [x] => by
    show x = _
    cases x with | mk a => simp [flat]
  | x :: y :: ts => by
    show x ++ Str.empty ++ Str.join Str.empty (y :: ts) = _
    rw [join_flat (y :: ts), flat_cons x]
    cases x with | mk a =>
    show (⟨(a ++ #[]) ++ (flat (y :: ts)).toArray⟩ : Str) = _
    simp
theorem word_tokens {ts : List Str} {n m : Nat} (h : W5 ts false 0 n m) : tokensOf (Txt.join (Str.ofString "") ts) = ts ++ [Str.ofString ""] := by
  have e0 : Str.ofString "" = Str.empty := by decide +kernel
  have ej : Txt.join (Str.ofString "") ts = Str.join Str.empty ts := by rw [e0]; exact StrLaws.glued_eq_join _ _
  rw [ej, join_flat]
  exact tokens_flat (fold_apart leaf_lf ts true 0 (by rw [h.st]; rfl))
theorem join_ok5 {ts : List Str} {n : Nat} (h : W5 ts false 0 n 200) : JoinOk (Str.ofString "") ts = true := by
  refine PyProof.Rows.joinOk_of_weight ?_ (by decide +kernel)
  have key : ∀ us : List Str, (∀ x ∈ us, tok5 x) → (us.map (·.length)).sum ≤ 6 * us.length := by
    intro us
    induction us with
    | nil => intro _; exact Nat.le_refl _
    | cons u us ih =>
      intro hu
      have h1 := tok_len (hu u List.mem_cons_self)
      have h2 := ih fun x hx => hu x (List.mem_cons_of_mem _ hx)
      simp only [List.map_cons, List.sum_cons, List.length_cons]
      omega
  have h1 := key ts h.tk
  have h2 := h.ln
  omega
/-- what the law asks, at one script cell -/
theorem heart {ts : List Str} (h : W5 ts false 0 10 200) {kvs vs : List (Key × V)} {kv : Str → Int} (kn : Kn kvs kv) (hv : ∀ x, x = Str.ofString "a" ∨ x = Str.ofString "bb" ∨ x = Str.ofString "c" → valV vs (.inr x) = some (.int (kv x))) (hl : (Txt.join (Str.ofString "") ts).length ≤ 60) {n : Int} {ns : List Int} {S : List Str} {b : Bool}
    (hs : syRun (valOf kvs) (ts ++ [Str.ofString ")"]) ⟨[], [], false⟩ = ⟨n :: ns, S, b⟩) : ∃ t, exprOf (Txt.join (Str.ofString "") ts) = some t ∧ t.depth < 200 ∧ t.good ∧ ev vs (kv (Str.ofString "now")) (kv (Str.ofString "own")) t = if b = true then .big else .val n := by
  have hw := word_tokens h
  have hne : ∀ x ∈ ts, x ≠ Str.ofString "" := fun x hx => tok_ne (h.tk x hx)
  have hx : (exprOf (Txt.join (Str.ofString "") ts)).isSome = true := by
    have hem : leafOf (Str.ofString "") = none := by
      cases e : leafOf (Str.ofString "") with
      | none => rfl
      | some t => exact absurd rfl (leaf_lf _ _ e).1
    rw [expr_walk, decide_eq_true hl, hw, run_fold hem ts true 0 h.st]
    rfl
  obtain ⟨t, ht⟩ := Option.isSome_iff_exists.mp hx
  have e := expr_sy (leaf_v kn) hne hw ht
  rw [hs] at e
  obtain ⟨d, p⟩ := expr_pr hne hw ht
  have vo : ∀ x ∈ names5, valOf kvs x = kv x := fun x hx => by
    unfold valOf
    rw [(kn.yes x hx).1]
  have al : t.All (q5 vs (valOf kvs)) := p.all fun x hx u hu => tok_q (fun y hy => by rw [hv y hy, vo y (mem5.mpr (.inr (.inr hy)))]) (h.tk x hx) u hu
  have en : n = exact (vOf (valOf kvs)) t := by cases e; rfl
  have eb : b = anyBig (vOf (valOf kvs)) t := by cases e; rfl
  refine ⟨t, ht, ?_, all_good al, ?_⟩
  · have := p.dep dep_leaf
    have := h.ln
    rw [dep_eq]
    omega
  · rw [ev_is (vo _ (mem5.mpr (.inl rfl))) (vo _ (mem5.mpr (.inr (.inl rfl)))) al, en, eb]
end K05

set_option Elab.async false
set_option linter.all false
set_option maxRecDepth 100000
set_option maxHeartbeats 4000000
namespace K05
open PySem L2
theorem res_shaped {r : Res} (h : ∀ x, r = .unk x → (PyData.str x).canLay0 = true) : SeqAt.shaped r.toD = true := by
  cases r with
  | val n => rfl
  | big => decide +kernel
  | unk x =>
    have := h x rfl
    unfold SeqAt.shaped Res.toD
    simp only [PyData.canLay0, PyData.canLayAll0, PyData.depth, PyData.depthAll] at this ⊢
    rw [this]
    have : PyData.strOk (Str.ofString "unknown") = true := by decide +kernel
    rw [this]
    rfl
theorem eqv_self {r : Res} : PyData.eqv r.toD r.toD = true := by
  cases r <;> simp [Res.toD, PyData.eqv, PyData.eqvAll]
def vs5 (a b c : Int) : List (Key × V) := [(.inr (Str.ofString "a"), .int a), (.inr (Str.ofString "bb"), .int b), (.inr (Str.ofString "c"), .int c)]
def kn5 (n o a b c : Int) : List (Key × V) := [(.inr (Str.ofString "now"), .int n), (.inr (Str.ofString "own"), .int o), (.inr (Str.ofString "a"), .int a), (.inr (Str.ofString "bb"), .int b), (.inr (Str.ofString "c"), .int c)]
theorem kn5_ok {n o a b c : Int} (h1 : -3000 ≤ n ∧ n ≤ 3000) (h2 : -3000 ≤ o ∧ o ≤ 3000) (h3 : -3000 ≤ a ∧ a ≤ 3000) (h4 : -3000 ≤ b ∧ b ≤ 3000) (h5 : -3000 ≤ c ∧ c ≤ 3000) : Kn (kn5 n o a b c) (valOf (kn5 n o a b c)) := by
  refine ⟨fun x hx => ?_, fun x hx => ?_⟩
  · rcases mem5.mp hx with rfl | rfl | rfl | rfl | rfl
    · exact ⟨rfl, h1⟩
    · exact ⟨rfl, h2⟩
    · exact ⟨rfl, h3⟩
    · exact ⟨rfl, h4⟩
    · exact ⟨rfl, h5⟩
  · rw [mem5] at hx
    simp only [not_or] at hx
    obtain ⟨n1, n2, n3, n4, n5⟩ := hx
    unfold valV kn5
    simp [Sum.inr.injEq, Ne.symm n1, Ne.symm n2, Ne.symm n3, Ne.symm n4, Ne.symm n5]
theorem word_len {ts : List Str} {n : Nat} (h : W5 ts false 0 n 200) : (Txt.join (Str.ofString "") ts).length ≤ 1200 := by
  have e0 : Str.ofString "" = Str.empty := by decide +kernel
  have ej : Txt.join (Str.ofString "") ts = Str.join Str.empty ts := by rw [e0]; exact StrLaws.glued_eq_join _ _
  have key : ∀ us : List Str, (∀ x ∈ us, tok5 x) → (flat us).length ≤ 6 * us.length := by
    intro us
    induction us with
    | nil => intro _; exact Nat.le_refl _
    | cons u us ih =>
      intro hu
      have h1 := tok_len (hu u List.mem_cons_self)
      have h2 := ih fun x hx => hu x (List.mem_cons_of_mem _ hx)
      have e : u.cps.toList.length = u.length := Array.length_toList
      rw [flat_cons, List.length_append, List.length_cons, e]
      omega
  have h1 := key ts h.tk
  have h2 := h.ln
  rw [ej, join_flat]
  show (flat ts).toArray.size ≤ 1200
  rw [List.size_toArray]
  omega
section
variable {P : Program} {w : World} {K : PySem.W.Frag} {mg : Str → Option Value} {base : Heap}
theorem ok_law {fa : Addr} {fd : FuncData} {C : Addr} (F : Fun K "law" "law" s_law fa fd) (G__law_stir : OkD P w K mg base 1 "_law_stir" ["cell", "k"] spStir) (G__law_parts : OkD P w K mg base 2 "_law_parts" ["cell"] spParts) (G__law_due : OkD P w K mg base 10 "_law_due" ["parts", "values"] spDue)
    (G_worth : OkD P w K mg base 201 "worth" ["e", "values", "now", "own"] (spW K 200)) (G_expression : OkR P w K mg base 22 "expression" ["word"] (spExpr K C)) (hlen : mg "len" = none) : FnOk P w K mg base CX0 204 fa fd ["script"] (spLaw K) := by
  refine F.ok sc_law (fun vs H Q E h => ?_) (fun cdv A outer s H vs Q E hr h => ?_)
  · obtain ⟨a, ns, rfl, _⟩ := h; rfl
  obtain ⟨a, ns, rfl, hS, h63, q⟩ := h
  have hu := hu_of hr
  have hu64 := hr.units
  refine ⟨_, (pss_cons (ps_for PassesOwn.never rfl (pi_list (pe_slice sl_k (pv 0) po_none (po_some pe_int))) (pg_name (i := 1) sc_law.nd rfl (Or.inl rfl))
  (pss_cons (ps_set (i := 2) sc_law.nd rfl (Or.inl rfl) (pe_def G__law_parts hr rfl (pa_c (pv 1) pa_nil)))
  (pss_cons (ps_set (i := 3) sc_law.nd rfl (Or.inl rfl) (pe_join pe_str (pv 2)))
  (pss_cons (ps_set (i := 4) sc_law.nd rfl (Or.inl rfl) (pe_def G__law_stir hr rfl (pa_c (pv 1) (pa_c pe_int pa_nil))))
  (pss_cons (ps_set (i := 5) sc_law.nd rfl (Or.inl rfl) (pe_dispG (pps_cons pe_str (pe_op op_sub (pe_op op_mod (pv 4) pe_int) pe_int) (pps_cons pe_str (pe_op op_sub (pe_op op_mod (pe_op op_fdiv (pv 4) pe_int) pe_int) pe_int) (pps_cons pe_str (pe_op op_mod (pe_op op_fdiv (pv 4) pe_int) pe_int) pps_nil))) rfl rfl (by simp) (by decide)))
  (pss_cons (ps_set (i := 6) sc_law.nd rfl (Or.inl rfl) (pe_op op_mod (pe_def G__law_stir hr rfl (pa_c (pv 1) (pa_c pe_int pa_nil))) pe_int))
  (pss_cons (ps_set (i := 7) sc_law.nd rfl (Or.inl rfl) (pe_op op_add pe_int (pe_op op_mod (pe_def G__law_stir hr rfl (pa_c (pv 1) (pa_c pe_int pa_nil))) pe_int)))
  (pss_one (ps_if (pt_cmpR op_le (pe_cB call_len_str rfl hlen PySem.boot_len (pa_c (pv 3) pa_nil)) pe_int (nomark _))
  (pss_cons (ps_set (i := 8) sc_law.nd rfl (Or.inl rfl) (pe_dispG (pps_cons pe_str (pv 6) (pps_cons pe_str (pv 7) pps_nil)) rfl rfl (by simp) (by decide)))
  (pss_cons (ps_forK PassesOwn.never rfl (pv 5) (pg_name (i := 9) sc_law.nd rfl (Or.inl rfl))
  (pss_one (ps_dputG2 hu (pv 8) (pv 9) (pe_dgetR hu (pv 5) (pv 9) (fun _ _ => rfl)))))
  (pss_cons (ps_asg (pe_def G__law_due hr rfl (pa_c (pv 2) (pa_c (pv 8) pa_nil))) (pg_lstG 2 rfl (pgs_cons (pg_name (i := 10) sc_law.nd rfl (Or.inl rfl)) (pgs_cons (pg_name (i := 11) sc_law.nd rfl (Or.inl rfl)) pgs_nil))))
  (pss_cons (ps_set (i := 12) sc_law.nd rfl (Or.inl rfl) (pe_tupG (pa_c (pv 10) (pa_c pe_non pa_nil))))
  (pss_cons (ps_up (ps_if (pt_val (pv 11))
  (pss_one (ps_set (i := 12) sc_law.nd rfl (Or.inl rfl) (pe_tupG (pa_c pe_non (pa_c (pe_tupG (pa_c pe_str pa_nil)) pa_nil)))))
  pss_nil))
  (pss_one (ps_if (pt_cmpR (op_neD hu64) (pe_def G_worth hr rfl (pa_c (pe_defR G_expression passX0 hr rfl (pa_c (pv 3) pa_nil)) (pa_c (pv 5) (pa_c (pv 6) (pa_c (pv 7) pa_nil))))) (pv 12) (nomark _))
  (pss_one (ps_ret pe_bl))
  pss_nil)))))))
  pss_nil)))))))))
  (pss_one (ps_ret pe_bl))), ?_⟩
  walk_at "rd"
  refine ⟨_, rfl, _, rfl, a, _, rfl, hS, fun p H1 hp g1 h1 => ?_⟩
  have h1 : H1 p = some (.lst (ns.map V.int)) := h1.trans (by rw [show cutV (ns.map V.int) none (some 63) = ns.map V.int from cut_upto (n := 63) (by rw [List.length_map]; exact h63)])
  refine ⟨p, rfl, ⟨_, SqL.of h1⟩, for_list (xs := ns.map V.int) (fun i σ H' => ∃ x1 x2 x3 x4 x5 x6 x7 x8 x9 x10 x11 x12, σ = [some (.ref a), x1, x2, x3, x4, x5, x6, x7, x8, x9, x10, x11, x12] ∧ Same H1 H') ?_ ?_ ?_ ?_⟩
  · exact ⟨_, _, _, _, _, _, _, _, _, _, _, _, rfl, Same.refl _⟩
  · rintro i σ H2 hi ⟨x1, x2, x3, x4, x5, x6, x7, x8, x9, x10, x11, x12, rfl, g2⟩
    exact SqL.of (g2 _ _ h1)
  · rintro i x σ H2 hx ⟨x1, x2, x3, x4, x5, x6, x7, x8, x9, x10, x11, x12, rfl, g2⟩
    obtain ⟨c, rfl⟩ : ∃ c : Int, x = V.int c := by
      rw [List.getElem?_map] at hx
      cases e : ns[i]? with
      | none => rw [e] at hx; cases hx
      | some c => rw [e] at hx; cases hx; exact ⟨c, rfl⟩
    walk_at "rd"
    refine ⟨c, rfl, fun pt H3 ts g3 h3 w3 => ?_⟩
    walk_at "rd"
    refine ⟨ts, rfl, join_ok5 w3, c, 40, rfl, by decide, by decide, fun m m0 m1 d4 H4 hd4 g4 h4 => ⟨m, rfl, m, rfl, m, rfl, h4, fun H5 mu5 => ?_⟩⟩
    refine ⟨c, 41, rfl, by decide, by decide, fun m2 m20 m21 => ⟨m2, rfl, c, 42, rfl, by decide, by decide, fun m3 m30 m31 => ⟨m3, rfl, ?_⟩⟩⟩
    have h5 := mu5.at_
    have g5 : Same H2 H5 := mu5.same (g3.trans g4) (none_of_same g3 hd4)
    have h35 : H5 pt = some (.lst (ts.map V.str)) := mu5.old (g4 _ _ h3) (ne_of_none h3 hd4)
    clear h3 h4 mu5 g4
    have big : 100000 ≤ sizeLine := by unfold sizeLine; decide
    have wl := word_len w3
    have e5 : mergeK [] [(Sum.inr (Str.ofString "a"), V.int (m % 41 - 20)), (Sum.inr (Str.ofString "bb"), V.int (m / 41 % 2001 - 1000)), (Sum.inr (Str.ofString "c"), V.int (m / 100000 % 200))] = vs5 (m % 41 - 20) (m / 41 % 2001 - 1000) (m / 100000 % 200) := rfl
    rw [e5] at h5
    have n2 : H2 d4 = none := none_of_same g3 hd4
    have b1 : -3000 ≤ m2 % 1000 ∧ m2 % 1000 ≤ 3000 := by omega
    have b2 : -3000 ≤ 1 + m3 % 60 ∧ 1 + m3 % 60 ≤ 3000 := by omega
    have b3 : -3000 ≤ m % 41 - 20 ∧ m % 41 - 20 ≤ 3000 := by omega
    have b4 : -3000 ≤ m / 41 % 2001 - 1000 ∧ m / 41 % 2001 - 1000 ≤ 3000 := by omega
    have b5 : -3000 ≤ m / 100000 % 200 ∧ m / 100000 % 200 ≤ 3000 := by omega
    generalize eA : m % 41 - 20 = vA at *
    generalize eB : m / 41 % 2001 - 1000 = vB at *
    generalize eC : m / 100000 % 200 = vC at *
    generalize eN : m2 % 1000 = vN at *
    generalize eO : 1 + m3 % 60 = vO at *
    clear eA eB eC eN eO e5
    refine ⟨by omega, ite2 (fun c1 => ?_) (fun _ => g2.trans g5)⟩
    intro d6 H6 hd6 g6 h6
    refine ⟨h6, fun H7 mu7 => ?_⟩
    have h7 : H7 d6 = some (.dK [(.inr (Str.ofString "now"), .int vN), (.inr (Str.ofString "own"), .int vO)]) := mu7.at_
    have n46 : d4 ≠ d6 := ne_of_none h5 hd6
    have n6 : H2 d6 = none := none_of_same g5 hd6
    have h57 : H7 d4 = some (.dK (vs5 vA vB vC)) := mu7.old (g6 _ _ h5) n46
    have npt6 : pt ≠ d6 := ne_of_none h35 hd6
    have npt4 : pt ≠ d4 := fun z => by rw [z] at h35; rw [h5] at h35; cases h35
    have h37 : H7 pt = some (.lst (ts.map V.str)) := mu7.old (g6 _ _ h35) npt6
    have g7 : Same H2 H7 := mu7.same (g5.trans g6) n6
    clear h6 mu7 g6 hd6 h5 h35 g5 hd4
    simp only [tForK]
    refine tfor_in ?_
    simp only [iKeys]
    walk_at "rd"
    intro o nf
    refine for_keys (fun i σ H' => ∃ x9, σ = [some (.ref a), some (.int c), some (.ref pt), some (.str (Txt.join (Str.ofString "") ts)), some (.int m), some (.ref d4), some (.int vN), some (.int vO), some (.ref d6), x9, x10, x11, x12] ∧ Same H2 H' ∧ H' pt = some (.lst (ts.map V.str)) ∧ H' d4 = some (.frz o (.dK (vs5 vA vB vC))) ∧ H' d6 = some (.dK ((kn5 vN vO vA vB vC).take (i + 2)))) ?_ ?_ ?_ ?_
    · exact ⟨_, rfl, Mu.mk'.same g7 n2, Mu.mk'.old h37 npt4, upd_same, Mu.mk'.old h7 n46.symm⟩
    · rintro j σ H8 hj ⟨x9', rfl, g8, h8p, h8d, h8k⟩
      exact h8d
    · rintro j k v σ H8 hk ⟨x9', rfl, g8, h8p, h8d, h8k⟩
      clear h57 h37 h7 g7
      have pick : ∃ x : Str, k = .inr x ∧ valV (vs5 vA vB vC) (.inr x) = some v ∧ putK ((kn5 vN vO vA vB vC).take (j + 2)) (.inr x) v = (kn5 vN vO vA vB vC).take (j + 1 + 2) := by
        match j, hk with
        | 0, hk => cases hk; exact ⟨_, rfl, rfl, rfl⟩
        | 1, hk => cases hk; exact ⟨_, rfl, rfl, rfl⟩
        | 2, hk => cases hk; exact ⟨_, rfl, rfl, rfl⟩
        | j + 3, hk => exact absurd hk (by unfold vs5; simp)
      obtain ⟨x, rfl, ev, ep⟩ := pick
      have l8 : ((kn5 vN vO vA vB vC).take (j + 2)).length ≤ 5 := by rw [List.length_take]; exact Nat.min_le_right _ _
      show gName 9 (.str x) _ _ _
      walk_at "rd"
      refine ⟨_, .inr ⟨_, h8d⟩, _, ev, by omega, fun H9 mu => ?_⟩
      rw [ep] at mu
      exact ⟨mu.same g8 n6, mu.old h8p npt6, mu.old h8d n46, mu.at_⟩
    · rintro σ H8 ⟨x9', rfl, g8, h8p, h8d, h8k⟩
      clear h57 h37 h7 g7
      refine ⟨d4, nf, o, _, h8d, ?_⟩
      have h9p : (upd H8 d4 (.dK (vs5 vA vB vC))) pt = some (.lst (ts.map V.str)) := Mu.mk'.old h8p npt4
      have h9k : (upd H8 d4 (.dK (vs5 vA vB vC))) d6 = some (.dK (kn5 vN vO vA vB vC)) := Mu.mk'.old h8k n46.symm
      have h9d : (upd H8 d4 (.dK (vs5 vA vB vC))) d4 = some (.dK (vs5 vA vB vC)) := upd_same
      have g9 : Same H2 (upd H8 d4 (.dK (vs5 vA vB vC))) := Mu.mk'.same g8 n2
      generalize upd H8 d4 (.dK (vs5 vA vB vC)) = H9 at h9p h9k h9d g9 ⊢
      clear h8p h8d h8k g8
      walk_at "rd"
      have kn := kn5_ok b1 b2 b3 b4 b5
      refine ⟨pt, d6, ts, _, _, rfl, h9p, w3, h9k, kn, fun r H10 n ns' S b g10 hs h10 => ?_⟩
      obtain ⟨t, ht, dt, gt, et⟩ := heart (vs := vs5 vA vB vC) w3 kn (fun x hx => by rcases hx with rfl | rfl | rfl <;> rfl) (by omega) hs
      have et : ev (vs5 vA vB vC) vN vO t = if b = true then .big else .val n := et
      have h10d := g10 _ _ h9d
      refine ⟨r, rfl, _, h10, rfl, _, _, rfl, _, _, rfl, rfl, fun p11 H11 hp11 g11 h11 => ?_⟩
      have g211 := (g9.trans g10).trans g11
      have h11d := g11 _ _ h10d
      clear hs h10 h10d h9p h9k h9d g9 hp11
      refine ⟨fun σ' H' => ∃ (x : V), σ' = [some (.ref a), some (.int c), some (.ref pt), some (.str (Txt.join (Str.ofString "") ts)), some (.int m), some (.ref d4), some (.int vN), some (.int vO), some (.ref d6), x9', some (.int n), some (.bl b), some x] ∧ Same H2 H' ∧ H' d4 = some (.dK (vs5 vA vB vC)) ∧ Rp K H' x (ev (vs5 vA vB vC) vN vO t).toD, ⟨b, rfl, ?_⟩, ?_⟩
      · cases b with
        | true => exact iteT fun p12 H12 _ g12 h12 p13 H13 _ g13 h13 => ⟨_, rfl, (g211.trans g12).trans g13, g13 _ _ (g12 _ _ h11d), by rw [et]; exact rp_big h13 (g13 _ _ h12)⟩
        | false => exact iteF ⟨_, rfl, g211, h11d, by rw [et]; exact rp_val h11⟩
      · rintro σ' H12 ⟨x, rfl, g12, h12d, rp⟩
        have sh : SeqAt.shaped (ev (vs5 vA vB vC) vN vO t).toD = true := res_shaped fun y hy => by
          rw [et] at hy
          cases b <;> cases hy
        clear h11 h11d g211 g11 et
        walk_at "rd"
        refine ⟨_, rfl, by omega, fun t' ht' r13 H13 g13 e13 => ?_, fun z => by rw [ht] at z; cases z⟩
        rw [ht] at ht'
        cases ht'
        have bd : ∀ n : Int, -3000 ≤ n ∧ n ≤ 3000 → Bd n := fun n hn => ⟨by omega, by omega⟩
        refine ⟨_, d4, _, vN, vO, t, rfl, e13, dt, gt, g13 _ _ h12d, fun kv hk => ?_, bd _ b1, bd _ b2, fun r14 H14 g14 e14 => ?_⟩
        · unfold vs5 at hk
          simp only [List.mem_cons, List.not_mem_nil, or_false] at hk
          rcases hk with rfl | rfl | rfl
          · exact ⟨_, rfl, bd _ b3⟩
          · exact ⟨_, rfl, bd _ b4⟩
          · exact ⟨_, rfl, bd _ b5⟩
        · refine ⟨_, _, e14, rp.mono (g13.trans g14), sh, sh, _, rfl, ?_⟩
          rw [eqv_self]
          exact iteF ((g2.trans g12).trans (g13.trans g14))
  · rintro σ H2 ⟨x1, x2, x3, x4, x5, x6, x7, x8, x9, x10, x11, x12, rfl, g2⟩
    walk_at "rd"
end
end K05

set_option Elab.async false
set_option linter.all false
set_option maxRecDepth 100000
set_option maxHeartbeats 4000000
namespace K05
open PySem L2
theorem all_mk {l : PySem.W.OpenLaw} {w : World} {K : PySem.W.Frag} {h : Heap} {mg : Str → Option Value} {fa : Addr} (X : K.In h) (G : h.Ns mainGlobals mg) (hfa : mg "law" = some (.ref fa))
    {f1 : Addr} {od1 an1 : Option Addr} {sl1 : Array (Option Value)} {oc1 kV1 dc1 pm1 cd1 ct1 : Value} (a1 : PySem.W.nsIn K mainGlobals "is_name" = some (some (.ref f1))) (l1 : K.lookup f1 = some ⟨oc1, od1, .func (PySem.W.fnOf "is_name" "is_name" (defArgs s_is_name) (defBody s_is_name) (defScope s_is_name) .none kV1 dc1 pm1 an1 cd1 ct1), sl1⟩) (c1 : PySem.W.codeIn K cd1 "is_name" = true) (k1 : PySem.W.keepIn K (.ref f1) = true)
    {f2 : Addr} {od2 an2 : Option Addr} {sl2 : Array (Option Value)} {oc2 kV2 dc2 pm2 cd2 ct2 : Value} (a2 : PySem.W.nsIn K mainGlobals "is_number" = some (some (.ref f2))) (l2 : K.lookup f2 = some ⟨oc2, od2, .func (PySem.W.fnOf "is_number" "is_number" (defArgs s_is_number) (defBody s_is_number) (defScope s_is_number) .none kV2 dc2 pm2 an2 cd2 ct2), sl2⟩) (c2 : PySem.W.codeIn K cd2 "is_number" = true) (k2 : PySem.W.keepIn K (.ref f2) = true)
    {f3 : Addr} {od3 an3 : Option Addr} {sl3 : Array (Option Value)} {oc3 kV3 dc3 pm3 cd3 ct3 : Value} (a3 : PySem.W.nsIn K mainGlobals "is_whole" = some (some (.ref f3))) (l3 : K.lookup f3 = some ⟨oc3, od3, .func (PySem.W.fnOf "is_whole" "is_whole" (defArgs s_is_whole) (defBody s_is_whole) (defScope s_is_whole) .none kV3 dc3 pm3 an3 cd3 ct3), sl3⟩) (c3 : PySem.W.codeIn K cd3 "is_whole" = true) (k3 : PySem.W.keepIn K (.ref f3) = true)
    {f4 : Addr} {od4 an4 : Option Addr} {sl4 : Array (Option Value)} {oc4 kV4 dc4 pm4 cd4 ct4 : Value} (a4 : PySem.W.nsIn K mainGlobals "expression" = some (some (.ref f4))) (l4 : K.lookup f4 = some ⟨oc4, od4, .func (PySem.W.fnOf "expression" "expression" (defArgs s_expression) (defBody s_expression) (defScope s_expression) .none kV4 dc4 pm4 an4 cd4 ct4), sl4⟩) (c4 : PySem.W.codeIn K cd4 "expression" = true) (k4 : PySem.W.keepIn K (.ref f4) = true)
    {f5 : Addr} {od5 an5 : Option Addr} {sl5 : Array (Option Value)} {oc5 kV5 dc5 pm5 cd5 ct5 : Value} (a5 : PySem.W.nsIn K mainGlobals "tokens_of" = some (some (.ref f5))) (l5 : K.lookup f5 = some ⟨oc5, od5, .func (PySem.W.fnOf "tokens_of" "tokens_of" (defArgs s_tokens_of) (defBody s_tokens_of) (defScope s_tokens_of) .none kV5 dc5 pm5 an5 cd5 ct5), sl5⟩) (c5 : PySem.W.codeIn K cd5 "tokens_of" = true) (k5 : PySem.W.keepIn K (.ref f5) = true)
    {f6 : Addr} {od6 an6 : Option Addr} {sl6 : Array (Option Value)} {oc6 kV6 dc6 pm6 cd6 ct6 : Value} (a6 : PySem.W.nsIn K mainGlobals "read_sum" = some (some (.ref f6))) (l6 : K.lookup f6 = some ⟨oc6, od6, .func (PySem.W.fnOf "read_sum" "read_sum" (defArgs s_read_sum) (defBody s_read_sum) (defScope s_read_sum) .none kV6 dc6 pm6 an6 cd6 ct6), sl6⟩) (c6 : PySem.W.codeIn K cd6 "read_sum" = true) (k6 : PySem.W.keepIn K (.ref f6) = true)
    {f7 : Addr} {od7 an7 : Option Addr} {sl7 : Array (Option Value)} {oc7 kV7 dc7 pm7 cd7 ct7 : Value} (a7 : PySem.W.nsIn K mainGlobals "read_term" = some (some (.ref f7))) (l7 : K.lookup f7 = some ⟨oc7, od7, .func (PySem.W.fnOf "read_term" "read_term" (defArgs s_read_term) (defBody s_read_term) (defScope s_read_term) .none kV7 dc7 pm7 an7 cd7 ct7), sl7⟩) (c7 : PySem.W.codeIn K cd7 "read_term" = true) (k7 : PySem.W.keepIn K (.ref f7) = true)
    {f8 : Addr} {od8 an8 : Option Addr} {sl8 : Array (Option Value)} {oc8 kV8 dc8 pm8 cd8 ct8 : Value} (a8 : PySem.W.nsIn K mainGlobals "read_factor" = some (some (.ref f8))) (l8 : K.lookup f8 = some ⟨oc8, od8, .func (PySem.W.fnOf "read_factor" "read_factor" (defArgs s_read_factor) (defBody s_read_factor) (defScope s_read_factor) .none kV8 dc8 pm8 an8 cd8 ct8), sl8⟩) (c8 : PySem.W.codeIn K cd8 "read_factor" = true) (k8 : PySem.W.keepIn K (.ref f8) = true)
    {f9 : Addr} {od9 an9 : Option Addr} {sl9 : Array (Option Value)} {oc9 kV9 dc9 pm9 cd9 ct9 : Value} (a9 : PySem.W.nsIn K mainGlobals "leaf" = some (some (.ref f9))) (l9 : K.lookup f9 = some ⟨oc9, od9, .func (PySem.W.fnOf "leaf" "leaf" (defArgs s_leaf) (defBody s_leaf) (defScope s_leaf) .none kV9 dc9 pm9 an9 cd9 ct9), sl9⟩) (c9 : PySem.W.codeIn K cd9 "leaf" = true) (k9 : PySem.W.keepIn K (.ref f9) = true)
    {f10 : Addr} {od10 an10 : Option Addr} {sl10 : Array (Option Value)} {oc10 kV10 dc10 pm10 cd10 ct10 : Value} (a10 : PySem.W.nsIn K mainGlobals "worth" = some (some (.ref f10))) (l10 : K.lookup f10 = some ⟨oc10, od10, .func (PySem.W.fnOf "worth" "worth" (defArgs s_worth) (defBody s_worth) (defScope s_worth) .none kV10 dc10 pm10 an10 cd10 ct10), sl10⟩) (c10 : PySem.W.codeIn K cd10 "worth" = true) (k10 : PySem.W.keepIn K (.ref f10) = true)
    {f11 : Addr} {od11 an11 : Option Addr} {sl11 : Array (Option Value)} {oc11 kV11 dc11 pm11 cd11 ct11 : Value} (a11 : PySem.W.nsIn K mainGlobals "worth_of_name" = some (some (.ref f11))) (l11 : K.lookup f11 = some ⟨oc11, od11, .func (PySem.W.fnOf "worth_of_name" "worth_of_name" (defArgs s_worth_of_name) (defBody s_worth_of_name) (defScope s_worth_of_name) .none kV11 dc11 pm11 an11 cd11 ct11), sl11⟩) (c11 : PySem.W.codeIn K cd11 "worth_of_name" = true) (k11 : PySem.W.keepIn K (.ref f11) = true)
    {f12 : Addr} {od12 an12 : Option Addr} {sl12 : Array (Option Value)} {oc12 kV12 dc12 pm12 cd12 ct12 : Value} (a12 : PySem.W.nsIn K mainGlobals "reckoned" = some (some (.ref f12))) (l12 : K.lookup f12 = some ⟨oc12, od12, .func (PySem.W.fnOf "reckoned" "reckoned" (defArgs s_reckoned) (defBody s_reckoned) (defScope s_reckoned) .none kV12 dc12 pm12 an12 cd12 ct12), sl12⟩) (c12 : PySem.W.codeIn K cd12 "reckoned" = true) (k12 : PySem.W.keepIn K (.ref f12) = true)
    {f13 : Addr} {od13 an13 : Option Addr} {sl13 : Array (Option Value)} {oc13 kV13 dc13 pm13 cd13 ct13 : Value} (a13 : PySem.W.nsIn K mainGlobals "bounded" = some (some (.ref f13))) (l13 : K.lookup f13 = some ⟨oc13, od13, .func (PySem.W.fnOf "bounded" "bounded" (defArgs s_bounded) (defBody s_bounded) (defScope s_bounded) .none kV13 dc13 pm13 an13 cd13 ct13), sl13⟩) (c13 : PySem.W.codeIn K cd13 "bounded" = true) (k13 : PySem.W.keepIn K (.ref f13) = true)
    {f14 : Addr} {od14 an14 : Option Addr} {sl14 : Array (Option Value)} {oc14 kV14 dc14 pm14 cd14 ct14 : Value} (a14 : PySem.W.nsIn K mainGlobals "_law_stir" = some (some (.ref f14))) (l14 : K.lookup f14 = some ⟨oc14, od14, .func (PySem.W.fnOf "_law_stir" "_law_stir" (defArgs s__law_stir) (defBody s__law_stir) (defScope s__law_stir) .none kV14 dc14 pm14 an14 cd14 ct14), sl14⟩) (c14 : PySem.W.codeIn K cd14 "_law_stir" = true) (k14 : PySem.W.keepIn K (.ref f14) = true)
    {f15 : Addr} {od15 an15 : Option Addr} {sl15 : Array (Option Value)} {oc15 kV15 dc15 pm15 cd15 ct15 : Value} (a15 : PySem.W.nsIn K mainGlobals "_law_parts" = some (some (.ref f15))) (l15 : K.lookup f15 = some ⟨oc15, od15, .func (PySem.W.fnOf "_law_parts" "_law_parts" (defArgs s__law_parts) (defBody s__law_parts) (defScope s__law_parts) .none kV15 dc15 pm15 an15 cd15 ct15), sl15⟩) (c15 : PySem.W.codeIn K cd15 "_law_parts" = true) (k15 : PySem.W.keepIn K (.ref f15) = true)
    {f16 : Addr} {od16 an16 : Option Addr} {sl16 : Array (Option Value)} {oc16 kV16 dc16 pm16 cd16 ct16 : Value} (a16 : PySem.W.nsIn K mainGlobals "_law_reckon" = some (some (.ref f16))) (l16 : K.lookup f16 = some ⟨oc16, od16, .func (PySem.W.fnOf "_law_reckon" "_law_reckon" (defArgs s__law_reckon) (defBody s__law_reckon) (defScope s__law_reckon) .none kV16 dc16 pm16 an16 cd16 ct16), sl16⟩) (c16 : PySem.W.codeIn K cd16 "_law_reckon" = true) (k16 : PySem.W.keepIn K (.ref f16) = true)
    {f17 : Addr} {od17 an17 : Option Addr} {sl17 : Array (Option Value)} {oc17 kV17 dc17 pm17 cd17 ct17 : Value} (a17 : PySem.W.nsIn K mainGlobals "_law_due" = some (some (.ref f17))) (l17 : K.lookup f17 = some ⟨oc17, od17, .func (PySem.W.fnOf "_law_due" "_law_due" (defArgs s__law_due) (defBody s__law_due) (defScope s__law_due) .none kV17 dc17 pm17 an17 cd17 ct17), sl17⟩) (c17 : PySem.W.codeIn K cd17 "_law_due" = true) (k17 : PySem.W.keepIn K (.ref f17) = true)
    {f18 : Addr} {od18 an18 : Option Addr} {sl18 : Array (Option Value)} {oc18 kV18 dc18 pm18 cd18 ct18 : Value} (a18 : PySem.W.nsIn K mainGlobals "law" = some (some (.ref f18))) (l18 : K.lookup f18 = some ⟨oc18, od18, .func (PySem.W.fnOf "law" "law" (defArgs s_law) (defBody s_law) (defScope s_law) .none kV18 dc18 pm18 an18 cd18 ct18), sl18⟩) (c18 : PySem.W.codeIn K cd18 "law" = true) (k18 : PySem.W.keepIn K (.ref f18) = true)
    (z1 : PySem.W.nsIn K mainGlobals "len" = some none)
    (z2 : PySem.W.nsIn K mainGlobals "all" = some none)
    (z3 : PySem.W.nsIn K mainGlobals "int" = some none)
    (z4 : PySem.W.nsIn K mainGlobals "str" = some none)
    (z5 : PySem.W.nsIn K mainGlobals "range" = some none)
    (z6 : PySem.W.nsIn K mainGlobals "abs" = some none)
    {tk1 : Tok} (g1 : PySem.W.nsIn K mainGlobals "MOST_LETTERS" = some (some (.int 8 tk1)))
    {tk2 : Tok} (g2 : PySem.W.nsIn K mainGlobals "LETTERS" = some (some (.str "abcdefghijklmnopqrstuvwxyz" tk2)))
    {tk3 : Tok} (g3 : PySem.W.nsIn K mainGlobals "MOST_FIGURES" = some (some (.int 6 tk3)))
    {tk4 : Tok} (g4 : PySem.W.nsIn K mainGlobals "FIGURES" = some (some (.str "0123456789" tk4)))
    {tk5 : Tok} (g5 : PySem.W.nsIn K mainGlobals "MOST_SIGNS" = some (some (.int 60 tk5)))
    {tk6 : Tok} (g6 : PySem.W.nsIn K mainGlobals "LAST" = some (some (.str "" tk6)))
    {tk7 : Tok} (g7 : PySem.W.nsIn K mainGlobals "SIGNS" = some (some (.str "+-*()" tk7)))
    {tk8 : Tok} (g8 : PySem.W.nsIn K mainGlobals "MOST_BRACKETS" = some (some (.int 5 tk8)))
    {tk9 : Tok} (g9 : PySem.W.nsIn K mainGlobals "MOST_WORTH" = some (some (.int 1000000 tk9)))
    {C_NoRow : Addr} (cg_NoRow : PySem.W.nsIn K mainGlobals "NoRow" = some (some (.ref C_NoRow)))
    (ex0 : PySem.W.excIn K C_NoRow veM "ValueError.__new__" = true)
    {aNN : Addr} (cg_NN : PySem.W.nsIn K mainGlobals "NO_NAMES" = some (some (.ref aNN)))
    {dNN : Option Addr} {itsN : Array Value} {nNN : Nat} {slN : Array (Option Value)} (lk_NN : K.lookup aNN = some ⟨.type "tuple", dNN, .seq itsN nNN, slN⟩)
    (sz_NN : itsN.size ≤ sizeLine) (vs_NN : Vals noN itsN.toList)
     :
    ∃ fd : FuncData, (∀ (s : Shared) (v : Value), BindsTo s fd ⟨[v], []⟩ [("script", v)]) ∧ ∀ base : Heap, K.In base → base.Ns mainGlobals mg → FnOk l.prog w K mg base CX0 204 fa fd ["script"] (spLaw K) := by
  have e := hfa.symm.trans (PySem.W.mg_of X G a18)
  cases e
  have A_is_name : DefAt K mg "is_name" s_is_name ["word"] := DefAt.mk' X G a1 l1 c1 k1 fun _ _ _ _ _ _ us hl => match us, hl with | [_], _ => rfl
  have A_is_number : DefAt K mg "is_number" s_is_number ["word"] := DefAt.mk' X G a2 l2 c2 k2 fun _ _ _ _ _ _ us hl => match us, hl with | [_], _ => rfl
  have A_is_whole : DefAt K mg "is_whole" s_is_whole ["word", "most"] := DefAt.mk' X G a3 l3 c3 k3 fun _ _ _ _ _ _ us hl => match us, hl with | [_, _], _ => rfl
  have A_expression : DefAt K mg "expression" s_expression ["word"] := DefAt.mk' X G a4 l4 c4 k4 fun _ _ _ _ _ _ us hl => match us, hl with | [_], _ => rfl
  have A_tokens_of : DefAt K mg "tokens_of" s_tokens_of ["word"] := DefAt.mk' X G a5 l5 c5 k5 fun _ _ _ _ _ _ us hl => match us, hl with | [_], _ => rfl
  have A_read_sum : DefAt K mg "read_sum" s_read_sum ["tokens", "at", "depth"] := DefAt.mk' X G a6 l6 c6 k6 fun _ _ _ _ _ _ us hl => match us, hl with | [_, _, _], _ => rfl
  have A_read_term : DefAt K mg "read_term" s_read_term ["tokens", "at", "depth"] := DefAt.mk' X G a7 l7 c7 k7 fun _ _ _ _ _ _ us hl => match us, hl with | [_, _, _], _ => rfl
  have A_read_factor : DefAt K mg "read_factor" s_read_factor ["tokens", "at", "depth"] := DefAt.mk' X G a8 l8 c8 k8 fun _ _ _ _ _ _ us hl => match us, hl with | [_, _, _], _ => rfl
  have A_leaf : DefAt K mg "leaf" s_leaf ["token"] := DefAt.mk' X G a9 l9 c9 k9 fun _ _ _ _ _ _ us hl => match us, hl with | [_], _ => rfl
  have A_worth : DefAt K mg "worth" s_worth ["e", "values", "now", "own"] := DefAt.mk' X G a10 l10 c10 k10 fun _ _ _ _ _ _ us hl => match us, hl with | [_, _, _, _], _ => rfl
  have A_worth_of_name : DefAt K mg "worth_of_name" s_worth_of_name ["name", "values"] := DefAt.mk' X G a11 l11 c11 k11 fun _ _ _ _ _ _ us hl => match us, hl with | [_, _], _ => rfl
  have A_reckoned : DefAt K mg "reckoned" s_reckoned ["sign", "left", "right"] := DefAt.mk' X G a12 l12 c12 k12 fun _ _ _ _ _ _ us hl => match us, hl with | [_, _, _], _ => rfl
  have A_bounded : DefAt K mg "bounded" s_bounded ["n"] := DefAt.mk' X G a13 l13 c13 k13 fun _ _ _ _ _ _ us hl => match us, hl with | [_], _ => rfl
  have A__law_stir : DefAt K mg "_law_stir" s__law_stir ["cell", "k"] := DefAt.mk' X G a14 l14 c14 k14 fun _ _ _ _ _ _ us hl => match us, hl with | [_, _], _ => rfl
  have A__law_parts : DefAt K mg "_law_parts" s__law_parts ["cell"] := DefAt.mk' X G a15 l15 c15 k15 fun _ _ _ _ _ _ us hl => match us, hl with | [_], _ => rfl
  have A__law_reckon : DefAt K mg "_law_reckon" s__law_reckon ["numbers", "signs"] := DefAt.mk' X G a16 l16 c16 k16 fun _ _ _ _ _ _ us hl => match us, hl with | [_, _], _ => rfl
  have A__law_due : DefAt K mg "_law_due" s__law_due ["parts", "values"] := DefAt.mk' X G a17 l17 c17 k17 fun _ _ _ _ _ _ us hl => match us, hl with | [_, _], _ => rfl
  have hlen : mg "len" = none := PySem.W.mg_none_of X G z1
  have hall : mg "all" = none := PySem.W.mg_none_of X G z2
  have hint : mg "int" = none := PySem.W.mg_none_of X G z3
  have hstr : mg "str" = none := PySem.W.mg_none_of X G z4
  have hrange : mg "range" = none := PySem.W.mg_none_of X G z5
  have habs : mg "abs" = none := PySem.W.mg_none_of X G z6
  have g_MOST_LETTERS := PySem.W.mg_of X G g1
  have g_LETTERS := PySem.W.mg_of X G g2
  have g_MOST_FIGURES := PySem.W.mg_of X G g3
  have g_FIGURES := PySem.W.mg_of X G g4
  have g_MOST_SIGNS := PySem.W.mg_of X G g5
  have g_LAST := PySem.W.mg_of X G g6
  have g_SIGNS := PySem.W.mg_of X G g7
  have g_MOST_BRACKETS := PySem.W.mg_of X G g8
  have g_MOST_WORTH := PySem.W.mg_of X G g9
  have gl_NoRow := PySem.W.mg_of X G cg_NoRow
  have gl_NN := PySem.W.mg_of X G cg_NN
  have qNN : ∀ H : Hp, SqT K H aNN noN := fun H => .inr ⟨_, itsN, nNN, lk_NN, rfl, rfl, sz_NN, vs_NN⟩
  have FL := fun_mk (st := s_law) l18 c18 k18
  refine ⟨PySem.W.fnOf "law" "law" (defArgs s_law) (defBody s_law) (defScope s_law) .none kV18 dc18 pm18 an18 cd18 ct18, fun s v => .of_eq rfl, fun base _ _ => ?_⟩
  exact by
    have O_NoRow : ExcAt K mg "NoRow" C_NoRow := ⟨gl_NoRow, ex0⟩
    have Gname := ok_is_name (P := l.prog) (w := w) (base := base) A_is_name g_MOST_LETTERS g_LETTERS gl_NN qNN hlen hall
    have Gnum := ok_is_number (P := l.prog) (w := w) (base := base) A_is_number g_MOST_FIGURES (ok_is_whole A_is_whole g_FIGURES hlen hall)
    have Gleaf := ok_leaf A_leaf Gname Gnum O_NoRow hint
    have Gexpr := ok_expression A_expression g_MOST_SIGNS g_LAST hlen O_NoRow (ok_tokens_of A_tokens_of g_SIGNS g_LAST) (ok_sums A_read_factor A_read_term A_read_sum g_MOST_BRACKETS O_NoRow Gleaf 5 (Nat.le_refl _))
    have Gstir := ok_stir (P := l.prog) (w := w) (base := base) A__law_stir
    have Gworth := ok_worth (P := l.prog) (w := w) (base := base) A_worth (ok_name A_worth_of_name) (ok_reck A_reckoned) (ok_bounded A_bounded g_MOST_WORTH habs) 200
    exact ok_law FL Gstir (ok_parts A__law_parts Gstir hrange hstr) (ok_due A__law_due hint (ok_reckon A__law_reckon habs)) Gworth Gexpr hlen
theorem walk {l : PySem.W.OpenLaw} {q : Program} {loose : List Str} {XP : (Str → Option Value) → Heap → Prop} {YP : World → Heap → Prop} {d : DefRec} {K : Params → PySem.W.Frag} (hn : l.most = some 63) (hdf : d.params.defaults = [])
    (hY : ∀ (w : World) (h : Heap), YP w h → (K w.params).In h)
    (F : ∀ (w : World) (mg : Str → Option Value) (fa : Addr) (h : Heap), (K w.params).In h → h.Ns mainGlobals mg → mg d.name = some (.ref fa) →
      ∃ fd : FuncData, (∀ (s : Shared) (u : Value), BindsTo s fd ⟨[u], []⟩ [("script", u)]) ∧ ∀ base : Heap, (K w.params).In base → base.Ns mainGlobals mg → FnOk l.prog w (K w.params) mg base CX0 204 fa fd ["script"] (spLaw (K w.params))) :
    PySem.W.WalkO q loose XP YP l.row.toRowW d [] (fun f vs => PySem.call f vs) :=
  L2.walk_of (n := 63) (k := 204) (x := "script") (CX := fun _ => CX0) (sp := fun w => spLaw (K w.params)) hn (by decide) hdf ⟨rfl, by decide, by decide⟩ hY F (fun _ _ a ns hl _ hS => ⟨a, ns, rfl, hS, hl, fun _ => rfl⟩) fun _ _ _ _ _ z => z
end K05
open PySem PySem.W PyProof.Rows
set_option maxRecDepth 100000 in
set_option maxHeartbeats 0 in
theorem PySem.Challenge.cw_rerunyard_k05_whole_words_worth_holds : PySem.Challenge.rw_rerunyard_k05_whole_words_worth.Holds := by
  w_on; o_law; k_head; (case hw => w_witness2)
  k_fill
  refine K05.walk (l := PySem.Challenge.rw_rerunyard_k05_whole_words_worth) rfl rfl (fun w h Y => PySem.W.kIn_of Y) ?F
  case F =>
    intro w mg fa h KX G hmg
    refine' K05.all_mk KX G hmg ?a1 ?l1 ?c1 ?k1 ?a2 ?l2 ?c2 ?k2 ?a3 ?l3 ?c3 ?k3 ?a4 ?l4 ?c4 ?k4 ?a5 ?l5 ?c5 ?k5 ?a6 ?l6 ?c6 ?k6 ?a7 ?l7 ?c7 ?k7 ?a8 ?l8 ?c8 ?k8 ?a9 ?l9 ?c9 ?k9 ?a10 ?l10 ?c10 ?k10 ?a11 ?l11 ?c11 ?k11 ?a12 ?l12 ?c12 ?k12 ?a13 ?l13 ?c13 ?k13 ?a14 ?l14 ?c14 ?k14 ?a15 ?l15 ?c15 ?k15 ?a16 ?l16 ?c16 ?k16 ?a17 ?l17 ?c17 ?k17 ?a18 ?l18 ?c18 ?k18 ?z1 ?z2 ?z3 ?z4 ?z5 ?z6 ?g1 ?g2 ?g3 ?g4 ?g5 ?g6 ?g7 ?g8 ?g9 ?cg_NoRow ?ex0 ?cg_NN ?lk_NN ?sz_NN ?vs_NN
    (case a1 => k_is); (case l1 => k_is); (case c1 => k_is); (case k1 => k_is); (case a2 => k_is); (case l2 => k_is); (case c2 => k_is); (case k2 => k_is); (case a3 => k_is); (case l3 => k_is); (case c3 => k_is); (case k3 => k_is); (case a4 => k_is); (case l4 => k_is); (case c4 => k_is); (case k4 => k_is); (case a5 => k_is); (case l5 => k_is); (case c5 => k_is); (case k5 => k_is); (case a6 => k_is); (case l6 => k_is); (case c6 => k_is); (case k6 => k_is); (case a7 => k_is); (case l7 => k_is); (case c7 => k_is); (case k7 => k_is); (case a8 => k_is); (case l8 => k_is); (case c8 => k_is); (case k8 => k_is); (case a9 => k_is); (case l9 => k_is); (case c9 => k_is); (case k9 => k_is); (case a10 => k_is); (case l10 => k_is); (case c10 => k_is); (case k10 => k_is); (case a11 => k_is); (case l11 => k_is); (case c11 => k_is); (case k11 => k_is); (case a12 => k_is); (case l12 => k_is); (case c12 => k_is); (case k12 => k_is); (case a13 => k_is); (case l13 => k_is); (case c13 => k_is); (case k13 => k_is); (case a14 => k_is); (case l14 => k_is); (case c14 => k_is); (case k14 => k_is); (case a15 => k_is); (case l15 => k_is); (case c15 => k_is); (case k15 => k_is); (case a16 => k_is); (case l16 => k_is); (case c16 => k_is); (case k16 => k_is); (case a17 => k_is); (case l17 => k_is); (case c17 => k_is); (case k17 => k_is); (case a18 => k_is); (case l18 => k_is); (case c18 => k_is); (case k18 => k_is); (case z1 => k_is); (case z2 => k_is); (case z3 => k_is); (case z4 => k_is); (case z5 => k_is); (case z6 => k_is); (case g1 => k_is); (case g2 => k_is); (case g3 => k_is); (case g4 => k_is); (case g5 => k_is); (case g6 => k_is); (case g7 => k_is); (case g8 => k_is); (case g9 => k_is); (case cg_NoRow => k_is); (case ex0 => kernel_rfl); (case cg_NN => k_is); (case lk_NN => k_is); (case sz_NN => (show _ ≤ 2 ^ 24); decide); (case vs_NN => repeat (first | exact .nil | refine .cons ⟨_, rfl⟩ ?_))
#print axioms PySem.Challenge.cw_rerunyard_k05_whole_words_worth_holds

